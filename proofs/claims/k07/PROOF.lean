import PyProof.Rows.All
import Wide.All
import OpenK.AllK
import Wide.FinOn
import HandS.ForMost
import HandS.IsInst
import HandS.Conv
import HandS.Zip
import HandS.Style
import HandS.Wide
import HandS.Codes
import HandS.TupAny
import HandS.TupMul
import HandS.SlotsOwn
import HandS.ForExc
import PyProof.EqLayable
import HandS.WideBits
import HandS.Walk
import HandS.TryOnly
import KE.GoesMore
import PySem.Challenge.RW_cutlinked_k07_whole_shapes_judged
set_option Elab.async false
set_option linter.all false
set_option maxRecDepth 100000
set_option maxHeartbeats 4000000
namespace W2
open PySem PySem.Spec PyProof.Rows L2
/-! ### x is True, x is False, whatever x is -/
def rIsBo : R2 := fun x y H Q => ∃ b : Bool, y = .bl b ∧ Q (.bl (decide (x = .bl b))) H
theorem op_isB {X : Cx} : OpR X (compareOp .Is) rIsBo := by
  intro pins s σ H x y v u Q I rx ry h
  obtain ⟨b, rfl, q⟩ := h
  cases (show u = Value.bool b from ry)
  by_cases e : x = .bl b
  · subst e
    cases (show v = Value.bool b from rx)
    exact wpAny_is_self rfl ⟨.bl true, H, I, rfl, by simpa using q⟩
  · have nv : v ≠ Value.bool b := fun z => e (rx.inj (show RelV (.bl b) v from z))
    have q' : Q (.bl false) H := by rw [decide_eq_false e] at q; exact q
    cases x with
    | non => cases (show v = Value.none from rx); exact wpAny_is_other rfl (fun z => nomatch z) ⟨.bl false, H, I, rfl, q'⟩
    | bl a => cases (show v = Value.bool a from rx); exact wpAny_is_other rfl nv ⟨.bl false, H, I, rfl, q'⟩
    | int i => obtain ⟨t, rfl⟩ := rx; exact wpAny_is_other rfl nv ⟨.bl false, H, I, rfl, q'⟩
    | str i => obtain ⟨t, rfl⟩ := rx; exact wpAny_is_other rfl nv ⟨.bl false, H, I, rfl, q'⟩
    | byt i => obtain ⟨t, rfl⟩ := rx; exact wpAny_is_other rfl nv ⟨.bl false, H, I, rfl, q'⟩
    | flt i => obtain ⟨t, rfl⟩ := rx; exact wpAny_is_other rfl nv ⟨.bl false, H, I, rfl, q'⟩
    | ref a => cases (show v = Value.ref a from rx); exact wpAny_is_other rfl nv ⟨.bl false, H, I, rfl, q'⟩
    | ty n => cases (show v = Value.type n from rx); exact wpAny_is_other rfl nv ⟨.bl false, H, I, rfl, q'⟩
/-! ### a def to be called -/
structure Cal (P : Program) (w : World) (K : PySem.W.Frag) (mg : Str → Option Value) (base : Heap) (k : Nat) (x : Str) (ps : List Str) (sp : Sp) : Prop where
  ex : ∃ f fd, FnOk P w K mg base CX0 k f fd ps sp ∧ mg x = some (.ref f) ∧ PySem.W.keepIn K (.ref f) = true ∧ Binds K fd ps []
/-- a def as the top has left it -/
structure Def (K : PySem.W.Frag) (mg : Str → Option Value) (x : Str) (st : Stmt) (ps : List Str) : Prop where
  ex : ∃ f fd, Fun K x x st f fd ∧ mg x = some (.ref f) ∧ Binds K fd ps []
section
variable {X : Cx} {k j : Nat} {x : Str} {ps : List Str} {sp : Sp} {e : Expr} {es : List Expr} {t : TA} {p pos : Pos}
theorem pcal (C : Cal X.prog X.w X.K X.mg X.base k x ps sp) (hr : Room j X.A) (hk : k ≤ j) (hg : Gl X x) (ha : PA X (e :: es) t) (hdb : (x == ("__debug__" : Str)) = false := by decide) (he : starEach (e :: es) X.env = (false, eval e X.env) :: starEach es X.env := by rfl) (hpl : (backTo pos (starEach es X.env)).any (·.1) = false := by rfl) :
    PE X (.Call (.Name x p) (e :: es) [] pos) (tCall sp [] E0 t) := by
  obtain ⟨f, fd, F, hm, kp, b⟩ := C.ex
  exact pe_call F (hr.mono hk) hg hm kp b .nil pass0 ha hdb he hpl
end
theorem Def.cal {P : Program} {w : World} {K : PySem.W.Frag} {mg : Str → Option Value} {base : Heap} {k : Nat} {x : Str} {st : Stmt} {N ps : List Str} {sp : Sp} (D : Def K mg x st ps) (S : FnScope N ps (defScope st)) (len : ∀ vs H Q E, sp vs H Q E → vs.length = ps.length)
    (hbody : ∀ (f : Addr) (cdv : Value) (A : Around) (outer : List Env) (s : Shared) (H : Hp) (vs : List V) (Q : VK) (E : XK), Room k (A.deeper (envOfC x (defScope st) s.heap.objs.size f cdv)) → sp vs H Q E →
      ∃ t, PSs (cxOf CX0 P w K mg base N x (defScope st) f cdv A outer s H E).nox (defBody st) t ∧ t { nx := fun _ H' => Q .non H', rt := Q } (start N vs) H) : Cal P w K mg base (k + 1) x ps sp := by
  obtain ⟨f, fd, F, hm, b⟩ := D.ex
  exact ⟨f, fd, F.ok S len (hbody f), hm, F.kp, b⟩
/-! ### rules whose reading names K itself (within a comprehension's block) -/
section
variable {X : Cx} {K : PySem.W.Frag}
theorem call_lenK (h : X.K = K) : CallR X (.builtin "len") (fun xs H Q => ∃ p ys, xs = [.ref p] ∧ (SqL K H p ys ∨ SqT K H p ys) ∧ Q (.int ys.length) H) := h ▸ call_len_seq
theorem call_isiK1 (h : X.K = K) : CallR X (.builtin "isinstance") (rIsi K) := h ▸ call_isi
theorem op_inK (h : X.K = K) : OpR X (compareOp .In) (rIn K false) := h ▸ op_in_seq
theorem ix_listK (h : X.K = K) : IxR X (rIxL K) := h ▸ ix_list
theorem ix_tupK (h : X.K = K) : IxR X (rIxT K) := h ▸ ix_tup
end
/-! ### heaps -/
/-- all but h stays -/
def Bt (h : Addr) (H H' : Hp) : Prop := ∀ b o, b ≠ h → H b = some o → H' b = some o
theorem Bt.refl (h : Addr) (H : Hp) : Bt h H H := fun _ _ _ e => e
theorem Bt.trans {h : Addr} {H H1 H2 : Hp} (a : Bt h H H1) (b : Bt h H1 H2) : Bt h H H2 := fun c o n e => b c o n (a c o n e)
theorem Bt.of {h : Addr} {H H' : Hp} (a : Same H H') : Bt h H H' := fun c o _ e => a c o e
theorem Bt.upd {h : Addr} {H H' : Hp} {o : HO} (a : Bt h H H') : Bt h H (upd H' h o) := fun c u n e => by rw [upd_ne n]; exact a c u n e
theorem same_upd {H : Hp} {p : Addr} {o : HO} (h : H p = none) : Same H (upd H p o) := fun b x e => by rw [upd_ne (ne_of_none e h)]; exact e
theorem Same.upd {H H' : Hp} {p : Addr} {o : HO} (a : Same H H') (h : H p = none) : Same H (upd H' p o) := fun b x e => by rw [upd_ne (ne_of_none e h)]; exact a b x e
theorem Same.new {H H' : Hp} {p : Addr} {o : HO} (a : Same H H') (h : H' p = none) : Same H (L2.upd H' p o) := a.trans (same_upd h)
theorem Bt.new {h : Addr} {H H' : Hp} {p : Addr} {o : HO} (a : Bt h H H') (hp : H' p = none) : Bt h H (L2.upd H' p o) := a.trans (Bt.of (same_upd hp))
theorem Bt.free {h p : Addr} {H H' : Hp} (a : Bt h H H') (n : p ≠ h) (hp : H' p = none) : H p = none := by
  cases e : H p with
  | none => rfl
  | some o => rw [a p o n e] at hp; cases hp
def Ret (v : V) (H : Hp) (Q : VK) : Prop := ∀ H', Same H H' → Q v H'
def RetL (xs : List V) (H : Hp) (Q : VK) : Prop := ∀ (H' : Hp) (p : Addr), Same H H' → H p = none → H' p = some (.lst xs) → Q (.ref p) H'
def RetT (xs : List V) (H : Hp) (Q : VK) : Prop := ∀ (H' : Hp) (p : Addr), Same H H' → H p = none → H' p = some (.tup xs) → Q (.ref p) H'
theorem small {n : Nat} (h : n ≤ 100000) : n ≤ sizeLine := Nat.le_trans h (by decide)
theorem smalls {n : Nat} (h : n < 100000) : n < sizeLine := Nat.lt_of_lt_of_le h (by decide)
end W2
namespace W2
open PySem PySem.Spec PyProof.Rows L2
theorem M31 : (0 : Int) < 2147483647 := by decide
theorem M30 : (0 : Int) < 2147483399 := by decide
theorem iteB {c : Bool} {A B : Prop} (h1 : c = true → A) (h2 : c = false → B) : if c = true then A else B := by
  cases c with
  | true => exact h1 rfl
  | false => exact h2 rfl
theorem atI_last {α : Type} {xs : List α} {v : α} (h : xs.getLast? = some v) : atI xs (-1) = some v := by
  rw [List.getLast?_eq_getElem?] at h
  have hn := (List.getElem?_eq_some_iff.mp h).1
  unfold atI ixN
  rw [if_neg (by decide), if_pos (by omega)]
  show xs[((-1 : Int) + (xs.length : Int)).toNat]? = some v
  rw [show ((-1 : Int) + (xs.length : Int)).toNat = xs.length - 1 by omega]
  exact h
theorem cut_to (xs : List V) (k : Nat) (h : k ≤ xs.length) : cutV xs none (some (k : Int)) = xs.take k := by
  unfold cutV
  rw [HT.sIx_none, show HT.sIx xs.length xs.length (some (k : Int)) = min k xs.length from HT.sIx_nat xs.length xs.length k, Nat.min_eq_left h]
  rfl
/-- a list whose items are ints: kinds -/
theorem isi_int {K : PySem.W.Frag} {H : Hp} {i : Int} : TyX K H (.int i) (.type "int") := .base (.int i)
end W2
namespace W2
open PySem PySem.Spec PyProof.Rows L2
theorem ixN_nat {n y : Nat} (h : y < n) : ixN n (y : Int) = some y := by
  unfold ixN
  rw [if_pos (by omega), if_pos (by omega), Int.toNat_natCast]
end W2
namespace W2
inductive Ch (ps : List (Option Nat)) : Nat → List Nat → Prop
  | root {h : Nat} : ps[h]? = some none → Ch ps h [h]
  | step {h p : Nat} {l : List Nat} : ps[h]? = some (some p) → Ch ps p l → Ch ps h (h :: l)
theorem Ch.head {ps : List (Option Nat)} {h : Nat} {l : List Nat} (c : Ch ps h l) : ∃ r, l = h :: r := by
  cases c with
  | root _ => exact ⟨[], rfl⟩
  | step _ _ => exact ⟨_, rfl⟩
theorem Ch.det {ps : List (Option Nat)} {h : Nat} {l : List Nat} (c : Ch ps h l) : ∀ {m : List Nat}, Ch ps h m → l = m := by
  induction c with
  | root e =>
    intro m d
    cases d with
    | root _ => rfl
    | step e2 _ => rw [e] at e2; cases e2
  | step e c ih =>
    intro m d
    cases d with
    | root e2 => rw [e] at e2; cases e2
    | step e2 d2 =>
      rw [e] at e2
      cases e2
      rw [ih d2]
theorem Ch.tail {ps : List (Option Nat)} : ∀ {pre : List Nat} {h x : Nat} {post : List Nat}, Ch ps h (pre ++ x :: post) → Ch ps x (x :: post)
  | [], h, x, post, c => by
    obtain ⟨r, e⟩ := c.head
    have e1 : x = h := by simpa using (List.cons.inj e).1
    subst e1
    exact c
  | a :: pre, h, x, post, c => by
    have go : ∀ m, Ch ps h m → m = a :: (pre ++ x :: post) → Ch ps x (x :: post) := by
      intro m d e
      cases d with
      | root _ =>
        have := (List.cons.inj e).2
        cases pre <;> simp at this
      | step _ d2 =>
        have e2 := (List.cons.inj e).2
        subst e2
        exact Ch.tail d2
    exact go _ c rfl
theorem Ch.lt {ps : List (Option Nat)} {h : Nat} {l : List Nat} (c : Ch ps h l) : ∀ x ∈ l, x < ps.length := by
  induction c with
  | @root h e =>
    intro x hx
    have q : x = h := by simpa using hx
    subst q
    exact (List.getElem?_eq_some_iff.mp e).1
  | step e c ih =>
    intro x hx
    rcases List.mem_cons.mp hx with rfl | hx
    · exact (List.getElem?_eq_some_iff.mp e).1
    · exact ih x hx
theorem Ch.nodup {ps : List (Option Nat)} {h : Nat} {l : List Nat} (c : Ch ps h l) : l.Nodup := by
  induction c with
  | root e => simp
  | @step h p l e c ih =>
    refine List.nodup_cons.mpr ⟨fun hm => ?_, ih⟩
    obtain ⟨pre, post, e2⟩ := List.append_of_mem hm
    subst e2
    have d := Ch.tail c
    have d2 : Ch ps h (h :: (pre ++ h :: post)) := .step e c
    have q := congrArg List.length (d.det d2)
    simp at q
    omega
theorem Ch.last {ps : List (Option Nat)} {h : Nat} {l : List Nat} (c : Ch ps h l) : ∃ r, l.getLast? = some r ∧ ps[r]? = some none := by
  induction c with
  | root e => exact ⟨_, rfl, e⟩
  | @step h p l e c ih =>
    obtain ⟨r, e1, e2⟩ := ih
    refine ⟨r, ?_, e2⟩
    obtain ⟨z, rfl⟩ := c.head
    rw [List.getLast?_cons_cons]
    exact e1
/-- at place i of the way up: the parent -/
theorem Ch.next {ps : List (Option Nat)} {h : Nat} {l : List Nat} (c : Ch ps h l) {i : Nat} {x : Nat} (hx : l[i]? = some x) : (ps[x]? = some none ∧ i + 1 = l.length) ∨ (∃ y, ps[x]? = some (some y) ∧ l[i + 1]? = some y) := by
  have hi := (List.getElem?_eq_some_iff.mp hx).1
  have hs : l = l.take i ++ x :: l.drop (i + 1) := by
    have e : l.drop i = x :: l.drop (i + 1) := by
      rw [List.drop_eq_getElem_cons hi]
      congr 1
      exact (List.getElem?_eq_some_iff.mp hx).2
    rw [← e, List.take_append_drop]
  rw [hs] at c
  have d := Ch.tail c
  generalize hq : l.drop (i + 1) = q at d
  cases d with
  | root e =>
    have := congrArg List.length hq
    simp at this
    exact .inl ⟨e, by omega⟩
  | @step _ y _ e d2 =>
    obtain ⟨r, rfl⟩ := d2.head
    refine .inr ⟨y, e, ?_⟩
    have := congrArg (fun z => z[0]?) hq
    simpa [List.getElem?_drop] using this
theorem Ch.par_lt {ps : List (Option Nat)} {h p : Nat} {l : List Nat} (c : Ch ps h l) (e : ps[h]? = some (some p)) : p < ps.length := by
  cases c with
  | root e2 => rw [e] at e2; cases e2
  | step e2 c2 =>
    rw [e] at e2
    cases e2
    obtain ⟨r, e3⟩ := c2.head
    exact c2.lt _ (by rw [e3]; simp)
open Classical in
noncomputable def up (ps : List (Option Nat)) (h : Nat) : List Nat := if e : ∃ l, Ch ps h l then e.choose else []
theorem up_of {ps : List (Option Nat)} {h : Nat} {l : List Nat} (c : Ch ps h l) : up ps h = l := by
  unfold up
  rw [dif_pos ⟨l, c⟩]
  exact (Exists.choose_spec (⟨l, c⟩ : ∃ l, Ch ps h l)).det c
/-- a right forest -/
def Tree (ps : List (Option Nat)) : Prop := ∀ h, h < ps.length → Ch ps h (up ps h) ∧ (up ps h).length ≤ ps.length
theorem tree_of {ps : List (Option Nat)} (h : ∀ h, h < ps.length → ∃ l, Ch ps h l ∧ l.length ≤ ps.length) : Tree ps := fun x hx => by
  obtain ⟨l, c, z⟩ := h x hx
  rw [up_of c]
  exact ⟨c, z⟩
/-- by an order: each house's parent stands ahead -/
theorem tree_ord {ps : List (Option Nat)} {o : List Nat} (hl : o.length = ps.length) (sur : ∀ h, h < ps.length → ∃ k : Nat, o[k]? = some h)
    (hp : ∀ (k : Nat) h, o[k]? = some h → ps[h]? = some none ∨ ∃ j p, j < k ∧ o[j]? = some p ∧ ps[h]? = some (some p)) : Tree ps := by
  have go : ∀ (k : Nat), ∀ (m : Nat), m ≤ k → ∀ h, o[m]? = some h → ∃ l, Ch ps h l ∧ l.length ≤ m + 1 := by
    intro k
    induction k with
    | zero =>
      intro m hm h e
      rcases hp m h e with q | ⟨j, p, hj, _, _⟩
      · exact ⟨[h], .root q, by simp⟩
      · omega
    | succ k ih =>
      intro m hm h e
      rcases hp m h e with q | ⟨j, p, hj, ej, q⟩
      · exact ⟨[h], .root q, by simp⟩
      · obtain ⟨l, c, z⟩ := ih j (by omega) p ej
        exact ⟨h :: l, .step q c, by simp; omega⟩
  refine tree_of fun h hh => ?_
  obtain ⟨k, ek⟩ := sur h hh
  obtain ⟨l, c, z⟩ := go k k (Nat.le_refl _) h ek
  have := (List.getElem?_eq_some_iff.mp ek).1
  exact ⟨l, c, by omega⟩
/-! ### the deepest common house -/
def fnd (l m : List Nat) : Option Nat := l.find? fun x => decide (x ∈ m)
theorem find_first {p : Nat → Bool} : ∀ {l : List Nat} {i : Nat} {x : Nat}, l[i]? = some x → p x = true → (∀ (j : Nat) y, j < i → l[j]? = some y → p y = false) → l.find? p = some x
  | [], i, x, h, _, _ => by simp at h
  | a :: l, 0, x, h, hp, _ => by
    have e : a = x := by simpa using h
    subst e
    rw [List.find?_cons, hp]
  | a :: l, i + 1, x, h, hp, hn => by
    have ha : p a = false := hn 0 a (by omega) rfl
    rw [List.find?_cons, ha]
    exact find_first (l := l) (i := i) (by simpa using h) hp fun j y hj e => hn (j + 1) y (by omega) (by simpa using e)
theorem fnd_some {l m : List Nat} {i x : Nat} (h : l[i]? = some x) (hm : x ∈ m) (hn : ∀ (j : Nat) y, j < i → l[j]? = some y → y ∉ m) : fnd l m = some x :=
  find_first h (decide_eq_true hm) fun j y hj e => decide_eq_false (hn j y hj e)
theorem fnd_none {l m : List Nat} (hn : ∀ (j : Nat) y, l[j]? = some y → y ∉ m) : fnd l m = none := by
  unfold fnd
  rw [List.find?_eq_none]
  intro x hx
  obtain ⟨j, hj, e⟩ := List.getElem_of_mem hx
  have := hn j x (List.getElem?_eq_some_iff.mpr ⟨hj, e⟩)
  simpa using this
theorem fnd_split {l m : List Nat} {x : Nat} (h : fnd l m = some x) : x ∈ m ∧ ∃ pre post, l = pre ++ x :: post ∧ ∀ y ∈ pre, y ∉ m := by
  unfold fnd at h
  rw [List.find?_eq_some_iff_append] at h
  obtain ⟨h1, as, bs, e, h2⟩ := h
  exact ⟨by simpa using h1, as, bs, e, fun y hy => by simpa using h2 y hy⟩
theorem fnd_comm {ps : List (Option Nat)} {a b : Nat} {l m : List Nat} (ca : Ch ps a l) (cb : Ch ps b m) : fnd l m = fnd m l := by
  cases e : fnd l m with
  | none =>
    symm
    refine fnd_none fun j y hy hm => ?_
    have ym : y ∈ m := List.mem_of_getElem? hy
    unfold fnd at e
    rw [List.find?_eq_none] at e
    have := e y hm
    simp [ym] at this
  | some x =>
    obtain ⟨xm, pre, post, el, hpre⟩ := fnd_split e
    obtain ⟨pre2, post2, em⟩ := List.append_of_mem xm
    rw [el] at ca
    rw [em] at cb
    have nb := cb.nodup
    have e2 : x :: post = x :: post2 := (Ch.tail ca).det (Ch.tail cb)
    symm
    refine fnd_some (i := pre2.length) (by rw [em]; simp) (by rw [el]; simp) fun j y hj hy yl => ?_
    have yp : y ∈ pre2 := by
      rw [em, List.getElem?_append_left hj] at hy
      exact List.mem_of_getElem? hy
    rw [el] at yl
    rcases List.mem_append.mp yl with h1 | h1
    · exact hpre y h1 (by rw [em]; exact List.mem_append_left _ yp)
    · rw [e2] at h1
      exact (List.nodup_append.mp nb).2.2 y yp y h1 rfl
/-! ### the way -/
def wayOf (l m : List Nat) (x : Nat) : List Nat := l.take (l.idxOf x) ++ [x] ++ (m.take (m.idxOf x)).reverse
theorem take_idx {l : List Nat} {x : Nat} (h : x ∈ l) : l.take (l.idxOf x + 1) = l.take (l.idxOf x) ++ [x] := by
  have hl : l.idxOf x < l.length := List.idxOf_lt_length_of_mem h
  rw [List.take_add_one, List.getElem?_eq_getElem hl, List.getElem_idxOf hl]
  rfl
theorem rev_idx (l : List Nat) : (List.range l.length).map (fun k => l.getD (l.length - 1 - k) 0) = l.reverse := by
  apply List.ext_getElem?
  intro i
  by_cases hi : i < l.length
  · rw [List.getElem?_map, List.getElem?_range hi, List.getElem?_reverse hi]
    simp only [Option.map_some]
    have h2 : l.length - 1 - i < l.length := by omega
    rw [List.getD_eq_getElem?_getD, List.getElem?_eq_getElem h2]
    rfl
  · rw [List.getElem?_eq_none (by simpa using hi), List.getElem?_eq_none (by simpa using hi)]
theorem nodup_len : ∀ {n : Nat} {l : List Nat}, l.Nodup → (∀ x ∈ l, x < n) → l.length ≤ n
  | 0, l, _, h => by
    cases l with
    | nil => exact Nat.le_refl _
    | cons a r => exact absurd (h a (by simp)) (by omega)
  | n + 1, l, nd, h => by
    by_cases hm : n ∈ l
    · have nd2 : (l.erase n).Nodup := nd.erase n
      have h2 : ∀ x ∈ l.erase n, x < n := fun x hx => by
        have h3 := h x (List.mem_of_mem_erase hx)
        have h4 : x ≠ n := fun e => by
          subst e
          exact (List.Nodup.mem_erase_iff nd).mp hx |>.1 rfl
        omega
      have h5 := nodup_len nd2 h2
      rw [List.length_erase_of_mem hm] at h5
      omega
    · have h2 : ∀ x ∈ l, x < n := fun x hx => by
        have h3 := h x hx
        have h4 : x ≠ n := fun e => hm (e ▸ hx)
        omega
      exact Nat.le_succ_of_le (nodup_len nd h2)
theorem Ch.len {ps : List (Option Nat)} {h : Nat} {l : List Nat} (c : Ch ps h l) : l.length ≤ ps.length := nodup_len c.nodup c.lt
/-- each parent is a house -/
def Inr (ps : List (Option Nat)) : Prop := ∀ (k q : Nat), ps[k]? = some (some q) → q < ps.length
theorem Tree.inr {ps : List (Option Nat)} (t : Tree ps) : Inr ps := fun k q e => (t k (List.getElem?_eq_some_iff.mp e).1).1.par_lt e
theorem tree_iff {ps : List (Option Nat)} : Tree ps ↔ ∀ h, h < ps.length → ∃ l, Ch ps h l :=
  ⟨fun t h hh => ⟨_, (t h hh).1⟩, fun t => tree_of fun h hh => let ⟨l, c⟩ := t h hh; ⟨l, c, c.len⟩⟩
theorem no_next {ps : List (Option Nat)} (ir : Inr ps) {h : Nat} (hh : h < ps.length) (n : ¬ ∃ l, Ch ps h l) : ∃ q, ps[h]? = some (some q) ∧ q < ps.length ∧ ¬ ∃ l, Ch ps q l := by
  have e : ps[h]? = some ps[h] := List.getElem?_eq_getElem hh
  cases q : ps[h] with
  | none => rw [q] at e; exact absurd ⟨_, .root e⟩ n
  | some q' =>
    rw [q] at e
    exact ⟨q', e, ir _ _ e, fun ⟨l, c⟩ => n ⟨_, .step e c⟩⟩
end W2
namespace W2
open PySem PySem.Spec PyProof.Rows L2
section
variable {X : Cx} {K : PySem.W.Frag} {a b c e : Expr} {ta tb tc te : TE} {pos : Pos}
theorem call_isiT1 (h : X.K = K) : CallR X (.builtin "isinstance") (rIsiT K) := h ▸ call_isiT
theorem call_tuple_ofK (h : X.K = K) : CallR X (.type "tuple") (fun xs H Q => ∃ p ys, xs = [.ref p] ∧ ((SqL K H p ys ∧ ∀ l, H l = none → Q (.ref l) (upd H l (.tup ys))) ∨ (SqT K H p ys ∧ Q (.ref p) H))) := h ▸ call_tuple_of
theorem call_list_ofK (h : X.K = K) : CallR X (.type "list") (fun xs H Q => ∃ p ys, xs = [.ref p] ∧ (SqL K H p ys ∨ SqT K H p ys) ∧ ∀ l, H l = none → Q (.ref l) (upd H l (.lst ys))) := h ▸ call_list_of
theorem sl_tupK (h : X.K = K) : SlR X (rSlT K) := h ▸ sl_tup
theorem sl_listK (h : X.K = K) : SlR X (rSlL K) := h ▸ sl_list
theorem sl_tupAK (h : X.K = K) : SlR X (rSlA K) := h ▸ sl_tupA
theorem pe_fldK {f : Str} (h : X.K = K) (ha : PE X e ta) (hb : attributeBase e f X.env (eval e X.env) = eval e X.env := by rfl) : PE X (.Attribute e f pos) (tFld K ta f) := h ▸ pe_fld ha hb
end
/-! ### kinds of things -/
structure Own (K : PySem.W.Frag) (C : Addr) : Prop where
  cl : Cls K C
  ha : PySem.W.findIn K (.ref C) "__class__" = some (some (.builtin "object.__class__"))
  hn : PySem.W.specialIn K (.builtin "object.__class__") "__get__" = some (some (.builtin "getset_descriptor.__get__"))
  htk : PySem.W.takesIn K (.builtin "object.__class__") = some true
  hm : PySem.W.mroIn K C (.type "object") = some true
  kI : PySem.W.kitOne K (.ref C) (.type "int") = some false
  kB : PySem.W.kitOne K (.ref C) (.type "bool") = some false
  kT : PySem.W.kitOne K (.ref C) (.type "tuple") = some false
  kL : PySem.W.kitOne K (.ref C) (.type "list") = some false
  kS : PySem.W.kitOne K (.ref C) (.type "str") = some false
  kD : PySem.W.kitOne K (.ref C) (.type "dict") = some false
def Owns (K : PySem.W.Frag) (CS : List Addr) : Prop := ∀ C ∈ CS, Own K C
theorem Owns.one {K : PySem.W.Frag} {C : Addr} (O : Own K C) : Owns K [C] := fun D h => by
  rw [List.mem_singleton.mp h]
  exact O
theorem Owns.nil {K : PySem.W.Frag} : Owns K [] := fun _ h => nomatch h
/-- a thing of a known kind -/
inductive Any (CS : List Addr) (H : Hp) : V → Prop
  | non : Any CS H .non
  | bl (b : Bool) : Any CS H (.bl b)
  | int (i : Int) : Any CS H (.int i)
  | str (s : Str) : Any CS H (.str s)
  | lst {a : Addr} {xs : List V} (e : H a = some (.lst xs)) : Any CS H (.ref a)
  | tup {a : Addr} {xs : List V} (e : H a = some (.tup xs)) : Any CS H (.ref a)
  | dic {a : Addr} {kvs : List (Key × V)} (e : H a = some (.dK kvs)) : Any CS H (.ref a)
  | ins {C a dx : Addr} {fs : List (Str × V)} (m : C ∈ CS) (e : H a = some (.ins C dx fs)) : Any CS H (.ref a)
/-- each object stays of its kind, tuples as they are -/
structure Kin (H H' : Hp) : Prop where
  tup : ∀ a xs, H a = some (.tup xs) → H' a = some (.tup xs)
  lst : ∀ a xs, H a = some (.lst xs) → ∃ ys, H' a = some (.lst ys)
  dic : ∀ a xs, H a = some (.dK xs) → ∃ ys, H' a = some (.dK ys)
  ins : ∀ a C dx fs, H a = some (.ins C dx fs) → ∃ gs, H' a = some (.ins C dx gs)
theorem Kin.refl (H : Hp) : Kin H H := ⟨fun _ _ e => e, fun _ _ e => ⟨_, e⟩, fun _ _ e => ⟨_, e⟩, fun _ _ _ _ e => ⟨_, e⟩⟩
theorem Kin.trans {H H1 H2 : Hp} (a : Kin H H1) (b : Kin H1 H2) : Kin H H2 :=
  ⟨fun x xs e => b.tup _ _ (a.tup _ _ e), fun x xs e => let ⟨_, f⟩ := a.lst _ _ e; b.lst _ _ f, fun x xs e => let ⟨_, f⟩ := a.dic _ _ e; b.dic _ _ f, fun x C dx fs e => let ⟨_, f⟩ := a.ins _ _ _ _ e; b.ins _ _ _ _ f⟩
theorem Kin.of {H H' : Hp} (s : L2.Same H H') : Kin H H' := ⟨fun _ _ e => s _ _ e, fun _ _ e => ⟨_, s _ _ e⟩, fun _ _ e => ⟨_, s _ _ e⟩, fun _ _ _ _ e => ⟨_, s _ _ e⟩⟩
theorem Kin.bt {h : Addr} {H H' : Hp} {xs ys : List V} (b : Bt h H H') (e : H h = some (.lst xs)) (e' : H' h = some (.lst ys)) : Kin H H' := by
  refine ⟨fun a zs f => b _ _ (ne_of f e (fun z => nomatch z)) f, fun a zs f => ?_, fun a zs f => ⟨_, b _ _ (ne_of f e (fun z => nomatch z)) f⟩, fun a C dx fs f => ⟨_, b _ _ (ne_of f e (fun z => nomatch z)) f⟩⟩
  by_cases q : a = h
  · exact ⟨ys, q ▸ e'⟩
  · exact ⟨zs, b _ _ q f⟩
theorem Kin.lset {H : Hp} {a : Addr} {xs ys : List V} (e : H a = some (.lst xs)) : Kin H (L2.upd H a (.lst ys)) :=
  Kin.bt (h := a) ((Bt.refl a H).upd) e upd_same
theorem Kin.iset {H : Hp} {a C dx : Addr} {fs gs : List (Str × V)} (e : H a = some (.ins C dx fs)) : Kin H (L2.upd H a (.ins C dx gs)) := by
  refine ⟨fun b zs f => ?_, fun b zs f => ?_, fun b zs f => ?_, fun b D dy hs f => ?_⟩
  · rw [upd_ne (ne_of f e (fun z => nomatch z))]; exact f
  · rw [upd_ne (ne_of f e (fun z => nomatch z))]; exact ⟨_, f⟩
  · rw [upd_ne (ne_of f e (fun z => nomatch z))]; exact ⟨_, f⟩
  · by_cases q : b = a
    · subst q
      rw [e] at f
      cases f
      exact ⟨gs, upd_same⟩
    · rw [upd_ne q]; exact ⟨_, f⟩
theorem Any.kin {CS : List Addr} {H H' : Hp} {x : V} (a : Any CS H x) (k : Kin H H') : Any CS H' x := by
  cases a with
  | non => exact .non
  | bl b => exact .bl b
  | int i => exact .int i
  | str i => exact .str i
  | lst e => obtain ⟨_, f⟩ := k.lst _ _ e; exact .lst f
  | tup e => exact .tup (k.tup _ _ e)
  | dic e => obtain ⟨_, f⟩ := k.dic _ _ e; exact .dic f
  | ins m e => obtain ⟨_, f⟩ := k.ins _ _ _ _ e; exact .ins m f
theorem Any.same {CS : List Addr} {H H' : Hp} {x : V} (a : Any CS H x) (s : L2.Same H H') : Any CS H' x := a.kin (Kin.of s)
def isI : V → Bool
  | .int _ => true
  | _ => false
def isB : V → Bool
  | .bl _ => true
  | _ => false
def isS : V → Bool
  | .str _ => true
  | _ => false
theorem isI_of {x : V} (h : isI x = true) : ∃ i, x = .int i := by
  cases x <;> first | exact ⟨_, rfl⟩ | cases h
theorem isB_of {x : V} (h : isB x = true) : ∃ i, x = .bl i := by
  cases x <;> first | exact ⟨_, rfl⟩ | cases h
theorem isS_of {x : V} (h : isS x = true) : ∃ i, x = .str i := by
  cases x <;> first | exact ⟨_, rfl⟩ | cases h
section
variable {K : PySem.W.Frag} {CS : List Addr} {H : Hp} {x : V}
theorem any_int (O : Owns K CS) (a : Any CS H x) : ∃ t, TyX K H x t ∧ PySem.W.kitOne K t (.type "int") = some (isI x || isB x) := by
  cases a with
  | non => exact ⟨_, .base .non, kit_ty (by decide +kernel)⟩
  | bl b => exact ⟨_, .base (.bl b), kit_ty (r := true) (by decide +kernel)⟩
  | int i => exact ⟨_, .base (.int i), kit_ty (r := true) (by decide +kernel)⟩
  | str i => exact ⟨_, .base (.str i), kit_ty (r := false) (by decide +kernel)⟩
  | lst e => exact ⟨_, .base (.lst e), kit_ty (r := false) (by decide +kernel)⟩
  | tup e => exact ⟨_, .base (.tup e), kit_ty (r := false) (by decide +kernel)⟩
  | dic e => exact ⟨_, .base (.dK e), kit_ty (r := false) (by decide +kernel)⟩
  | ins m e => have o := O _ m; exact ⟨_, .base (.ins e o.cl o.ha o.hn o.htk o.hm), o.kI⟩
theorem any_bool (O : Owns K CS) (a : Any CS H x) : ∃ t, TyX K H x t ∧ PySem.W.kitOne K t (.type "bool") = some (isB x) := by
  cases a with
  | non => exact ⟨_, .base .non, kit_ty (by decide +kernel)⟩
  | bl b => exact ⟨_, .base (.bl b), kit_ty (r := true) (by decide +kernel)⟩
  | int i => exact ⟨_, .base (.int i), kit_ty (r := false) (by decide +kernel)⟩
  | str i => exact ⟨_, .base (.str i), kit_ty (r := false) (by decide +kernel)⟩
  | lst e => exact ⟨_, .base (.lst e), kit_ty (r := false) (by decide +kernel)⟩
  | tup e => exact ⟨_, .base (.tup e), kit_ty (r := false) (by decide +kernel)⟩
  | dic e => exact ⟨_, .base (.dK e), kit_ty (r := false) (by decide +kernel)⟩
  | ins m e => have o := O _ m; exact ⟨_, .base (.ins e o.cl o.ha o.hn o.htk o.hm), o.kB⟩
theorem any_str (O : Owns K CS) (a : Any CS H x) : ∃ t, TyX K H x t ∧ PySem.W.kitOne K t (.type "str") = some (isS x) := by
  cases a with
  | non => exact ⟨_, .base .non, kit_ty (by decide +kernel)⟩
  | bl b => exact ⟨_, .base (.bl b), kit_ty (r := false) (by decide +kernel)⟩
  | int i => exact ⟨_, .base (.int i), kit_ty (r := false) (by decide +kernel)⟩
  | str i => exact ⟨_, .base (.str i), kit_ty (r := true) (by decide +kernel)⟩
  | lst e => exact ⟨_, .base (.lst e), kit_ty (r := false) (by decide +kernel)⟩
  | tup e => exact ⟨_, .base (.tup e), kit_ty (r := false) (by decide +kernel)⟩
  | dic e => exact ⟨_, .base (.dK e), kit_ty (r := false) (by decide +kernel)⟩
  | ins m e => have o := O _ m; exact ⟨_, .base (.ins e o.cl o.ha o.hn o.htk o.hm), o.kS⟩
end
/-! ### data of tuples -/
inductive Dt | non | bl (b : Bool) | int (i : Int) | str (s : Str) | tup (l : List Dt) | lst | dic | ins (C : Addr)
mutual
def Rep (CS : List Addr) (H : Hp) : Dt → V → Prop
  | .non, x => x = .non
  | .bl b, x => x = .bl b
  | .int i, x => x = .int i
  | .str s, x => x = .str s
  | .tup l, x => ∃ a xs, x = .ref a ∧ H a = some (.tup xs) ∧ RepL CS H l xs
  | .lst, x => ∃ a xs, x = .ref a ∧ H a = some (.lst xs)
  | .dic, x => ∃ a xs, x = .ref a ∧ H a = some (.dK xs)
  | .ins C, x => C ∈ CS ∧ ∃ a dx fs, x = .ref a ∧ H a = some (.ins C dx fs)
def RepL (CS : List Addr) (H : Hp) : List Dt → List V → Prop
  | [], xs => xs = []
  | d :: ds, xs => ∃ y ys, xs = y :: ys ∧ Rep CS H d y ∧ RepL CS H ds ys
end
mutual
theorem Rep.kin {CS : List Addr} {H H' : Hp} (k : Kin H H') : ∀ {d : Dt} {x : V}, Rep CS H d x → Rep CS H' d x
  | .non, _, r => r
  | .bl _, _, r => r
  | .int _, _, r => r
  | .str _, _, r => r
  | .tup _, _, r => by
    unfold Rep at r ⊢
    obtain ⟨a, xs, e, f, g⟩ := r
    exact ⟨a, xs, e, k.tup _ _ f, RepL.kin k g⟩
  | .lst, _, r => by
    unfold Rep at r ⊢
    obtain ⟨a, xs, e, f⟩ := r
    obtain ⟨ys, g⟩ := k.lst _ _ f
    exact ⟨a, ys, e, g⟩
  | .dic, _, r => by
    unfold Rep at r ⊢
    obtain ⟨a, xs, e, f⟩ := r
    obtain ⟨ys, g⟩ := k.dic _ _ f
    exact ⟨a, ys, e, g⟩
  | .ins C, _, r => by
    unfold Rep at r ⊢
    obtain ⟨m, a, dx, fs, e, f⟩ := r
    obtain ⟨gs, g⟩ := k.ins _ _ _ _ f
    exact ⟨m, a, dx, gs, e, g⟩
theorem RepL.kin {CS : List Addr} {H H' : Hp} (k : Kin H H') : ∀ {ds : List Dt} {xs : List V}, RepL CS H ds xs → RepL CS H' ds xs
  | [], _, r => r
  | _ :: _, _, r => by
    unfold RepL at r ⊢
    obtain ⟨y, ys, e, f, g⟩ := r
    exact ⟨y, ys, e, Rep.kin k f, RepL.kin k g⟩
end
theorem Rep.same {CS : List Addr} {H H' : Hp} {d : Dt} {x : V} (r : Rep CS H d x) (s : L2.Same H H') : Rep CS H' d x := r.kin (Kin.of s)
theorem RepL.same {CS : List Addr} {H H' : Hp} {d : List Dt} {x : List V} (r : RepL CS H d x) (s : L2.Same H H') : RepL CS H' d x := r.kin (Kin.of s)
theorem rep_non {CS : List Addr} {H : Hp} {x : V} : Rep CS H .non x ↔ x = .non := by rw [Rep]
theorem rep_bl {CS : List Addr} {H : Hp} {x : V} {b : Bool} : Rep CS H (.bl b) x ↔ x = .bl b := by rw [Rep]
theorem rep_int {CS : List Addr} {H : Hp} {x : V} {b : Int} : Rep CS H (.int b) x ↔ x = .int b := by rw [Rep]
theorem rep_str {CS : List Addr} {H : Hp} {x : V} {b : Str} : Rep CS H (.str b) x ↔ x = .str b := by rw [Rep]
theorem rep_tup {CS : List Addr} {H : Hp} {x : V} {l : List Dt} : Rep CS H (.tup l) x ↔ ∃ a xs, x = .ref a ∧ H a = some (.tup xs) ∧ RepL CS H l xs := by rw [Rep]
theorem rep_lst {CS : List Addr} {H : Hp} {x : V} : Rep CS H .lst x ↔ ∃ a xs, x = .ref a ∧ H a = some (.lst xs) := by rw [Rep]
theorem rep_dic {CS : List Addr} {H : Hp} {x : V} : Rep CS H .dic x ↔ ∃ a xs, x = .ref a ∧ H a = some (.dK xs) := by rw [Rep]
theorem rep_ins {CS : List Addr} {H : Hp} {x : V} {C : Addr} : Rep CS H (.ins C) x ↔ C ∈ CS ∧ ∃ a dx fs, x = .ref a ∧ H a = some (.ins C dx fs) := by rw [Rep]
theorem repL_nil {CS : List Addr} {H : Hp} {xs : List V} : RepL CS H [] xs ↔ xs = [] := by rw [RepL]
theorem repL_cons {CS : List Addr} {H : Hp} {d : Dt} {ds : List Dt} {xs : List V} : RepL CS H (d :: ds) xs ↔ ∃ y ys, xs = y :: ys ∧ Rep CS H d y ∧ RepL CS H ds ys := by rw [RepL]
theorem Rep.any {CS : List Addr} {H : Hp} : ∀ {d : Dt} {x : V}, Rep CS H d x → Any CS H x
  | .non, _, r => by rw [rep_non.mp r]; exact .non
  | .bl _, _, r => by rw [rep_bl.mp r]; exact .bl _
  | .int _, _, r => by rw [rep_int.mp r]; exact .int _
  | .str _, _, r => by rw [rep_str.mp r]; exact .str _
  | .tup _, _, r => by obtain ⟨a, xs, rfl, e, _⟩ := rep_tup.mp r; exact .tup e
  | .lst, _, r => by obtain ⟨a, xs, rfl, e⟩ := rep_lst.mp r; exact .lst e
  | .dic, _, r => by obtain ⟨a, xs, rfl, e⟩ := rep_dic.mp r; exact .dic e
  | .ins C, _, r => by obtain ⟨m, a, dx, fs, rfl, e⟩ := rep_ins.mp r; exact .ins m e
theorem RepL.len {CS : List Addr} {H : Hp} : ∀ {ds : List Dt} {xs : List V}, RepL CS H ds xs → xs.length = ds.length
  | [], _, r => by rw [repL_nil.mp r]; rfl
  | _ :: _, _, r => by
    obtain ⟨y, ys, rfl, _, g⟩ := repL_cons.mp r
    rw [List.length_cons, List.length_cons, RepL.len g]
theorem RepL.at {CS : List Addr} {H : Hp} : ∀ {ds : List Dt} {xs : List V} {i : Nat} {x : V}, RepL CS H ds xs → xs[i]? = some x → ∃ d, ds[i]? = some d ∧ Rep CS H d x
  | [], _, i, x, r, e => by rw [repL_nil.mp r] at e; cases e
  | d :: _, _, 0, x, r, e => by
    obtain ⟨y, ys, rfl, f, g⟩ := repL_cons.mp r
    have : y = x := by simpa using e
    subst this
    exact ⟨d, rfl, f⟩
  | _ :: ds, _, i + 1, x, r, e => by
    obtain ⟨y, ys, rfl, _, g⟩ := repL_cons.mp r
    exact RepL.at (i := i) g (by simpa using e)
theorem RepL.at' {CS : List Addr} {H : Hp} {ds : List Dt} {xs : List V} {i : Nat} {d : Dt} (r : RepL CS H ds xs) (e : ds[i]? = some d) : ∃ x, xs[i]? = some x ∧ Rep CS H d x := by
  have hi : i < xs.length := by rw [r.len]; exact (List.getElem?_eq_some_iff.mp e).1
  obtain ⟨d', e', f⟩ := r.at (List.getElem?_eq_getElem hi)
  rw [e] at e'
  cases e'
  exact ⟨_, List.getElem?_eq_getElem hi, f⟩
theorem repL_of {CS : List Addr} {H : Hp} : ∀ {ds : List Dt} {xs : List V}, xs.length = ds.length → (∀ (i : Nat) x d, xs[i]? = some x → ds[i]? = some d → Rep CS H d x) → RepL CS H ds xs
  | [], xs, h, _ => repL_nil.mpr (List.length_eq_zero_iff.mp h)
  | d :: ds, [], h, _ => by simp at h
  | d :: ds, x :: xs, h, k => repL_cons.mpr ⟨x, xs, rfl, k 0 x d rfl rfl, repL_of (by simpa using h) fun i y e a b => k (i + 1) y e (by simpa using a) (by simpa using b)⟩
theorem RepL.take {CS : List Addr} {H : Hp} {ds : List Dt} {xs : List V} (r : RepL CS H ds xs) (n : Nat) : RepL CS H (ds.take n) (xs.take n) :=
  repL_of (by rw [List.length_take, List.length_take, r.len]) fun i x d a b => by
    rw [List.getElem?_take] at a b
    split at a
    · rename_i q
      rw [if_pos q] at b
      obtain ⟨d', e, f⟩ := r.at a
      rw [b] at e
      cases e
      exact f
    · cases a
theorem RepL.drop {CS : List Addr} {H : Hp} {ds : List Dt} {xs : List V} (r : RepL CS H ds xs) (n : Nat) : RepL CS H (ds.drop n) (xs.drop n) :=
  repL_of (by rw [List.length_drop, List.length_drop, r.len]) fun i x d a b => by
    rw [List.getElem?_drop] at a b
    obtain ⟨d', e, f⟩ := r.at a
    rw [b] at e
    cases e
    exact f
theorem RepL.append {CS : List Addr} {H : Hp} : ∀ {ds es : List Dt} {xs ys : List V}, RepL CS H ds xs → RepL CS H es ys → RepL CS H (ds ++ es) (xs ++ ys)
  | [], es, xs, ys, a, b => by rw [repL_nil.mp a]; exact b
  | d :: ds, es, xs, ys, a, b => by
    obtain ⟨z, zs, rfl, f, g⟩ := repL_cons.mp a
    exact repL_cons.mpr ⟨z, zs ++ ys, rfl, f, RepL.append g b⟩
theorem repL_one {CS : List Addr} {H : Hp} {d : Dt} {x : V} (r : Rep CS H d x) : RepL CS H [d] [x] := repL_cons.mpr ⟨x, [], rfl, r, repL_nil.mpr rfl⟩
theorem repL_rep {CS : List Addr} {H : Hp} {d : Dt} {x : V} (r : Rep CS H d x) : ∀ n, RepL CS H (List.replicate n d) (List.replicate n x)
  | 0 => repL_nil.mpr rfl
  | n + 1 => repL_cons.mpr ⟨x, _, rfl, r, repL_rep r n⟩
theorem repT {CS : List Addr} {H : Hp} {a : Addr} {xs : List V} {ds : List Dt} (e : H a = some (.tup xs)) (r : RepL CS H ds xs) : Rep CS H (.tup ds) (.ref a) := rep_tup.mpr ⟨a, xs, rfl, e, r⟩
theorem Rep.tupAt {CS : List Addr} {H : Hp} {a : Addr} {xs : List V} {d : Dt} (r : Rep CS H d (.ref a)) (e : H a = some (.tup xs)) : ∃ ds, d = .tup ds ∧ RepL CS H ds xs := by
  cases d with
  | non => cases rep_non.mp r
  | bl b => cases rep_bl.mp r
  | int b => cases rep_int.mp r
  | str b => cases rep_str.mp r
  | tup l =>
    obtain ⟨a', xs', e1, e2, e3⟩ := rep_tup.mp r
    cases e1
    rw [e] at e2
    cases e2
    exact ⟨l, rfl, e3⟩
  | lst => obtain ⟨a', xs', e1, e2⟩ := rep_lst.mp r; cases e1; rw [e] at e2; cases e2
  | dic => obtain ⟨a', xs', e1, e2⟩ := rep_dic.mp r; cases e1; rw [e] at e2; cases e2
  | ins C => obtain ⟨_, a', dx, xs', e1, e2⟩ := rep_ins.mp r; cases e1; rw [e] at e2; cases e2
def Dt.isT : Dt → Bool
  | .tup _ => true
  | _ => false
/-- isinstance of a tuple -/
theorem rep_istup {K : PySem.W.Frag} {CS : List Addr} {H : Hp} {d : Dt} {x : V} (O : Owns K CS) (r : Rep CS H d x) : ∃ t : Value, TyX K H x t ∧ PySem.W.kitOne K t (.type "tuple") = some d.isT := by
  cases d with
  | non => rw [rep_non.mp r]; exact ⟨_, .base .non, kit_ty (by decide +kernel)⟩
  | bl b => rw [rep_bl.mp r]; exact ⟨_, .base (.bl b), kit_ty (r := false) (by decide +kernel)⟩
  | int b => rw [rep_int.mp r]; exact ⟨_, .base (.int b), kit_ty (r := false) (by decide +kernel)⟩
  | str b => rw [rep_str.mp r]; exact ⟨_, .base (.str b), kit_ty (r := false) (by decide +kernel)⟩
  | tup l => obtain ⟨a, xs, rfl, e, _⟩ := rep_tup.mp r; exact ⟨_, .base (.tup e), kit_ty (r := true) (by decide +kernel)⟩
  | lst => obtain ⟨a, xs, rfl, e⟩ := rep_lst.mp r; exact ⟨_, .base (.lst e), kit_ty (by decide +kernel)⟩
  | dic => obtain ⟨a, xs, rfl, e⟩ := rep_dic.mp r; exact ⟨_, .base (.dK e), kit_ty (by decide +kernel)⟩
  | ins C => obtain ⟨m, a, dx, fs, rfl, e⟩ := rep_ins.mp r; have o := O _ m; exact ⟨_, .base (.ins e o.cl o.ha o.hn o.htk o.hm), o.kT⟩
theorem isT_of {d : Dt} (h : d.isT = true) : ∃ l, d = .tup l := by
  cases d <;> first | exact ⟨_, rfl⟩ | cases h
/-! ### == by an own __eq__ -/
def rEqI (K : PySem.W.Frag) (C : Addr) (sp : Sp) : R2 := fun x y H Q => ∃ a dx fs t, x = .ref a ∧ H a = some (.ins C dx fs) ∧ TyX K H y t ∧ PySem.W.notFirst K C t = true ∧ sp [x, y] H Q E0
theorem op_eqI {X : Cx} {C g : Addr} {n j : Nat} {fd : FuncData} {ps : List Str} {sp : Sp} (hs : PySem.W.findIn X.K (.ref C) "__eq__" = some (some (.ref g))) (hf : PySem.W.isFn X.K (.ref g) = true) (F : FnOk X.prog X.w X.K X.mg X.base CX0 n g fd ps sp) (hb : Binds X.K fd ps [])
    (hr : Room j X.A) (hj : n ≤ j) : OpR X (compareOp .Eq) (rEqI X.K C sp) := by
  intro pins s σ H x y v u Q I rx ry h
  obtain ⟨a, dx, fs, t, rfl, ea, ty, hn, q⟩ := h
  cases (show v = Value.ref a from rx)
  obtain ⟨mA, O, _⟩ := ins_get I.hok ea
  obtain ⟨od, J, _⟩ := O.look
  obtain ⟨P, Z, p, hx⟩ := kit_of I ry ty
  obtain ⟨m, hF⟩ := I.fr
  refine PySem.W.cmp_K (op := .Eq) (tb := t) hr.units0 hF I.ok.mod.kin J (Z.ty _ _ I.kIn p) hn hs hf ?_
  refine wpAny_mono (run_fn (us := [.ref a, u]) (vs := [.ref a, y]) F (hr.mono hj) hb .nil pass0 I (.cons rfl (.cons ry .nil)) q) (fun w s' z => ?_) fun _ _ x => x
  obtain ⟨z', H', I', rz, qz⟩ := z
  exact SlX.cmpback rz ⟨z', H', I', rz, qz⟩
/-! ### a new instance, what is raised wished for at the slots -/
def tMakeS (C : Addr) (sp : Sp) (E : L2.St → XK) (t : TA) : TE := fun σ H Q => t σ H fun vs H1 => ∀ x dx, H1 x = none → H1 dx = none → dx ≠ x → sp (.ref x :: vs) (upd (upd H1 dx (.own x)) x (.ins C dx [])) (fun v H2 => v = .non ∧ Q (.ref x) H2) (E σ)
section
variable {X : Cx} {C f : Addr} {k : Nat} {fd : FuncData} {ps : List Str} {sp : Sp} {CX : CXT} {x : Str} {e : Expr} {es : List Expr} {t : TA} {p pos : Pos} {E : L2.St → XK}
theorem pe_makeS (M : Mk X.K C f) (F : FnOk X.prog X.w X.K X.mg X.base CX k f fd ps sp) (hr : Room (k + 1) X.A) (hg : Gl X x) (hm : X.mg x = some (.ref C)) (hb : Binds X.K fd ps []) (hx : ∀ σ, PassesAt CX X σ (E σ))
    (ha : PA X (e :: es) t) (hdb : (x == ("__debug__" : Str)) = false := by decide) (he : starEach (e :: es) X.env = (false, eval e X.env) :: starEach es X.env := by rfl) (hpl : (backTo pos (starEach es X.env)).any (·.1) = false := by rfl) :
    PE X (.Call (.Name x p) (e :: es) [] pos) (tMakeS C sp E t) := by
  refine ⟨fun pins s σ H Q I h => ?_⟩
  refine wpAny_Call_Name_kw (ld_glob I hg hm ?_ hdb)
  refine PySem.W.callWith_K (h₀ := X.base) I.ok.mod.kin M.kp (thn (ha.run pos pins s σ H _ I h) fun us s1 ⟨vs, H1, I1, r, q⟩ => ⟨I1.kIn, ?_⟩) he hpl
  have hq := q (s1.heap.objs.size + 1) s1.heap.objs.size (I1.hok.fresh (Nat.le_succ _)) (I1.hok.fresh (Nat.le_refl _)) (Nat.ne_of_lt (Nat.lt_succ_self _))
  have I2 := Inv.made (C := C) I1
  have r2 : Vals (V.ref (s1.heap.objs.size + 1) :: vs) (Value.ref (s1.heap.objs.size + 1) :: us) := .cons rfl r
  have hl : (Value.ref (s1.heap.objs.size + 1) :: us ++ []).length = ps.length := by
    have e := r2.length
    rw [F.len _ _ _ _ hq] at e
    rw [List.append_nil]
    exact e.symm
  have b := hb _ (Value.ref (s1.heap.objs.size + 1) :: us) I2.kIn hl
  rw [List.append_nil] at b
  refine wpAny_call (make_map (f := f) I1.kIn M.makes M.init (beq_iff_eq.mp M.fn) (codeAny_mono (F.run _ X.stack _ _ ⟨Value.ref (s1.heap.objs.size + 1) :: us, []⟩ (Value.ref (s1.heap.objs.size + 1) :: us) _ _ (E σ) (hr.make C us [])
    (I2.env0.make C us []) b r2 hq) fun r s' hq' => ?_))
  cases r with
  | error e => exact hx σ pins _ _ e s' I2 hq'
  | ok fl =>
    cases fl with
    | ret u =>
      obtain ⟨v, H', I3, rv, ev, q3⟩ := I2.after hq'
      subst ev
      exact ⟨rv, ⟨V.ref (s1.heap.objs.size + 1), H', I3, rfl, q3⟩⟩
    | next => exact False.elim hq'
    | brk => exact False.elim hq'
    | cont => exact False.elim hq'
end
/-! ### tuples cut and joined -/
theorem catA_of {K : PySem.W.Frag} {a b : Addr} {xs ys : List V} {H : Hp} {Q : VK} (ha : H a = some (.tup xs)) (hb : H b = some (.tup ys)) (hz : xs.length + ys.length ≤ 100000) (k : ∀ r H', Same H H' → H' r = some (.tup (xs ++ ys)) → Q (.ref r) H') : rCatA K (.ref a) (.ref b) H Q := by
  refine ⟨a, b, xs, ys, rfl, rfl, SqT.of ha, SqT.of hb, small hz, fun e => k b H (L2.Same.refl _) ?_, fun _ e => k a H (L2.Same.refl _) ?_, fun _ _ p hp => k p _ (same_upd hp) upd_same⟩
  · rw [e, List.nil_append]
    exact hb
  · rw [e, List.append_nil]
    exact ha
theorem slT_of {K : PySem.W.Frag} {a : Addr} {xs : List V} {lo hi : Option Int} {H : Hp} {Q : VK} (ha : H a = some (.tup xs)) (hn : ¬ (HT.sIx xs.length 0 lo = 0 ∧ HT.sIx xs.length xs.length hi = xs.length)) (k : ∀ p, H p = none → Q (.ref p) (L2.upd H p (.tup (cutV xs lo hi)))) : rSlT K (.ref a) lo hi H Q := ⟨a, xs, rfl, SqT.of ha, hn, k⟩
theorem cut_from (xs : List V) (k : Nat) (h : k ≤ xs.length) : cutV xs (some (k : Int)) none = xs.drop k := by
  unfold cutV
  rw [HT.sIx_none, show HT.sIx xs.length 0 (some (k : Int)) = min k xs.length from HT.sIx_nat xs.length 0 k, Nat.min_eq_left h, ← List.length_drop]
  exact List.take_length
theorem six_to (n k : Nat) (h : k < n) : ¬ (HT.sIx n 0 none = 0 ∧ HT.sIx n n (some (k : Int)) = n) := fun z => by
  have := z.2
  rw [HT.sIx_nat] at this
  omega
theorem six_from (n k : Nat) (h : k < n) : ¬ (HT.sIx n 0 (some ((k + 1 : Nat) : Int)) = 0 ∧ HT.sIx n n none = n) := fun z => by
  have := z.1
  rw [HT.sIx_nat] at this
  omega
theorem cut_le (xs : List V) (k : Nat) (h : xs.length ≤ k) : cutV xs none (some (k : Int)) = xs := by
  unfold cutV
  rw [HT.sIx_none, show HT.sIx xs.length xs.length (some (k : Int)) = min k xs.length from HT.sIx_nat xs.length xs.length k, Nat.min_eq_right h]
  show (xs.drop 0).take (xs.length - 0) = xs
  rw [List.drop_zero, Nat.sub_zero, List.take_length]
theorem slA_of {K : PySem.W.Frag} {a : Addr} {xs : List V} {lo hi : Option Int} {H : Hp} {Q : VK} (ha : H a = some (.tup xs)) (k : ∀ p H', L2.Same H H' → H' p = some (.tup (cutV xs lo hi)) → Q (.ref p) H') : rSlA K (.ref a) lo hi H Q := by
  refine ⟨a, xs, rfl, SqT.of ha, fun w => k a H (L2.Same.refl _) ?_, fun _ p hp => k p _ (same_upd hp) upd_same⟩
  rw [ha]
  unfold cutV
  rw [w.1, w.2, List.drop_zero, Nat.sub_zero, List.take_length]
end W2
namespace PySem
open Sem (wp)
open AutoSeq1 (wpAny_loadPart')
theorem meets_enumerate_newT (l : Addr) (items : Array Value) (n : Nat) (dct : Option Addr) (sl : Array (Option Value)) :
    Meets (Builtin.«enumerate.__new__» ⟨[.type "enumerate", .ref l], []⟩) (fun _ R s => s.heap.get? l = some { cls := .type "tuple", dict := dct, data := .seq items n, slots := sl } ∧
      R (.ok (.ret (.ref (s.heap.push { cls := .type "tuple_iterator", data := .fields #[.ref l, .int 0 0] }).objs.size)))
        { s with heap := (s.heap.push { cls := .type "tuple_iterator", data := .fields #[.ref l, .int 0 0] }).push { cls := .type "enumerate", data := .fields #[.none, .bool false, .ref s.heap.objs.size, rawInt 0, .none, .none] } }) :=
  .of_wp fun prog w A R s h => by
    obtain ⟨hp, g, d, tk, os⟩ := s; obtain ⟨hl, h⟩ := h
    have hsub := sub_enumerate
    have hL : Heap.IsTuple (Shared.heap ⟨hp, g, d, tk, os⟩) l items := ⟨_, hl, rfl, n, rfl⟩
    wp_walk using wpAny_loadPart' hl
    refine wpAny_stack_any fun st => wpAny_pure ?_
    split
    · rename_i c _ _ _ _ _
      cases (c == Value.type "enumerate")
      · wp_walk using wpAny_loadPart' hl, wpAny_pyIter_tuple hL
        exact ⟨_, rfl, h⟩
      · wp_walk using wpAny_loadPart' hl, wpAny_pyIter_tuple hL
        exact ⟨_, rfl, h⟩
    · wp_walk using wpAny_loadPart' hl, wpAny_pyIter_tuple hL
      exact ⟨_, rfl, h⟩
section
variable {prog : Program} {w : World} {A : Around} {E : Value → Shared → Prop} {s : Shared}
theorem call_enumerate_tup {l : Addr} {items : Array Value} {Q : Value → Shared → Prop} (hL : s.heap.IsTuple l items)
    (h : ∀ h', IsEnum h' (s.heap.objs.size + 1) s.heap.objs.size 0 .none → h'.IsTupleIter s.heap.objs.size l 0 → h'.objs.size = s.heap.objs.size + 2 →
      (∀ b o, s.heap.get? b = some o → h'.get? b = some o) → Q (.ref (s.heap.objs.size + 1)) { s with heap := h' }) :
    wpAny (model prog w) A (call (.type "enumerate") [.ref l]) Q E s := by
  obtain ⟨⟨c, dct, dt, sl⟩, hl, hc, n, hd⟩ := hL
  replace hc : c = .type "tuple" := hc
  replace hd : dt = .seq items n := hd
  subst hc hd
  refine callType_new F.called_enumerate (by decide) (F.typeCall_enumerate_1 _) (F.newCall_enumerate_1 _) (fun obj => F.args_object_init_2 obj _) F.entry_enumerate_new
    (meets_enumerate_newT l items n dct sl) ⟨hl, ?_⟩
  have hz : (s.heap.push { cls := .type "tuple_iterator", data := .fields #[.ref l, .int 0 0] }).objs.size = s.heap.objs.size + 1 := Heap.size_push ..
  show _ ∧ _
  rw [hz]
  have he : IsEnum ((s.heap.push { cls := .type "tuple_iterator", data := .fields #[.ref l, .int 0 0] }).push
      { cls := .type "enumerate", data := .fields #[.none, .bool false, .ref s.heap.objs.size, rawInt 0, .none, .none] }) (s.heap.objs.size + 1) s.heap.objs.size 0 .none := by
    have := Heap.get?_push_size (s.heap.push { cls := .type "tuple_iterator", data := .fields #[.ref l, .int 0 0] })
      (o := { cls := .type "enumerate", data := .fields #[.none, .bool false, .ref s.heap.objs.size, rawInt 0, .none, .none] }) rfl
    rw [hz] at this; exact this
  refine ⟨⟨_, he, rfl⟩, h _ he ⟨_, Heap.get?_push_of_some _ (Heap.get?_push_size _ rfl), rfl, rfl⟩ (by rw [Heap.size_push, hz]) fun b o x => Heap.get?_push_of_some _ (Heap.get?_push_of_some _ x)⟩
theorem enum_endT {e it l : Addr} {i : Nat} {items : Array Value} {old : Value} {Q : Option Value → Shared → Prop} (hh : A.handled = none)
    (he : IsEnum s.heap e it i old) (hit : s.heap.IsTupleIter it l i) (hl : s.heap.IsTuple l items) (hx : items[i]? = none)
    (hQ : ∀ h', Heap.ExtBut it s.heap h' → Q none { s with heap := h' }) : wpAny (model prog w) A (pyNext (.ref e)) Q E s := by
  have hT : s.TypeIs (.ref e) "enumerate" := ⟨_, he, rfl⟩
  unfold pyNext
  refine wpAny_bind (wpAny_attempt (wpAny_callSpecial?_slot (name := Str.ofString "__next__") hT F.slot_enumerate_next
    (wpAny_call_entry F.slot_enumerate_next hT F.entry_enumerate_next ?_ (F.args_enumerate_next_1 _))))
  show wpAny _ _ (field (.ref e) 2 >>= _) _ _ _
  refine wpAny_bind (wpAny_field he rfl (x := .ref it) rfl ?_)
  refine wpAny_bind (RZ.nextOf_tuple_end hh hit hl hx fun h' x he' hx' => ?_)
  obtain ⟨o, ho, hc⟩ := hx'
  refine wpAny_bind (wpAny_isInstance (T := "StopIteration") (b := true) ⟨o, ho, hc⟩ isSubtype_stop ?_)
  exact wpAny_pure (hQ _ he')
end
end PySem
namespace W2
open PySem PySem.Spec PyProof.Rows L2
/-- the tuple at a as it stands at each turn, each item in a new pair -/
def IteT (K : PySem.W.Frag) (a : Addr) : It :=
  ⟨fun i H => ∃ (xs : List V) (x : V), SqT K H a xs ∧ xs[i]? = some x, fun i H v H' => ∃ T x, v = .ref T ∧ H T = none ∧ H' = upd H T (.tup [.int (i : Nat), x]) ∧ ∀ xs, SqT K H a xs → xs[i]? = some x, fun i H => ∃ xs : List V, SqT K H a xs ∧ xs.length ≤ i⟩
theorem turn_enumT {P : Program} {w : World} {K : PySem.W.Frag} {elts : List Expr} {kk : Nat} {tpos : Pos} (a e it : Addr) (hia : a ≠ it) :
    Turn P w K (.Tuple elts kk tpos) (IteT K a) [e, it] e (fun i h => (∃ old, IsEnum h e it ((i : Nat) : Int) old) ∧ h.IsTupleIter it a i ∧ e ≠ it ∧ e ≠ a) where
  mem := by simp
  obj := fun i h st b hb => by
    obtain ⟨⟨old, he⟩, ⟨o, ho, hc, hd⟩, _⟩ := st
    have e' : b = e ∨ b = it := by simpa using hb
    rcases e' with z | z
    · rw [z]; exact ⟨_, he, fun v q => nomatch q⟩
    · rw [z]; exact ⟨o, ho, fun v q => by rw [hd] at q; cases q⟩
  keep := fun i h h' st k => let ⟨⟨old, he⟩, hi, hne⟩ := st; ⟨⟨old, k e (by simp) _ he⟩, hi.at fun o q => k it (by simp) o q, hne⟩
  item := by
    intro X hP hw hK hc i pins s σ H E I hf st hg
    subst hP hw hK
    obtain ⟨⟨old, he⟩, hit, hne, hea⟩ := st
    obtain ⟨xs, x, hq, hx⟩ := hg
    obtain ⟨its, rv, p, hz⟩ := I.tuple hq
    obtain ⟨u, hu, ru⟩ := rv.get hx
    have hel : e < s.heap.objs.size := Heap.lt_size he
    have hil : it < s.heap.objs.size := by obtain ⟨_, q, _⟩ := hit; exact Heap.lt_size q
    have hi : i < its.toArray.size := by
      have := (List.getElem?_eq_some_iff.mp hu).1
      simpa using this
    refine wpAny_pyNext_enum_itemD (Draws.tuple (prog := X.prog) (w := X.w) (A := X.A.in1) (show X.A.in1.handled = none from I.ok.hd hc) it a hia its.toArray) he ⟨hit, p⟩ hi hne (by simp [hne, hea]) fun u' h' tk hP ho hit' hT hsz hk => ?_
    have eu : u' = u := by
      have h1 : its.toArray[i]? = some u := by simpa using hu
      rw [h1] at hP
      exact (Option.some.inj hP).symm
    subst eu
    refine ⟨_, rfl, wpAny_letOwnedTupleGo_enum (s := { s with heap := h', toks := tk + 1 }) ho fun h'' he' sb => ?_⟩
    have hT2 : h''.get? s.heap.objs.size = some { cls := .type "tuple", data := .seq #[.int i tk, u'] } := (sb.2 _ (Nat.ne_of_gt hel)).trans hT
    have new : ObjOk X.prog X.w (upd H s.heap.objs.size (.tup [.int (i : Nat), x])) h'' s.heap.objs.size (.tup [.int (i : Nat), x]) :=
      ⟨by show 2 ≤ sizeLine; decide, [.int i tk, u'], .cons ⟨_, rfl⟩ (.cons ru .nil), ⟨_, hT2, rfl, _, rfl⟩⟩
    have I1 : Inv X pins σ (upd H s.heap.objs.size (.tup [.int (i : Nat), x])) { s with heap := h'', toks := tk + 1 } :=
      I.turnedNew (ch := [e, it]) (fun b ob hb q => (sb.2 b (fun z => hb (by simp [z]))).trans (hk b ob (fun z => hb (by simp [z])) (fun z => hb (by simp [z])) q)) hf (Nat.le_refl _) new
    refine ⟨.ref s.heap.objs.size, _, I1, rfl, ⟨_, x, rfl, I.hok.fresh (Nat.le_refl _), rfl, fun ys hy => by rw [I.tuple_inj hy hq]; exact hx⟩, ⟨⟨u', ?_⟩, hit'.1.at fun o q => (sb.2 it (Ne.symm hne)).trans q, hne, hea⟩, fun b hb => ?_⟩
    · have e1 : ((i + 1 : Nat) : Int) = (i : Int) + 1 := by omega
      rw [e1]; exact he'
    · have hb' : b < s.heap.objs.size := by
        have e' : b = e ∨ b = it := by simpa using hb
        rcases e' with z | z
        · rw [z]; exact hel
        · rw [z]; exact hil
      rw [upd_ne (Nat.ne_of_lt hb')]
      exact (hf b hb).1
  done := by
    intro X hP hw hK hc i pins s σ H E I hf st hg
    subst hP hw hK
    obtain ⟨⟨old, he⟩, hit, hne, hea⟩ := st
    obtain ⟨xs, hq, hx⟩ := hg
    obtain ⟨its, rv, p, hz⟩ := I.tuple hq
    obtain ⟨f0, f1, f2, f3, f4, f5⟩ := hf it (by simp)
    have hl := rv.length
    exact enum_endT (I.ok.hd hc) he hit p (by simp; omega) fun h' eb => ⟨rfl, I.turned (t' := s.toks) (fun b o hb q => eb b o hb q) f0 f1 f3 f4 f5⟩
  self := fun A i s Q E st h => let ⟨⟨_, he⟩, _⟩ := st; wpAny_pyIter_enum he h
def iEnumA (K : PySem.W.Frag) (ta : TA) : TI := fun σ H R => ta σ H fun vs H1 => ∃ a xs, vs = [.ref a] ∧ ((SqL K H1 a xs ∧ R (Ite K a) H1) ∨ (SqT K H1 a xs ∧ R (IteT K a) H1))
theorem pi_enumA {X : Cx} {e : Expr} {ta : TA} {p pos tpos : Pos} {elts : List Expr} {kk : Nat} (hg : Gl X "enumerate") (hm : X.mg "enumerate" = none) (ha : PA X [e] ta) (hs : starEach [e] X.env = [(false, eval e X.env)] := by rfl) :
    PI X (.Tuple elts kk tpos) (.Call (.Name "enumerate" p) [e] [] pos) (iEnumA X.K ta) := by
  refine ⟨fun pins s σ H R I h => ?_⟩
  refine Call_ (ld_blt I hg hm boot_enumerate (PyProof.Rows.callWith_type1 (thn (ha.run pos pins s σ H _ I h) fun us s1 ⟨vs, H1, I1, r1, q1⟩ => ?_) hs rfl))
  obtain ⟨a, xs, ex, hq⟩ := q1
  subst ex
  cases r1 with
  | cons r rr =>
    cases rr
    cases r
    have fp : ∀ b, b ∈ [s1.heap.objs.size + 1, s1.heap.objs.size] → FpOk X pins H1 b := fun b hb => by
      have e' : b = s1.heap.objs.size + 1 ∨ b = s1.heap.objs.size := by simpa using hb
      have hle : s1.heap.objs.size ≤ b := by
        rcases e' with z | z
        · rw [z]; exact Nat.le_add_right _ _
        · rw [z]; exact Nat.le_refl _
      exact I1.fpOk hle (I1.hok.fresh hle)
    rcases hq with ⟨hq, q⟩ | ⟨hq, q⟩
    · obtain ⟨its, rv, p', hz⟩ := I1.list hq
      refine call_enumerate_list p'.isList fun h' he hit hsz hk => wpAny_pyIter_enum he ?_
      have I2 : Inv X pins σ H1 { s1 with heap := h' } := I1.kept (t' := s1.toks) hk
      exact ⟨s1.heap.objs.size + 1, [s1.heap.objs.size + 1, s1.heap.objs.size], _, _, H1, rfl, I2, turn_enum a (s1.heap.objs.size + 1) s1.heap.objs.size, ⟨⟨.none, he⟩, hit, Nat.succ_ne_self _⟩, fp, q⟩
    · obtain ⟨its, rv, p', hz⟩ := I1.tuple hq
      have hal : a < s1.heap.objs.size := by obtain ⟨o, ho, _⟩ := id p'; exact Heap.lt_size ho
      refine call_enumerate_tup (show s1.heap.IsTuple a its.toArray from p') fun h' he hit hsz hk => wpAny_pyIter_enum he ?_
      have I2 : Inv X pins σ H1 { s1 with heap := h' } := I1.kept (t' := s1.toks) hk
      exact ⟨s1.heap.objs.size + 1, [s1.heap.objs.size + 1, s1.heap.objs.size], _, _, H1, rfl, I2, turn_enumT a (s1.heap.objs.size + 1) s1.heap.objs.size (Nat.ne_of_lt hal), ⟨⟨.none, he⟩, hit, Nat.succ_ne_self _, Nat.ne_of_gt (Nat.lt_succ_of_lt hal)⟩, fp, q⟩
theorem walk_enumT {K : PySem.W.Frag} {a : Addr} {xs : List V} : Walk (IteT K a) xs.length (fun H => SqT K H a xs) (YPair (fun i => some (.int (i : Nat))) (fun i => xs[i]?)) := by
  refine ⟨fun i _ hi q => ⟨xs, xs[i], q, by simp [hi]⟩, fun _ q => ⟨xs, q, Nat.le_refl _⟩, fun i H v H' _ q y => ?_⟩
  obtain ⟨T, x, h1, h2, h3, h4⟩ := y
  exact ⟨T, .int (i : Nat), x, h1, h2, h3, rfl, h4 xs q⟩
theorem walk_zipT {K : PySem.W.Frag} {a b : Addr} {xs ys : List V} {n : Nat} (hn : n = min xs.length ys.length) : Walk (RZ.ItzT K a b) n (fun H => SqT K H a xs ∧ SqT K H b ys) (YPair (fun i => xs[i]?) (fun i => ys[i]?)) := by
  subst hn
  refine ⟨fun i _ hi q => ?_, fun _ q => ⟨xs, ys, q.1, q.2, by omega⟩, fun i H v H' _ q y => ?_⟩
  · have h1 : i < xs.length := by omega
    have h2 : i < ys.length := by omega
    exact ⟨xs, ys, xs[i], ys[i], q.1, q.2, by simp [h1], by simp [h2]⟩
  · obtain ⟨T, x, z, h1, h2, h3, h4, h5⟩ := y
    exact ⟨T, x, z, h1, h2, h3, h4 xs q.1, h5 ys q.2⟩
/-! ### xs[i], by values -/
theorem get_listK {X : Cx} {K : PySem.W.Frag} (h : X.K = K) : PGet X (fun x y H Q => ∃ (p : Addr) (xs : List V) (i : Nat) (v : V), x = .ref p ∧ y = .int (i : Int) ∧ SqL K H p xs ∧ xs[i]? = some v ∧ Q v H) := by
  subst h
  intro pins s σ H x y v u Q I rx ry h
  obtain ⟨p, xs, i, z, rfl, rfl, hq, he, q⟩ := h
  cases rx
  obtain ⟨t, rfl⟩ := ry
  obtain ⟨its, r, pl, hz⟩ := I.list hq
  obtain ⟨w, ew, rw'⟩ := r.get he
  have hl := (List.getElem?_eq_some_iff.mp ew).1
  have hrl := r.length
  have hn := line63
  exact wpAny_getItem_list pl.isList (by omega) (by omega) (by simpa using ew) ⟨z, H, I, rw', q⟩
/-! ### a dict of the top: text keys, any text asked for -/
/-- the written dict at d: its pairs, each value by what is read of it -/
structure KD (K : PySem.W.Frag) (w : World) (d : Addr) (kvs : List (Str × V)) : Prop where
  ex : ∃ es n, KDict K w d es n
  hit : ∀ z v, kvs.lookup z = some v → ∃ u, PySem.W.nsIn K d z = some (some u) ∧ RelV v u
  miss : ∀ z, kvs.lookup z = none → PySem.W.nsIn K d z = some none
theorem op_notInKD {X : Cx} {d : Addr} {kvs : List (Str × V)} (D : KD X.K X.w d kvs) : OpR X (compareOp .NotIn) (fun x y H Q => ∃ z : Str, x = .str z ∧ y = .ref d ∧ Q (.bl (!(kvs.lookup z).isSome)) H) := by
  obtain ⟨es, n, KDc⟩ := D.ex
  intro pins s σ H x y v u Q I rx ry h
  obtain ⟨z, hx, hy, q⟩ := h
  refine op_notIn_kd KDc pins s σ H x y v u Q I rx ry ?_
  cases e : kvs.lookup z with
  | none =>
    rw [e] at q
    exact ⟨z, none, hx, hy, D.miss z e, q⟩
  | some v0 =>
    rw [e] at q
    obtain ⟨u0, e2, _⟩ := D.hit z v0 e
    exact ⟨z, some u0, hx, hy, e2, q⟩
theorem ix_KD {X : Cx} {d : Addr} {kvs : List (Str × V)} (D : KD X.K X.w d kvs) : IxR X (fun x y H Q => ∃ (z : Str) (v : V), x = .ref d ∧ y = .str z ∧ kvs.lookup z = some v ∧ Q v H) := by
  obtain ⟨es, n, KDc⟩ := D.ex
  intro value slice pins s σ H x y v u Q I rx ry h hs
  obtain ⟨z, v0, hx, hy, e, q⟩ := h
  obtain ⟨u0, e2, r⟩ := D.hit z v0 e
  exact ix_kdict value slice pins s σ H x y v u Q I rx ry ⟨d, z, v0, hx, hy, ⟨es, n, u0, KDc.at_, KDc.lit, e2, r⟩, q⟩ hs
end W2
namespace W2
open PySem PySem.Spec PyProof.Rows L2
/-! ### data -/
def ov : Option Nat → V
  | none => .non
  | some k => .int (k : Int)
abbrev nv (k : Nat) : V := .int (k : Int)
abbrev pv' (ps : List (Option Nat)) : List V := ps.map ov
theorem pw_ : ¬ (("parents" : Str) = "worths") := by decide +kernel
theorem wp_ : ¬ (("worths" : Str) = "parents") := by decide +kernel
def pf (a b : Addr) : List (Str × V) := putF "worths" (.ref b) (putF "parents" (.ref a) [])
theorem pf_parents (a b : Addr) : (pf a b).lookup ("parents" : Str) = some (.ref a) := by
  unfold pf
  rw [lookup_putF, if_neg pw_, lookup_putF, if_pos rfl]
theorem pf_worths (a b : Addr) : (pf a b).lookup ("worths" : Str) = some (.ref b) := by
  unfold pf
  rw [lookup_putF, if_pos rfl]
/-! ### lists of houses -/
theorem flat_nv (l : List Nat) : (l.map nv).all flatV = true := by
  rw [List.all_eq_true]
  intro x hx
  obtain ⟨y, _, rfl⟩ := List.mem_map.mp hx
  rfl
theorem eqV_nv (a b : Nat) : eqV (nv a) (nv b) = decide (a = b) := by
  show ((a : Int) == (b : Int)) = decide (a = b)
  rw [Bool.eq_iff_iff, beq_iff_eq, decide_eq_true_iff]
  omega
theorem inV_nv (h : Nat) (l : List Nat) : inV (nv h) (l.map nv) = decide (h ∈ l) := by
  unfold inV
  rw [List.any_map, Bool.eq_iff_iff, List.any_eq_true, decide_eq_true_iff]
  constructor
  · rintro ⟨x, hx, e⟩
    have e2 : eqV (nv x) (nv h) = true := e
    rw [eqV_nv] at e2
    have := of_decide_eq_true e2
    subst this
    exact hx
  · intro hx
    refine ⟨h, hx, ?_⟩
    show eqV (nv h) (nv h) = true
    rw [eqV_nv]
    simp
theorem idx_at {l : List Nat} {x : Nat} (h : x ∈ l) : (l.map nv)[l.idxOf x]? = some (nv x) := by
  have hl : l.idxOf x < l.length := List.idxOf_lt_length_of_mem h
  rw [List.getElem?_map, List.getElem?_eq_getElem hl, List.getElem_idxOf hl]
  rfl
theorem idx_no {l : List Nat} {x : Nat} (m : Nat) (z : V) (hm : m < l.idxOf x) (hz : (l.map nv)[m]? = some z) : eqV z (nv x) = false := by
  rw [List.getElem?_map] at hz
  cases e : l[m]? with
  | none => rw [e] at hz; cases hz
  | some y =>
    rw [e] at hz
    have ez : z = nv y := (Option.some.inj hz).symm
    subst ez
    rw [eqV_nv]
    refine decide_eq_false fun q => ?_
    subst q
    have hl := (List.getElem?_eq_some_iff.mp e).1
    have := List.not_of_lt_findIdx (p := fun z => z == y) (xs := l) (i := m) hm
    rw [(List.getElem?_eq_some_iff.mp e).2] at this
    simp at this
theorem eqV_self (x : Nat) : eqV (nv x) (nv x) = true := by
  rw [eqV_nv]
  simp
theorem rgV_nv (n : Nat) : rgV 0 (n : Int) = (List.range n).map nv := by
  unfold rgV
  rw [Int.sub_zero, Int.toNat_natCast]
  refine List.map_congr_left fun i _ => ?_
  rw [Int.zero_add]
theorem flat_rep (n : Nat) : (List.replicate n [V.non]).flatten = (List.replicate n (none : Option Nat)).map ov := by
  induction n with
  | zero => rfl
  | succ n ih =>
    rw [List.replicate_succ, List.flatten_cons, ih, List.replicate_succ, List.map_cons]
    rfl
/-! ### parents by an order -/
def Par (od : List Nat) (ps : List (Option Nat)) : Prop := ∀ (k g : Nat), od[k]? = some g → ps[g]? = some none ∨ ∃ (j p : Nat), j < k ∧ od[j]? = some p ∧ ps[g]? = some (some p)
theorem par_set {od : List Nat} {ps : List (Option Nat)} (h : Par od ps) (nd : od.Nodup) {k g : Nat} (hk : od[k]? = some g) (hg : g < ps.length) {v : Option Nat} (hv : v = none ∨ ∃ (j p : Nat), j < k ∧ od[j]? = some p ∧ v = some p) : Par od (ps.set g v) := by
  intro k' g' hk'
  by_cases e : g = g'
  · subst e
    have ek : k = k' := nd_ix nd hk hk'
    subst ek
    rw [List.getElem?_set_self hg]
    rcases hv with rfl | ⟨j, p, hj, hp, rfl⟩
    · exact .inl rfl
    · exact .inr ⟨j, p, hj, hp, rfl⟩
  · rw [List.getElem?_set_ne e]
    exact h k' g' hk'
theorem par_tree {od : List Nat} {ps : List (Option Nat)} (h : Par od ps) {n : Nat} (hp : od.Perm (List.range n)) (hn : ps.length = n) : Tree ps := by
  refine tree_ord (o := od) (by rw [hp.length_eq, List.length_range, hn]) (fun x hx => ?_) h
  have : x ∈ od := hp.mem_iff.mpr (List.mem_range.mpr (by omega))
  obtain ⟨i, hi, e⟩ := List.getElem_of_mem this
  exact ⟨i, List.getElem?_eq_some_iff.mpr ⟨hi, e⟩⟩
/-- a Forest -/
structure FAt (C : Addr) (H : Hp) (f : Addr) (ps : List (Option Nat)) (ws : List Int) (dx a b : Addr) : Prop where
  o : H f = some (.ins C dx (pf a b))
  p : H a = some (.tup (ps.map ov))
  w : H b = some (.tup (ws.map V.int))
theorem FAt.same {C : Addr} {H H' : Hp} {f : Addr} {ps : List (Option Nat)} {ws : List Int} {dx a b : Addr} (x : FAt C H f ps ws dx a b) (s : Same H H') : FAt C H' f ps ws dx a b := ⟨s _ _ x.o, s _ _ x.p, s _ _ x.w⟩
theorem FAt.bt {C : Addr} {H H' : Hp} {f h : Addr} {ps : List (Option Nat)} {ws : List Int} {dx a b : Addr} {l : List V} (x : FAt C H f ps ws dx a b) (hh : H h = some (.lst l)) (s : Bt h H H') : FAt C H' f ps ws dx a b :=
  ⟨s _ _ (ne_of x.o hh (fun z => nomatch z)) x.o, s _ _ (ne_of x.p hh (fun z => nomatch z)) x.p, s _ _ (ne_of x.w hh (fun z => nomatch z)) x.w⟩
/-- the hand -/
structure HandAt (H : Hp) (h : Addr) (l : Addr) (ns : List Int) (i b s c : Int) : Prop where
  o : H h = some (.lst [.ref l, .int i, .int b, .int s, .int c])
  n : H l = some (.lst (ns.map V.int))
  i0 : 0 ≤ i
  b0 : 0 ≤ b
  s0 : 0 ≤ s
  s1 : s < 2147483647
def Hand (H : Hp) (h l : Addr) : Prop := ∃ ns i b s c, HandAt H h l ns i b s c
theorem Hand.lst {H : Hp} {h l : Addr} (x : Hand H h l) : ∃ l, H h = some (.lst l) := let ⟨_, _, _, _, _, y⟩ := x; ⟨_, y.o⟩
theorem Hand.row {H : Hp} {h l : Addr} (x : Hand H h l) : ∃ ns, H l = some (.lst ns) := let ⟨_, _, _, _, _, y⟩ := x; ⟨_, y.n⟩
theorem Hand.same {H H' : Hp} {h l : Addr} (x : Hand H h l) (s : Same H H') : Hand H' h l := let ⟨ns, i, b, t, c, y⟩ := x; ⟨ns, i, b, t, c, s _ _ y.o, s _ _ y.n, y.i0, y.b0, y.s0, y.s1⟩
theorem Hand.upd {H : Hp} {h l p : Addr} {o : HO} (x : Hand H h l) (hp : H p = none) : Hand (L2.upd H p o) h l := x.same (same_upd hp)
/-- an object at q, not the hand nor its row, is changed -/
theorem Hand.set {H : Hp} {h l q : Addr} {o : HO} (x : Hand H h l) (n1 : q ≠ h) (n2 : q ≠ l) : Hand (L2.upd H q o) h l := by
  obtain ⟨ns, i, b, s, c, y⟩ := x
  exact ⟨ns, i, b, s, c, by rw [upd_ne n1.symm]; exact y.o, by rw [upd_ne n2.symm]; exact y.n, y.i0, y.b0, y.s0, y.s1⟩

theorem ov_inj {a b : Option Nat} (h : ov a = ov b) : a = b := by
  cases a with
  | none => cases b with
    | none => rfl
    | some k => cases h
  | some k => cases b with
    | none => cases h
    | some m =>
      have e : (k : Int) = (m : Int) := V.int.inj h
      rw [show k = m by omega]
theorem map_inj {α : Type} {f : α → V} (hf : ∀ a b, f a = f b → a = b) : ∀ {l m : List α}, l.map f = m.map f → l = m
  | [], [], _ => rfl
  | [], _ :: _, h => by cases h
  | _ :: _, [], h => by cases h
  | a :: l, b :: m, h => by
    have h1 := (List.cons.inj h).1
    have h2 := (List.cons.inj h).2
    rw [hf a b h1, map_inj hf h2]
theorem ov_maps {l m : List (Option Nat)} (h : l.map ov = m.map ov) : l = m := map_inj (fun _ _ => ov_inj) h
theorem int_maps {l m : List Int} (h : l.map V.int = m.map V.int) : l = m := map_inj (fun _ _ => V.int.inj) h
/-- a house, by value -/
def hsV (n : Int) : V → Bool
  | .int i => decide (0 ≤ i) && decide (i < n)
  | _ => false
def wiV (a b : Int) : V → Bool
  | .int i => decide (a ≤ i) && decide (i ≤ b)
  | _ => false
def okE (n : Int) (x : V) : Bool := decide (x = .non) || hsV n x
theorem okE_ov {n : Nat} {x : V} (h : okE n x = true) : ∃ o : Option Nat, x = ov o ∧ ∀ q, o = some q → q < n := by
  unfold okE at h
  rcases Bool.or_eq_true_iff.mp h with h | h
  · exact ⟨none, of_decide_eq_true h, fun q z => nomatch z⟩
  · cases x with
    | int i =>
      have h2 := Bool.and_eq_true_iff.mp h
      have h3 := of_decide_eq_true h2.1
      have h4 := of_decide_eq_true h2.2
      refine ⟨some i.toNat, ?_, fun q z => ?_⟩
      · show V.int i = V.int ((i.toNat : Nat) : Int)
        rw [Int.toNat_of_nonneg h3]
      · cases z
        omega
    | _ => cases h
theorem ov_okE {n : Nat} {o : Option Nat} (h : ∀ q, o = some q → q < n) : okE n (ov o) = true := by
  cases o with
  | none => rfl
  | some q =>
    have := h q rfl
    show (decide (V.int (q : Int) = V.non) || (decide ((0 : Int) ≤ (q : Int)) && decide ((q : Int) < (n : Int)))) = true
    rw [decide_eq_true (show (0 : Int) ≤ (q : Int) by omega), decide_eq_true (show (q : Int) < (n : Int) by omega)]
    simp
theorem all_ov {n : Nat} : ∀ {xs : List V}, (∀ x ∈ xs, okE n x = true) → ∃ ps : List (Option Nat), xs = ps.map ov ∧ ∀ o ∈ ps, ∀ q, o = some q → q < n
  | [], _ => ⟨[], rfl, fun _ h => by cases h⟩
  | x :: xs, h => by
    obtain ⟨ps, e, k⟩ := all_ov (xs := xs) fun y hy => h y (List.mem_cons_of_mem _ hy)
    obtain ⟨o, e2, k2⟩ := okE_ov (h x List.mem_cons_self)
    refine ⟨o :: ps, by rw [e, e2]; rfl, fun o' ho => ?_⟩
    rcases List.mem_cons.mp ho with rfl | ho
    · exact k2
    · exact k o' ho
theorem int_all : ∀ {xs : List V}, (∀ x ∈ xs, isI x = true) → ∃ ws : List Int, xs = ws.map V.int
  | [], _ => ⟨[], rfl⟩
  | x :: xs, h => by
    obtain ⟨ws, e⟩ := int_all (xs := xs) fun y hy => h y (List.mem_cons_of_mem _ hy)
    obtain ⟨i, e2⟩ := isI_of (h x List.mem_cons_self)
    exact ⟨i :: ws, by rw [e, e2]; rfl⟩
theorem wiV_hsV (n : Nat) (x : V) : wiV 0 ((n : Int) - 1) x = hsV n x := by
  cases x with
  | int i =>
    show (decide (0 ≤ i) && decide (i ≤ (n : Int) - 1)) = (decide (0 ≤ i) && decide (i < (n : Int)))
    have e : decide (i ≤ (n : Int) - 1) = decide (i < (n : Int)) := by
      rw [decide_eq_decide]
      omega
    rw [e]
  | _ => rfl
/-- right parents, right worths -/
def OkP (H : Hp) (x : V) (a : Addr) (ps : List (Option Nat)) : Prop := x = .ref a ∧ H a = some (.tup (ps.map ov)) ∧ Tree ps ∧ 1 ≤ ps.length ∧ ps.length ≤ 64
def OkW (H : Hp) (x : V) (n : Nat) (a : Addr) (ws : List Int) : Prop := x = .ref a ∧ H a = some (.tup (ws.map V.int)) ∧ ws.length = n
theorem OkP.same {H H' : Hp} {x : V} {a : Addr} {ps : List (Option Nat)} (o : OkP H x a ps) (s : Same H H') : OkP H' x a ps := ⟨o.1, s _ _ o.2.1, o.2.2⟩
theorem OkW.same {H H' : Hp} {x : V} {n : Nat} {a : Addr} {ps : List Int} (o : OkW H x n a ps) (s : Same H H') : OkW H' x n a ps := ⟨o.1, s _ _ o.2.1, o.2.2⟩
def od : Option Nat → PyData
  | none => .none
  | some k => .int (k : Int)
def eqF (ps qs : List (Option Nat)) (ws vs : List Int) : Bool := PyData.eqv (.tuple (ps.map od)) (.tuple (qs.map od)) && PyData.eqv (.tuple (ws.map PyData.int)) (.tuple (vs.map PyData.int))
theorem dp_ps {K : PySem.W.Frag} {H : Hp} : ∀ ps : List (Option Nat), DpAll K H (ps.map ov) (ps.map od)
  | [] => .nil
  | none :: ps => .cons .non (dp_ps ps)
  | some k :: ps => .cons (.int _) (dp_ps ps)
theorem dp_ws {K : PySem.W.Frag} {H : Hp} : ∀ ws : List Int, DpAll K H (ws.map V.int) (ws.map PyData.int)
  | [] => .nil
  | k :: ws => .cons (.int _) (dp_ws ws)
theorem lay_ps : ∀ ps : List (Option Nat), PyData.canLayAll0 (ps.map od) = true
  | [] => rfl
  | none :: ps => lay_ps ps
  | some k :: ps => lay_ps ps
theorem lay_ws : ∀ ws : List Int, PyData.canLayAll0 (ws.map PyData.int) = true
  | [] => rfl
  | k :: ws => lay_ws ws
theorem dep_ps : ∀ ps : List (Option Nat), PyData.depthAll (ps.map od) ≤ 1
  | [] => Nat.zero_le _
  | none :: ps => Nat.max_le.mpr ⟨by decide, dep_ps ps⟩
  | some k :: ps => Nat.max_le.mpr ⟨by show PyData.depth (.int _) ≤ 1; simp [PyData.depth], dep_ps ps⟩
theorem dep_ws : ∀ ws : List Int, PyData.depthAll (ws.map PyData.int) ≤ 1
  | [] => Nat.zero_le _
  | k :: ws => Nat.max_le.mpr ⟨by show PyData.depth (.int _) ≤ 1; simp [PyData.depth], dep_ws ws⟩
theorem sh_tup {l : List PyData} (h1 : PyData.canLayAll0 l = true) (h2 : PyData.depthAll l ≤ 60) : SeqAt.shaped (.tuple l) = true := by
  refine Bool.and_eq_true_iff.mpr ⟨h1, decide_eq_true ?_⟩
  show PyData.depthAll l + 1 ≤ 64
  omega
theorem sh_ps (ps : List (Option Nat)) : SeqAt.shaped (.tuple (ps.map od)) = true := sh_tup (lay_ps ps) (Nat.le_trans (dep_ps ps) (by decide))
theorem sh_ws (ws : List Int) : SeqAt.shaped (.tuple (ws.map PyData.int)) = true := sh_tup (lay_ws ws) (Nat.le_trans (dep_ws ws) (by decide))
/-- of a forest at f -/
def Fo (C : Addr) (H : Hp) (f : Addr) (ps : List (Option Nat)) (ws : List Int) : Prop := ∃ dx a b, FAt C H f ps ws dx a b
theorem Fo.same {C : Addr} {H H' : Hp} {f : Addr} {ps : List (Option Nat)} {ws : List Int} (x : Fo C H f ps ws) (s : Same H H') : Fo C H' f ps ws := let ⟨dx, a, b, y⟩ := x; ⟨dx, a, b, y.same s⟩
/-- a row of parents, list or tuple -/
def Pa (H : Hp) (p : Addr) (ps : List (Option Nat)) : Prop := H p = some (.lst (ps.map ov)) ∨ H p = some (.tup (ps.map ov))
theorem Pa.same {H H' : Hp} {p : Addr} {ps : List (Option Nat)} (x : Pa H p ps) (s : Same H H') : Pa H' p ps := x.elim (fun e => .inl (s _ _ e)) fun e => .inr (s _ _ e)
theorem Pa.ix {K : PySem.W.Frag} {H : Hp} {p : Addr} {ps : List (Option Nat)} {i : Int} {v : V} {Q : VK} (x : Pa H p ps) (e : atI (ps.map ov) i = some v) (q : Q v H) : rIxL K (.ref p) (.int i) H Q ∨ rIxT K (.ref p) (.int i) H Q :=
  x.elim (fun h => .inl ⟨p, _, _, _, rfl, rfl, SqL.of h, e, q⟩) fun h => .inr ⟨p, _, _, _, rfl, rfl, SqT.of h, e, q⟩
theorem Pa.sq {K : PySem.W.Frag} {H : Hp} {p : Addr} {ps : List (Option Nat)} (x : Pa H p ps) : SqL K H p (ps.map ov) ∨ SqT K H p (ps.map ov) := x.elim (fun h => .inl (SqL.of h)) fun h => .inr (SqT.of h)
/-- alike, to a depth -/
def EqS : Nat → Hp → V → V → Prop
  | 0, _, _, _ => False
  | d + 1, H, x, y => (x = .non ∧ y = .non) ∨ (∃ i, x = .int i ∧ y = .int i) ∨ (∃ i, x = .str i ∧ y = .str i) ∨ ∃ a b xs ys, x = .ref a ∧ y = .ref b ∧ H a = some (.tup xs) ∧ H b = some (.tup ys) ∧ xs.length = ys.length ∧ ∀ (i : Nat) (x y : V), xs[i]? = some x → ys[i]? = some y → EqS d H x y
theorem EqS.same {H H' : Hp} (s : Same H H') : ∀ {d : Nat} {x y : V}, EqS d H x y → EqS d H' x y
  | 0, _, _, h => h.elim
  | d + 1, x, y, h => by
    rcases h with h | h | h | ⟨a, b, xs, ys, h1, h2, h3, h4, h5, h6⟩
    · exact .inl h
    · exact .inr (.inl h)
    · exact .inr (.inr (.inl h))
    · exact .inr (.inr (.inr ⟨a, b, xs, ys, h1, h2, s _ _ h3, s _ _ h4, h5, fun i x y q r => (h6 i x y q r).same s⟩))
theorem EqS.succ {H : Hp} : ∀ {d : Nat} {x y : V}, EqS d H x y → EqS (d + 1) H x y
  | 0, _, _, h => h.elim
  | d + 1, x, y, h => by
    rcases h with h | h | h | ⟨a, b, xs, ys, h1, h2, h3, h4, h5, h6⟩
    · exact .inl h
    · exact .inr (.inl h)
    · exact .inr (.inr (.inl h))
    · exact .inr (.inr (.inr ⟨a, b, xs, ys, h1, h2, h3, h4, h5, fun i x y q r => (h6 i x y q r).succ⟩))
theorem eqs_flat {H : Hp} {d : Nat} {a b : Addr} {xs : List V} (ha : H a = some (.tup xs)) (hb : H b = some (.tup xs)) (h : ∀ x ∈ xs, x = .non ∨ ∃ i, x = .int i) : EqS (d + 2) H (.ref a) (.ref b) := by
  refine .inr (.inr (.inr ⟨a, b, xs, xs, rfl, rfl, ha, hb, rfl, fun i x y hx hy => ?_⟩))
  rw [hx] at hy
  cases hy
  rcases h x (List.mem_of_getElem? hx) with rfl | ⟨j, rfl⟩
  · exact .inl ⟨rfl, rfl⟩
  · exact .inr (.inl ⟨j, rfl, rfl⟩)
theorem flat_ov2 (l : List (Option Nat)) : ∀ x ∈ l.map ov, x = V.non ∨ ∃ i, x = V.int i := fun x hx => by
  obtain ⟨y, _, rfl⟩ := List.mem_map.mp hx
  cases y with
  | none => exact .inl rfl
  | some k => exact .inr ⟨_, rfl⟩
theorem flat_int2 (l : List Int) : ∀ x ∈ l.map V.int, x = V.non ∨ ∃ i, x = V.int i := fun x hx => by
  obtain ⟨y, _, rfl⟩ := List.mem_map.mp hx
  exact .inr ⟨_, rfl⟩
def numV : V → Bool
  | .int i => decide (0 ≤ i)
  | _ => false
theorem tree_one : Tree [none] := tree_iff.mpr fun h hh => by
  have : h = 0 := by have := hh; simp at this; omega
  subst this
  exact ⟨[0], .root rfl⟩
theorem Hand.nn {H : Hp} {h l x : Addr} (hh : Hand H h l) (hx : H x = none) : x ≠ h := let ⟨_, e⟩ := hh.lst; (ne_of_none e hx).symm
theorem tE_ok {σ : L2.St} {H : Hp} {Q : VK} (k : ∀ H' t, L2.Same H H' → H' t = some (.tup []) → Q (.ref t) H') : tTup tNil σ H Q := ⟨small (by show 0 ≤ 100000; decide), fun t ht => k _ t (same_upd ht) upd_same⟩
theorem t1_ok {v : V} {σ : L2.St} {H : Hp} {Q : VK} (k : ∀ H' t, L2.Same H H' → H' t = some (.tup [v]) → Q (.ref t) H') : tTup (tCons (tC v) tNil) σ H Q := ⟨small (by show 1 ≤ 100000; decide), fun t ht => k _ t (same_upd ht) upd_same⟩

/-! ### promises of small defs -/
def spIsInt (CS : List Addr) : Sp := fun vs H Q _ => ∃ (x : V), vs = [x] ∧ Any CS H x ∧ Ret (.bl (isI x)) H Q
def spBetween (CS : List Addr) : Sp := fun vs H Q _ => ∃ (a b : Int) (x : V), vs = [.int a, .int b, x] ∧ Any CS H x ∧ Ret (.bl (wiV a b x)) H Q
def spWithin (CS : List Addr) : Sp := fun vs H Q _ => ∃ (a b : Int) (x : V), vs = [x, .int a, .int b] ∧ Any CS H x ∧ Ret (.bl (wiV a b x)) H Q
def spIsNum (CS : List Addr) : Sp := fun vs H Q _ => ∃ (x : V), vs = [x] ∧ Any CS H x ∧ Ret (.bl (numV x)) H Q
def spIsHouse (CS : List Addr) : Sp := fun vs H Q _ => ∃ (n : Int) (x : V), vs = [.int n, x] ∧ Any CS H x ∧ Ret (.bl (wiV 0 (n - 1) x)) H Q
def spIsMany (CS : List Addr) : Sp := fun vs H Q _ => ∃ (x : V), vs = [x] ∧ Any CS H x ∧ Ret (.bl (wiV 1 64 x)) H Q
def spHand (K : PySem.W.Frag) : Sp := fun vs H Q _ => ∃ (s : Addr) (ns : List Int), vs = [.ref s] ∧ SqL K H s (ns.map V.int) ∧ ns.length ≤ 63 ∧ ∀ H' h l, Same H H' → H h = none → Hand H' h l → Q (.ref h) H'
def spTake : Sp := fun vs H Q _ => ∃ (h l : Addr) (n : Int), vs = [.ref h, .int n] ∧ Hand H h l ∧ 0 < n ∧ n < 1073741824 ∧ ∀ H' (r : Nat), Bt h H H' → Hand H' h l → (r : Int) < n → Q (.int (r : Int)) H'
def spPick : Sp := fun vs H Q _ => ∃ (h l t : Addr) (xs : List V), vs = [.ref h, .ref t] ∧ Hand H h l ∧ H t = some (.lst xs) ∧ t ≠ h ∧ 0 < xs.length ∧ xs.length ≤ 100000 ∧ ∀ H' x, Bt h H H' → Hand H' h l → x ∈ xs → Q x H'
def spLaw (K : PySem.W.Frag) : Sp := fun vs H Q _ => ∃ (a : Addr) (ns : List Int), vs = [.ref a] ∧ SqL K H a (ns.map V.int) ∧ ns.length ≤ 63 ∧ ∀ H', Q (.bl true) H'
theorem rIxL_any {K : PySem.W.Frag} {t : Addr} {xs : List V} {r : Int} {H : Hp} {Q : VK} (ht : H t = some (.lst xs)) (h0 : 0 ≤ r) (h1 : r < xs.length) (k : ∀ v ∈ xs, Q v H) : rIxL K (.ref t) (.int r) H Q := by
  have hr : r.toNat < xs.length := by omega
  exact ⟨t, _, _, _, rfl, rfl, SqL.of ht, at_of (by omega) (List.getElem?_eq_getElem hr), k _ (List.getElem_mem hr)⟩
theorem ixL_any {K : PySem.W.Frag} {t : Addr} {xs : List V} {r : Nat} {n : Int} {H : Hp} {Q : VK} (ht : H t = some (.lst xs)) (h1 : (r : Int) < n) (hn : n = (xs.length : Int)) (k : ∀ v ∈ xs, Q v H) : rIxL K (.ref t) (.int (r : Int)) H Q :=
  rIxL_any ht (Int.natCast_nonneg r) (by omega) k
theorem any_ov {CS : List Addr} {H : Hp} (o : Option Nat) : Any CS H (ov o) := by
  cases o with
  | none => exact .non
  | some k => exact .int _
theorem Hand.kin {h l : Addr} {H H' : Hp} (a : Hand H h l) (b : Bt h H H') (c : Hand H' h l) : Kin H H' := by
  obtain ⟨_, e⟩ := a.lst
  obtain ⟨_, f⟩ := c.lst
  exact Kin.bt b e f
theorem wiT {a b n : Int} (h1 : a ≤ n) (h2 : n ≤ b) : wiV a b (.int n) = true := by
  show (decide (a ≤ n) && decide (n ≤ b)) = true
  rw [decide_eq_true h1, decide_eq_true h2]
  rfl
theorem wiV_of {a b : Int} {x : V} (h : wiV a b x = true) : ∃ i, x = .int i ∧ a ≤ i ∧ i ≤ b := by
  cases x with
  | int i =>
    have h2 := Bool.and_eq_true_iff.mp h
    exact ⟨i, rfl, of_decide_eq_true h2.1, of_decide_eq_true h2.2⟩
  | _ => cases h
/-! ### forests as data -/
def dOv : Option Nat → Dt
  | none => .non
  | some k => .int (k : Int)
def dPs (ps : List (Option Nat)) : Dt := .tup (ps.map dOv)
def dWs (ws : List Int) : Dt := .tup (ws.map Dt.int)
theorem dOv_inj {a b : Option Nat} (h : dOv a = dOv b) : a = b := by
  cases a <;> cases b <;> simp [dOv] at h ⊢ <;> omega
theorem rep_ov {CS : List Addr} {H : Hp} {o : Option Nat} {x : V} : Rep CS H (dOv o) x ↔ x = ov o := by
  cases o with
  | none => exact rep_non
  | some k => exact rep_int
theorem repL_ov {CS : List Addr} {H : Hp} : ∀ {ps : List (Option Nat)} {xs : List V}, RepL CS H (ps.map dOv) xs ↔ xs = ps.map ov
  | [], xs => repL_nil
  | o :: ps, xs => by
    rw [List.map_cons, repL_cons, List.map_cons]
    constructor
    · rintro ⟨y, ys, rfl, a, b⟩
      rw [rep_ov.mp a, repL_ov.mp b]
    · rintro rfl
      exact ⟨_, _, rfl, rep_ov.mpr rfl, repL_ov.mpr rfl⟩
theorem repL_ws {CS : List Addr} {H : Hp} : ∀ {ps : List Int} {xs : List V}, RepL CS H (ps.map Dt.int) xs ↔ xs = ps.map V.int
  | [], xs => repL_nil
  | o :: ps, xs => by
    rw [List.map_cons, repL_cons, List.map_cons]
    constructor
    · rintro ⟨y, ys, rfl, a, b⟩
      rw [rep_int.mp a, repL_ws.mp b]
    · rintro rfl
      exact ⟨_, _, rfl, rep_int.mpr rfl, repL_ws.mpr rfl⟩
theorem rep_ps {CS : List Addr} {H : Hp} {ps : List (Option Nat)} {x : V} : Rep CS H (dPs ps) x ↔ ∃ a, x = .ref a ∧ H a = some (.tup (ps.map ov)) := by
  unfold dPs
  rw [rep_tup]
  constructor
  · rintro ⟨a, xs, rfl, e, r⟩
    rw [repL_ov.mp r] at e
    exact ⟨a, rfl, e⟩
  · rintro ⟨a, rfl, e⟩
    exact ⟨a, _, rfl, e, repL_ov.mpr rfl⟩
theorem rep_ws {CS : List Addr} {H : Hp} {ps : List Int} {x : V} : Rep CS H (dWs ps) x ↔ ∃ a, x = .ref a ∧ H a = some (.tup (ps.map V.int)) := by
  unfold dWs
  rw [rep_tup]
  constructor
  · rintro ⟨a, xs, rfl, e, r⟩
    rw [repL_ws.mp r] at e
    exact ⟨a, rfl, e⟩
  · rintro ⟨a, rfl, e⟩
    exact ⟨a, _, rfl, e, repL_ws.mpr rfl⟩
theorem nft {P : Prop} (h : false = true) : P := nomatch h
theorem rep_bl_inv {CS : List Addr} {H : Hp} {d : Dt} {b : Bool} (r : Rep CS H d (.bl b)) : d = .bl b := by
  cases d with
  | bl b' => cases rep_bl.mp r; rfl
  | non => cases rep_non.mp r
  | int i => cases rep_int.mp r
  | str i => cases rep_str.mp r
  | tup l => obtain ⟨_, _, e, _⟩ := rep_tup.mp r; cases e
  | lst => obtain ⟨_, _, e, _⟩ := rep_lst.mp r; cases e
  | dic => obtain ⟨_, _, e, _⟩ := rep_dic.mp r; cases e
  | ins C => obtain ⟨_, _, _, _, e, _⟩ := rep_ins.mp r; cases e
theorem rep_int_inv {CS : List Addr} {H : Hp} {d : Dt} {b : Int} (r : Rep CS H d (.int b)) : d = .int b := by
  cases d with
  | bl b' => cases rep_bl.mp r
  | non => cases rep_non.mp r
  | int i => cases rep_int.mp r; rfl
  | str i => cases rep_str.mp r
  | tup l => obtain ⟨_, _, e, _⟩ := rep_tup.mp r; cases e
  | lst => obtain ⟨_, _, e, _⟩ := rep_lst.mp r; cases e
  | dic => obtain ⟨_, _, e, _⟩ := rep_dic.mp r; cases e
  | ins C => obtain ⟨_, _, _, _, e, _⟩ := rep_ins.mp r; cases e
theorem rep_non_inv {CS : List Addr} {H : Hp} {d : Dt} (r : Rep CS H d .non) : d = .non := by
  cases d with
  | bl b' => cases rep_bl.mp r
  | non => rfl
  | int i => cases rep_int.mp r
  | str i => cases rep_str.mp r
  | tup l => obtain ⟨_, _, e, _⟩ := rep_tup.mp r; cases e
  | lst => obtain ⟨_, _, e, _⟩ := rep_lst.mp r; cases e
  | dic => obtain ⟨_, _, e, _⟩ := rep_dic.mp r; cases e
  | ins C => obtain ⟨_, _, _, _, e, _⟩ := rep_ins.mp r; cases e
theorem rep_str_inv {CS : List Addr} {H : Hp} {d : Dt} {b : Str} (r : Rep CS H d (.str b)) : d = .str b := by
  cases d with
  | bl b' => cases rep_bl.mp r
  | non => cases rep_non.mp r
  | int i => cases rep_int.mp r
  | str i => cases rep_str.mp r; rfl
  | tup l => obtain ⟨_, _, e, _⟩ := rep_tup.mp r; cases e
  | lst => obtain ⟨_, _, e, _⟩ := rep_lst.mp r; cases e
  | dic => obtain ⟨_, _, e, _⟩ := rep_dic.mp r; cases e
  | ins C => obtain ⟨_, _, _, _, e, _⟩ := rep_ins.mp r; cases e
theorem rep_ov_inv {CS : List Addr} {H : Hp} {d : Dt} {o : Option Nat} (r : Rep CS H d (ov o)) : d = dOv o := by
  cases o with
  | none => exact rep_non_inv r
  | some k => exact rep_int_inv r
noncomputable def dec (P : Prop) : Bool := @decide P (Classical.propDecidable P)
theorem dec_iff {P : Prop} : dec P = true ↔ P := by
  exact @decide_eq_true_iff P (Classical.propDecidable P)
theorem dec_t {P : Prop} (h : P) : dec P = true := dec_iff.mpr h
theorem dec_f {P : Prop} (h : ¬ P) : dec P = false := by
  cases e : dec P with
  | false => rfl
  | true => exact absurd (dec_iff.mp e) h
theorem eq_dec {b : Bool} {P : Prop} (h : b = true ↔ P) : b = dec P := by
  rw [Bool.eq_iff_iff, dec_iff]
  exact h
theorem dec_congr {P R : Prop} (h : P ↔ R) : dec P = dec R := by
  rw [Bool.eq_iff_iff, dec_iff, dec_iff]
  exact h
theorem ret_dec {b : Bool} {P : Prop} {H : Hp} {Q : VK} (k : Ret (.bl (dec P)) H Q) (h : b = true ↔ P) : Ret (.bl b) H Q := by
  rw [eq_dec h]
  exact k
theorem ret_f {P : Prop} {H : Hp} {Q : VK} (k : Ret (.bl (dec P)) H Q) (h : ¬ P) : Ret (.bl false) H Q := ret_dec k ⟨nft, fun z => absurd z h⟩
theorem ret_t {P : Prop} {H : Hp} {Q : VK} (k : Ret (.bl (dec P)) H Q) (h : P) : Ret (.bl true) H Q := ret_dec k ⟨fun _ => h, fun _ => rfl⟩
theorem Ret.mono {v : V} {H H' : Hp} {Q : VK} (k : Ret v H Q) (s : L2.Same H H') : Ret v H' Q := fun H2 s2 => k H2 (s.trans s2)
end W2
namespace W2
open PySem PySem.Spec PyProof.Rows L2
theorem sget {H H' : Hp} (s : L2.Same H H') {a : Addr} {o : HO} (e : H a = some o) : H' a = some o := s a o e
theorem ugetF {H : Hp} {p a : Addr} {o u : HO} (n : H p = none) (e : H a = some o) : (L2.upd H p u) a = some o := by
  rw [upd_ne (ne_of_none e n)]
  exact e
theorem ugetN {H : Hp} {p a : Addr} {o u : HO} (n : a ≠ p) (e : H a = some o) : (L2.upd H p u) a = some o := by
  rw [upd_ne n]
  exact e
theorem bget {h : Addr} {H H' : Hp} (s : Bt h H H') {a : Addr} {o : HO} (n : a ≠ h) (e : H a = some o) : H' a = some o := s a o n e
/-- what a comprehension leaves -/
def fm (n : Nat) (f : Nat → Option V) : List V := (List.range n).filterMap f
theorem fm_succ (n : Nat) (f : Nat → Option V) : fm (n + 1) f = fm n f ++ (f n).toList := by
  unfold fm
  rw [List.range_succ, List.filterMap_append]
  congr 1
theorem fm_len (n : Nat) (f : Nat → Option V) : (fm n f).length ≤ n := by
  unfold fm
  have := List.length_filterMap_le f (List.range n)
  rw [List.length_range] at this
  exact this
theorem fm_map (n : Nat) (f : Nat → V) : fm n (fun i => some (f i)) = (List.range n).map f := by
  unfold fm
  exact List.filterMap_eq_map' ▸ rfl
theorem fm_congr {n : Nat} {f g : Nat → Option V} (h : ∀ i, i < n → f i = g i) : fm n f = fm n g := by
  induction n with
  | zero => rfl
  | succ n ih => rw [fm_succ, fm_succ, ih (fun i hi => h i (by omega)), h n (by omega)]
theorem fm_all {n : Nat} {f : Nat → Option V} {ys : List V} (hl : ys.length = n) (h : ∀ i, i < n → f i = ys[i]?) : fm n f = ys := by
  subst hl
  rw [fm_congr h]
  have go : ∀ k, k ≤ ys.length → fm k (fun i => ys[i]?) = ys.take k := by
    intro k
    induction k with
    | zero => intro _; rfl
    | succ k ih =>
      intro hk
      rw [fm_succ, ih (by omega), List.take_add_one]
  rw [go _ (Nat.le_refl _), List.take_length]
theorem fm_filter {α : Type} {n : Nat} {f : Nat → Option V} {l : List α} (hl : l.length = n) (g : α → V) (t : α → Bool) (h : ∀ i x, l[i]? = some x → f i = if t x = true then some (g x) else none) : fm n f = (l.filter t).map g := by
  subst hl
  have go : ∀ k, k ≤ l.length → fm k f = ((l.take k).filter t).map g := by
    intro k
    induction k with
    | zero => intro _; rfl
    | succ k ih =>
      intro hk
      have e : l[k]? = some l[k] := List.getElem?_eq_getElem (by omega)
      rw [fm_succ, ih (by omega), List.take_add_one, e, List.filter_append, List.map_append, h k _ e]
      congr 1
      by_cases q : t l[k] = true
      · rw [if_pos q]; simp [q]
      · rw [if_neg q]; simp [q]
  rw [go _ (Nat.le_refl _), List.take_length]
section
variable {K : PySem.W.Frag} {g : TG} {tt : TT} {te : TE} {vs : List Nat} {σ : L2.St} {H : Hp} {Q : Addr → Hp → Prop}
/-- one element of a comprehension: it adds f i, what stood stays -/
def ElS (g : TG) (tt : TT) (te : TE) (vs : List Nat) (σ : L2.St) (f : Nat → Option V) (i : Nat) (x : V) (H' : Hp) : Prop :=
  ∀ (Y : VK) (N : Hp → Prop), (∀ y H4, f i = some y → L2.Same H' H4 → Y y H4) → (∀ H4, f i = none → L2.Same H' H4 → N H4) →
    g x (wipe σ vs) H' fun σ2 H2 => wipe σ2 vs = wipe σ vs ∧ tt σ2 H2 fun b H3 => if b = true then te σ2 H3 Y else N H3
theorem els_go {f : Nat → Option V} {i : Nat} {x : V} {H H' : Hp} {D : Addr} {n : Nat} (st : ElS g tt te vs σ f i x H') (hi : i < n) (hn : n < 100000) (hD : H D = none) (sm : L2.Same H H') (hd : H' D = some (.lst (fm i f))) :
    g x (wipe σ vs) H' fun σ2 H2 => wipe σ2 vs = wipe σ vs ∧ tt σ2 H2 fun b H3 =>
      if b = true then te σ2 H3 fun y H4 => ∃ acc, H4 D = some (.lst acc) ∧ acc.length < sizeLine ∧ (fun H5 => L2.Same H H5 ∧ H5 D = some (.lst (fm (i + 1) f))) (L2.upd H4 D (.lst (acc ++ [y]))) else (fun H5 => L2.Same H H5 ∧ H5 D = some (.lst (fm (i + 1) f))) H3 := by
  refine st _ _ (fun y H4 e s4 => ⟨_, s4 _ _ hd, smalls (Nat.lt_of_le_of_lt (fm_len i f) (by omega)), Same.upd (sm.trans s4) hD, ?_⟩) (fun H4 e s4 => ⟨sm.trans s4, ?_⟩)
  · rw [upd_same, fm_succ, e]
    rfl
  · rw [s4 _ _ hd, fm_succ, e, Option.toList_none, List.append_nil]
theorem lcT {a : Addr} {xs : List V} (f : Nat → Option V) (hA : H a = some (.tup xs)) (hz : xs.length < 100000)
    (st : ∀ i x H', xs[i]? = some x → L2.Same H H' → ElS g tt te vs σ f i x H')
    (k : ∀ D H', L2.Same H H' → H D = none → H' D = some (.lst (fm xs.length f)) → Q D H') :
    ∀ D, H D = none → ∃ W : Nat → Nat → Hp → Prop, (∃ m, W 0 m (upd H D (.lst []))) ∧ ∀ i m H, W i m H →
      ((Itt K a).stop i H ∧ Q D H) ∨ ((Itt K a).go i H ∧ ∃ Nx : Hp → Prop, (∀ H', Nx H' → ∃ m', m' < m ∧ W (i + 1) m' H') ∧ ∀ x H', (Itt K a).yld i H x H' → g x (wipe σ vs) H' fun σ2 H2 => wipe σ2 vs = wipe σ vs ∧ tt σ2 H2 fun b H3 =>
        if b = true then te σ2 H3 fun y H4 => ∃ acc, H4 D = some (.lst acc) ∧ acc.length < sizeLine ∧ Nx (upd H4 D (.lst (acc ++ [y]))) else Nx H3) := by
  intro D hD
  refine lc_tup (xs := xs) (fun i H' => L2.Same H H' ∧ H' D = some (.lst (fm i f))) ⟨same_upd hD, by rw [upd_same]; rfl⟩ (fun i H' _ p => SqT.of (p.1 _ _ hA)) ?_ ?_
  · rintro i x H' hx ⟨sm, hd⟩
    exact els_go (st i x H' hx sm) (List.getElem?_eq_some_iff.mp hx).1 hz hD sm hd
  · rintro H1 ⟨s1, hd1⟩
    exact k D H1 s1 hD hd1
theorem lcL {a : Addr} {xs : List V} (f : Nat → Option V) (hA : H a = some (.lst xs)) (hz : xs.length < 100000)
    (st : ∀ i x H', xs[i]? = some x → L2.Same H H' → ElS g tt te vs σ f i x H')
    (k : ∀ D H', L2.Same H H' → H D = none → H' D = some (.lst (fm xs.length f)) → Q D H') :
    ∀ D, H D = none → ∃ W : Nat → Nat → Hp → Prop, (∃ m, W 0 m (upd H D (.lst []))) ∧ ∀ i m H, W i m H →
      ((Itl K a).stop i H ∧ Q D H) ∨ ((Itl K a).go i H ∧ ∃ Nx : Hp → Prop, (∀ H', Nx H' → ∃ m', m' < m ∧ W (i + 1) m' H') ∧ ∀ x H', (Itl K a).yld i H x H' → g x (wipe σ vs) H' fun σ2 H2 => wipe σ2 vs = wipe σ vs ∧ tt σ2 H2 fun b H3 =>
        if b = true then te σ2 H3 fun y H4 => ∃ acc, H4 D = some (.lst acc) ∧ acc.length < sizeLine ∧ Nx (upd H4 D (.lst (acc ++ [y]))) else Nx H3) := by
  intro D hD
  refine lc_list (xs := xs) (fun i H' => L2.Same H H' ∧ H' D = some (.lst (fm i f))) ⟨same_upd hD, by rw [upd_same]; rfl⟩ (fun i H' _ p => SqL.of (p.1 _ _ hA)) ?_ ?_
  · rintro i x H' hx ⟨sm, hd⟩
    exact els_go (st i x H' hx sm) (List.getElem?_eq_some_iff.mp hx).1 hz hD sm hd
  · rintro H1 ⟨s1, hd1⟩
    exact k D H1 s1 hD hd1
theorem lcR {lo : Int} {n : Nat} (f : Nat → Option V) (hz : n < 100000)
    (st : ∀ i H', i < n → L2.Same H H' → ElS g tt te vs σ f i (.int (lo + (i : Int))) H')
    (k : ∀ D H', L2.Same H H' → H D = none → H' D = some (.lst (fm n f)) → Q D H') :
    ∀ D, H D = none → ∃ W : Nat → Nat → Hp → Prop, (∃ m, W 0 m (upd H D (.lst []))) ∧ ∀ i m H, W i m H →
      ((Itr lo n).stop i H ∧ Q D H) ∨ ((Itr lo n).go i H ∧ ∃ Nx : Hp → Prop, (∀ H', Nx H' → ∃ m', m' < m ∧ W (i + 1) m' H') ∧ ∀ x H', (Itr lo n).yld i H x H' → g x (wipe σ vs) H' fun σ2 H2 => wipe σ2 vs = wipe σ vs ∧ tt σ2 H2 fun b H3 =>
        if b = true then te σ2 H3 fun y H4 => ∃ acc, H4 D = some (.lst acc) ∧ acc.length < sizeLine ∧ Nx (upd H4 D (.lst (acc ++ [y]))) else Nx H3) := by
  intro D hD
  refine lc_range (lo := lo) (n := n) (fun i H' => L2.Same H H' ∧ H' D = some (.lst (fm i f))) ⟨same_upd hD, by rw [upd_same]; rfl⟩ ?_ ?_
  · rintro i H' hx ⟨sm, hd⟩
    exact els_go (st i H' hx sm) hx hz hD sm hd
  · rintro H1 ⟨s1, hd1⟩
    exact k D H1 s1 hD hd1
/-- over a range, each element a draw of the hand: a pure value of which P holds -/
theorem lcRH {h l : Addr} {lo : Int} {n : Nat} (P : V → Prop) (hh : Hand H h l) (hz : n < 100000)
    (st : ∀ i H' (Y : VK) (N : Hp → Prop), i < n → Bt h H H' → Hand H' h l → (∀ y H4, P y → Bt h H' H4 → Hand H4 h l → Y y H4) →
      g (.int (lo + (i : Int))) (wipe σ vs) H' fun σ2 H2 => wipe σ2 vs = wipe σ vs ∧ tt σ2 H2 fun b H3 => if b = true then te σ2 H3 Y else N H3)
    (k : ∀ D H' ys, Bt h H H' → Hand H' h l → H D = none → H' D = some (.lst ys) → ys.length = n → (∀ y ∈ ys, P y) → Q D H') :
    ∀ D, H D = none → ∃ W : Nat → Nat → Hp → Prop, (∃ m, W 0 m (upd H D (.lst []))) ∧ ∀ i m H, W i m H →
      ((Itr lo n).stop i H ∧ Q D H) ∨ ((Itr lo n).go i H ∧ ∃ Nx : Hp → Prop, (∀ H', Nx H' → ∃ m', m' < m ∧ W (i + 1) m' H') ∧ ∀ x H', (Itr lo n).yld i H x H' → g x (wipe σ vs) H' fun σ2 H2 => wipe σ2 vs = wipe σ vs ∧ tt σ2 H2 fun b H3 =>
        if b = true then te σ2 H3 fun y H4 => ∃ acc, H4 D = some (.lst acc) ∧ acc.length < sizeLine ∧ Nx (upd H4 D (.lst (acc ++ [y]))) else Nx H3) := by
  intro D hD
  have nDh : D ≠ h := hh.nn hD
  refine lc_range (lo := lo) (n := n) (fun i H' => Bt h H H' ∧ Hand H' h l ∧ ∃ ys, H' D = some (.lst ys) ∧ ys.length = i ∧ ∀ y ∈ ys, P y) ⟨Bt.of (same_upd hD), hh.upd hD, [], upd_same, rfl, fun y hy => nomatch hy⟩ ?_ ?_
  · rintro i H' hi ⟨bt, hh', ys, hd, hl, hp⟩
    refine st i H' _ _ hi bt hh' fun y H4 py b4 hh4 => ⟨ys, b4 _ _ nDh hd, smalls (by omega), ?_, ?_, ys ++ [y], upd_same, by rw [List.length_append, hl]; rfl, fun z hz => ?_⟩
    · intro c o n e
      have := ne_of_none e hD
      rw [upd_ne this]
      exact (bt.trans b4) _ _ n e
    · obtain ⟨ms, i0, b0, s0, c0, Z⟩ := hh4
      obtain ⟨ms', _, _, _, _, Z'⟩ := hh
      have nl : l ≠ D := ne_of_none Z'.n hD
      exact ⟨ms, i0, b0, s0, c0, by rw [upd_ne nDh.symm]; exact Z.o, by rw [upd_ne nl]; exact Z.n, Z.i0, Z.b0, Z.s0, Z.s1⟩
    · rcases List.mem_append.mp hz with q | q
      · exact hp z q
      · rw [List.mem_singleton.mp q]
        exact py
  · rintro H1 ⟨b1, hh1, ys, hd, hl, hp⟩
    exact k D H1 ys b1 hh1 hD hd hl hp
end
end W2
namespace W2
open PySem PySem.Spec PyProof.Rows L2
section
variable {K : PySem.W.Frag} {g : TG} {tt : TT} {te : TE} {vs : List Nat} {σ : L2.St} {H : Hp} {Q : Addr → Hp → Prop}
/-- a comprehension over any walk of n items that change nothing -/
theorem lcJ {J : It} {n : Nat} (f : Nat → Option V) (R : Nat → V → Hp → Prop) (hz : n < 100000)
    (hgo : ∀ i H', i < n → L2.Same H H' → J.go i H') (hstop : ∀ H', L2.Same H H' → J.stop n H')
    (hy : ∀ i H' x H'', i < n → L2.Same H H' → J.yld i H' x H'' → L2.Same H' H'' ∧ R i x H'')
    (st : ∀ i x H', i < n → L2.Same H H' → R i x H' → ElS g tt te vs σ f i x H')
    (k : ∀ D H', L2.Same H H' → H D = none → H' D = some (.lst (fm n f)) → Q D H') :
    ∀ D, H D = none → ∃ W : Nat → Nat → Hp → Prop, (∃ m, W 0 m (upd H D (.lst []))) ∧ ∀ i m H, W i m H →
      (J.stop i H ∧ Q D H) ∨ (J.go i H ∧ ∃ Nx : Hp → Prop, (∀ H', Nx H' → ∃ m', m' < m ∧ W (i + 1) m' H') ∧ ∀ x H', J.yld i H x H' → g x (wipe σ vs) H' fun σ2 H2 => wipe σ2 vs = wipe σ vs ∧ tt σ2 H2 fun b H3 =>
        if b = true then te σ2 H3 fun y H4 => ∃ acc, H4 D = some (.lst acc) ∧ acc.length < sizeLine ∧ Nx (upd H4 D (.lst (acc ++ [y]))) else Nx H3) := by
  intro D hD
  refine ⟨fun i m H' => m = n - i ∧ i ≤ n ∧ L2.Same H H' ∧ H' D = some (.lst (fm i f)), ⟨n, rfl, Nat.zero_le _, same_upd hD, by rw [upd_same]; rfl⟩, ?_⟩
  rintro i m H' ⟨rfl, hi, sm, hd⟩
  by_cases hlt : i < n
  · refine .inr ⟨hgo i H' hlt sm, fun H5 => L2.Same H H5 ∧ H5 D = some (.lst (fm (i + 1) f)), fun H5 p => ⟨n - (i + 1), by omega, rfl, by omega, p⟩, fun x H'' y => ?_⟩
    obtain ⟨s2, r⟩ := hy i H' x H'' hlt sm y
    exact els_go (st i x H'' hlt (sm.trans s2) r) hlt hz hD (sm.trans s2) (s2 _ _ hd)
  · have e : i = n := by omega
    subst e
    exact .inl ⟨hstop H' sm, k D H' sm hD hd⟩
/-- over zip of two tuples, of two lists -/
theorem lcZT {a b : Addr} {xs ys : List V} (f : Nat → Option V) (hA : H a = some (.tup xs)) (hB : H b = some (.tup ys)) (hl : xs.length = ys.length) (hz : xs.length < 100000)
    (st : ∀ i t x y H', xs[i]? = some x → ys[i]? = some y → L2.Same H H' → H' t = some (.tup [x, y]) → ElS g tt te vs σ f i (.ref t) H')
    (k : ∀ D H', L2.Same H H' → H D = none → H' D = some (.lst (fm xs.length f)) → Q D H') :
    ∀ D, H D = none → ∃ W : Nat → Nat → Hp → Prop, (∃ m, W 0 m (upd H D (.lst []))) ∧ ∀ i m H, W i m H →
      ((RZ.ItzT K a b).stop i H ∧ Q D H) ∨ ((RZ.ItzT K a b).go i H ∧ ∃ Nx : Hp → Prop, (∀ H', Nx H' → ∃ m', m' < m ∧ W (i + 1) m' H') ∧ ∀ x H', (RZ.ItzT K a b).yld i H x H' → g x (wipe σ vs) H' fun σ2 H2 => wipe σ2 vs = wipe σ vs ∧ tt σ2 H2 fun b H3 =>
        if b = true then te σ2 H3 fun y H4 => ∃ acc, H4 D = some (.lst acc) ∧ acc.length < sizeLine ∧ Nx (upd H4 D (.lst (acc ++ [y]))) else Nx H3) := by
  refine lcJ f (fun i v H' => ∃ t x y, v = .ref t ∧ xs[i]? = some x ∧ ys[i]? = some y ∧ H' t = some (.tup [x, y])) hz ?_ ?_ ?_ ?_ k
  · intro i H' hi s
    exact ⟨xs, ys, _, _, SqT.of (s _ _ hA), SqT.of (s _ _ hB), List.getElem?_eq_getElem hi, List.getElem?_eq_getElem (by omega)⟩
  · intro H' s
    exact ⟨xs, ys, SqT.of (s _ _ hA), SqT.of (s _ _ hB), .inl (Nat.le_refl _)⟩
  · rintro i H' x H'' hi s ⟨t, x', y', rfl, ht, rfl, e1, e2⟩
    exact ⟨same_upd ht, t, x', y', rfl, e1 _ (SqT.of (s _ _ hA)), e2 _ (SqT.of (s _ _ hB)), upd_same⟩
  · rintro i v H' hi s ⟨t, x', y', rfl, e1, e2, e3⟩
    exact st i t x' y' H' e1 e2 s e3
theorem lcZL {a b : Addr} {xs ys : List V} (f : Nat → Option V) (hA : H a = some (.lst xs)) (hB : H b = some (.lst ys)) (hl : xs.length = ys.length) (hz : xs.length < 100000)
    (st : ∀ i t x y H', xs[i]? = some x → ys[i]? = some y → L2.Same H H' → H' t = some (.tup [x, y]) → ElS g tt te vs σ f i (.ref t) H')
    (k : ∀ D H', L2.Same H H' → H D = none → H' D = some (.lst (fm xs.length f)) → Q D H') :
    ∀ D, H D = none → ∃ W : Nat → Nat → Hp → Prop, (∃ m, W 0 m (upd H D (.lst []))) ∧ ∀ i m H, W i m H →
      ((Itz K a b).stop i H ∧ Q D H) ∨ ((Itz K a b).go i H ∧ ∃ Nx : Hp → Prop, (∀ H', Nx H' → ∃ m', m' < m ∧ W (i + 1) m' H') ∧ ∀ x H', (Itz K a b).yld i H x H' → g x (wipe σ vs) H' fun σ2 H2 => wipe σ2 vs = wipe σ vs ∧ tt σ2 H2 fun b H3 =>
        if b = true then te σ2 H3 fun y H4 => ∃ acc, H4 D = some (.lst acc) ∧ acc.length < sizeLine ∧ Nx (upd H4 D (.lst (acc ++ [y]))) else Nx H3) := by
  refine lcJ f (fun i v H' => ∃ t x y, v = .ref t ∧ xs[i]? = some x ∧ ys[i]? = some y ∧ H' t = some (.tup [x, y])) hz ?_ ?_ ?_ ?_ k
  · intro i H' hi s
    exact ⟨xs, ys, _, _, SqL.of (s _ _ hA), SqL.of (s _ _ hB), List.getElem?_eq_getElem hi, List.getElem?_eq_getElem (by omega)⟩
  · intro H' s
    exact ⟨xs, ys, SqL.of (s _ _ hA), SqL.of (s _ _ hB), .inl (Nat.le_refl _)⟩
  · rintro i H' x H'' hi s ⟨t, x', y', rfl, ht, rfl, e1, e2⟩
    exact ⟨same_upd ht, t, x', y', rfl, e1 _ (SqL.of (s _ _ hA)), e2 _ (SqL.of (s _ _ hB)), upd_same⟩
  · rintro i v H' hi s ⟨t, x', y', rfl, e1, e2, e3⟩
    exact st i t x' y' H' e1 e2 s e3
/-- over enumerate of a tuple, of a list -/
theorem lcET {a : Addr} {xs : List V} (f : Nat → Option V) (hA : H a = some (.tup xs)) (hz : xs.length < 100000)
    (st : ∀ (i : Nat) t x H', xs[i]? = some x → L2.Same H H' → H' t = some (.tup [.int (i : Int), x]) → ElS g tt te vs σ f i (.ref t) H')
    (k : ∀ D H', L2.Same H H' → H D = none → H' D = some (.lst (fm xs.length f)) → Q D H') :
    ∀ D, H D = none → ∃ W : Nat → Nat → Hp → Prop, (∃ m, W 0 m (upd H D (.lst []))) ∧ ∀ i m H, W i m H →
      ((IteT K a).stop i H ∧ Q D H) ∨ ((IteT K a).go i H ∧ ∃ Nx : Hp → Prop, (∀ H', Nx H' → ∃ m', m' < m ∧ W (i + 1) m' H') ∧ ∀ x H', (IteT K a).yld i H x H' → g x (wipe σ vs) H' fun σ2 H2 => wipe σ2 vs = wipe σ vs ∧ tt σ2 H2 fun b H3 =>
        if b = true then te σ2 H3 fun y H4 => ∃ acc, H4 D = some (.lst acc) ∧ acc.length < sizeLine ∧ Nx (upd H4 D (.lst (acc ++ [y]))) else Nx H3) := by
  refine lcJ f (fun i v H' => ∃ t x, v = .ref t ∧ xs[i]? = some x ∧ H' t = some (.tup [.int (i : Int), x])) hz ?_ ?_ ?_ ?_ k
  · intro i H' hi s
    exact ⟨xs, _, SqT.of (s _ _ hA), List.getElem?_eq_getElem hi⟩
  · intro H' s
    exact ⟨xs, SqT.of (s _ _ hA), Nat.le_refl _⟩
  · rintro i H' x H'' hi s ⟨t, x', rfl, ht, rfl, e1⟩
    exact ⟨same_upd ht, t, x', rfl, e1 _ (SqT.of (s _ _ hA)), upd_same⟩
  · rintro i v H' hi s ⟨t, x', rfl, e1, e3⟩
    exact st i t x' H' e1 s e3
theorem lcEL {a : Addr} {xs : List V} (f : Nat → Option V) (hA : H a = some (.lst xs)) (hz : xs.length < 100000)
    (st : ∀ (i : Nat) t x H', xs[i]? = some x → L2.Same H H' → H' t = some (.tup [.int (i : Int), x]) → ElS g tt te vs σ f i (.ref t) H')
    (k : ∀ D H', L2.Same H H' → H D = none → H' D = some (.lst (fm xs.length f)) → Q D H') :
    ∀ D, H D = none → ∃ W : Nat → Nat → Hp → Prop, (∃ m, W 0 m (upd H D (.lst []))) ∧ ∀ i m H, W i m H →
      ((Ite K a).stop i H ∧ Q D H) ∨ ((Ite K a).go i H ∧ ∃ Nx : Hp → Prop, (∀ H', Nx H' → ∃ m', m' < m ∧ W (i + 1) m' H') ∧ ∀ x H', (Ite K a).yld i H x H' → g x (wipe σ vs) H' fun σ2 H2 => wipe σ2 vs = wipe σ vs ∧ tt σ2 H2 fun b H3 =>
        if b = true then te σ2 H3 fun y H4 => ∃ acc, H4 D = some (.lst acc) ∧ acc.length < sizeLine ∧ Nx (upd H4 D (.lst (acc ++ [y]))) else Nx H3) := by
  refine lcJ f (fun i v H' => ∃ t x, v = .ref t ∧ xs[i]? = some x ∧ H' t = some (.tup [.int (i : Int), x])) hz ?_ ?_ ?_ ?_ k
  · intro i H' hi s
    exact ⟨xs, _, SqL.of (s _ _ hA), List.getElem?_eq_getElem hi⟩
  · intro H' s
    exact ⟨xs, SqL.of (s _ _ hA), Nat.le_refl _⟩
  · rintro i H' x H'' hi s ⟨t, x', rfl, ht, rfl, e1⟩
    exact ⟨same_upd ht, t, x', rfl, e1 _ (SqL.of (s _ _ hA)), upd_same⟩
  · rintro i v H' hi s ⟨t, x', rfl, e1, e3⟩
    exact st i t x' H' e1 s e3
end
section
variable {K : PySem.W.Frag} {g : TG} {tt : TT} {te : TE} {vs : List Nat} {σ : L2.St} {H : Hp} {Q : Addr → Hp → Prop}
/-- a comprehension each element of which is a new object o i -/
theorem lcJO {J : It} {n : Nat} (o : Nat → HO) (R : Nat → V → Hp → Prop) (hz : n < 100000)
    (hgo : ∀ i H', i < n → L2.Same H H' → J.go i H') (hstop : ∀ H', L2.Same H H' → J.stop n H')
    (hy : ∀ i H' x H'', i < n → L2.Same H H' → J.yld i H' x H'' → L2.Same H' H'' ∧ R i x H'')
    (st : ∀ i x H' (Y : VK) (N : Hp → Prop), i < n → L2.Same H H' → R i x H' → (∀ b H4, H' b = none → L2.Same H' H4 → H4 b = some (o i) → Y (.ref b) H4) →
      g x (wipe σ vs) H' fun σ2 H2 => wipe σ2 vs = wipe σ vs ∧ tt σ2 H2 fun b H3 => if b = true then te σ2 H3 Y else N H3)
    (k : ∀ D H' (bs : List Addr), L2.Same H H' → H D = none → H' D = some (.lst (bs.map V.ref)) → bs.length = n → (∀ (i : Nat) b, bs[i]? = some b → H b = none ∧ H' b = some (o i)) → Q D H') :
    ∀ D, H D = none → ∃ W : Nat → Nat → Hp → Prop, (∃ m, W 0 m (upd H D (.lst []))) ∧ ∀ i m H, W i m H →
      (J.stop i H ∧ Q D H) ∨ (J.go i H ∧ ∃ Nx : Hp → Prop, (∀ H', Nx H' → ∃ m', m' < m ∧ W (i + 1) m' H') ∧ ∀ x H', J.yld i H x H' → g x (wipe σ vs) H' fun σ2 H2 => wipe σ2 vs = wipe σ vs ∧ tt σ2 H2 fun b H3 =>
        if b = true then te σ2 H3 fun y H4 => ∃ acc, H4 D = some (.lst acc) ∧ acc.length < sizeLine ∧ Nx (upd H4 D (.lst (acc ++ [y]))) else Nx H3) := by
  intro D hD
  refine ⟨fun i m H' => m = n - i ∧ i ≤ n ∧ L2.Same H H' ∧ ∃ bs : List Addr, H' D = some (.lst (bs.map V.ref)) ∧ bs.length = i ∧ ∀ (j : Nat) b, bs[j]? = some b → b ≠ D ∧ H b = none ∧ H' b = some (o j), ⟨n, rfl, Nat.zero_le _, same_upd hD, [], by rw [upd_same]; rfl, rfl, fun j b e => nomatch e⟩, ?_⟩
  rintro i m H' ⟨rfl, hi, sm, bs, hd, hl, hb⟩
  by_cases hlt : i < n
  · refine .inr ⟨hgo i H' hlt sm, fun H5 => L2.Same H H5 ∧ ∃ bs : List Addr, H5 D = some (.lst (bs.map V.ref)) ∧ bs.length = i + 1 ∧ ∀ (j : Nat) b, bs[j]? = some b → b ≠ D ∧ H b = none ∧ H5 b = some (o j), fun H5 p => ⟨n - (i + 1), by omega, rfl, by omega, p⟩, fun x H'' y => ?_⟩
    obtain ⟨s2, r⟩ := hy i H' x H'' hlt sm y
    refine st i x H'' _ _ hlt (sm.trans s2) r fun b H4 nb s4 eb => ⟨bs.map V.ref, s4 _ _ (s2 _ _ hd), by rw [List.length_map]; exact smalls (by omega), Same.upd ((sm.trans s2).trans s4) hD, bs ++ [b], by rw [upd_same, List.map_append]; rfl, by rw [List.length_append, hl]; rfl, fun j c e => ?_⟩
    rcases Nat.lt_or_ge j bs.length with q | q
    · rw [List.getElem?_append_left q] at e
      obtain ⟨e1, e2, e3⟩ := hb j c e
      exact ⟨e1, e2, by rw [upd_ne e1]; exact s4 _ _ (s2 _ _ e3)⟩
    · rw [List.getElem?_append_right q] at e
      have ej : j = bs.length := by
        have := (List.getElem?_eq_some_iff.mp e).1
        simp at this
        omega
      subst ej
      have ec : b = c := by simpa using e
      subst ec
      have nbD : b ≠ D := (ne_of_none (s2 _ _ hd) nb).symm
      refine ⟨nbD, (sm.trans s2).free nb, ?_⟩
      rw [upd_ne nbD, hl]
      exact eb
  · have e : i = n := by omega
    subst e
    exact .inl ⟨hstop H' sm, k D H' bs sm hD hd hl fun j b e => (hb j b e).2⟩
theorem lcOT {a : Addr} {xs : List V} (o : Nat → HO) (hA : H a = some (.tup xs)) (hz : xs.length < 100000)
    (st : ∀ i x H' (Y : VK) (N : Hp → Prop), xs[i]? = some x → L2.Same H H' → (∀ b H4, H' b = none → L2.Same H' H4 → H4 b = some (o i) → Y (.ref b) H4) →
      g x (wipe σ vs) H' fun σ2 H2 => wipe σ2 vs = wipe σ vs ∧ tt σ2 H2 fun b H3 => if b = true then te σ2 H3 Y else N H3)
    (k : ∀ D H' (bs : List Addr), L2.Same H H' → H D = none → H' D = some (.lst (bs.map V.ref)) → bs.length = xs.length → (∀ (i : Nat) b, bs[i]? = some b → H b = none ∧ H' b = some (o i)) → Q D H') :
    ∀ D, H D = none → ∃ W : Nat → Nat → Hp → Prop, (∃ m, W 0 m (upd H D (.lst []))) ∧ ∀ i m H, W i m H →
      ((Itt K a).stop i H ∧ Q D H) ∨ ((Itt K a).go i H ∧ ∃ Nx : Hp → Prop, (∀ H', Nx H' → ∃ m', m' < m ∧ W (i + 1) m' H') ∧ ∀ x H', (Itt K a).yld i H x H' → g x (wipe σ vs) H' fun σ2 H2 => wipe σ2 vs = wipe σ vs ∧ tt σ2 H2 fun b H3 =>
        if b = true then te σ2 H3 fun y H4 => ∃ acc, H4 D = some (.lst acc) ∧ acc.length < sizeLine ∧ Nx (upd H4 D (.lst (acc ++ [y]))) else Nx H3) := by
  refine lcJO o (fun i x H' => xs[i]? = some x) hz (fun i H' hi s => ⟨xs, _, SqT.of (s _ _ hA), List.getElem?_eq_getElem hi⟩) (fun H' s => ⟨xs, SqT.of (s _ _ hA), Nat.le_refl _⟩) ?_ (fun i x H' Y N _ s r q => st i x H' Y N r s q) k
  rintro i H' x H'' hi s ⟨e1, e2⟩
  subst e1
  exact ⟨L2.Same.refl _, e2 _ (SqT.of (s _ _ hA))⟩
theorem lcOL {a : Addr} {xs : List V} (o : Nat → HO) (hA : H a = some (.lst xs)) (hz : xs.length < 100000)
    (st : ∀ i x H' (Y : VK) (N : Hp → Prop), xs[i]? = some x → L2.Same H H' → (∀ b H4, H' b = none → L2.Same H' H4 → H4 b = some (o i) → Y (.ref b) H4) →
      g x (wipe σ vs) H' fun σ2 H2 => wipe σ2 vs = wipe σ vs ∧ tt σ2 H2 fun b H3 => if b = true then te σ2 H3 Y else N H3)
    (k : ∀ D H' (bs : List Addr), L2.Same H H' → H D = none → H' D = some (.lst (bs.map V.ref)) → bs.length = xs.length → (∀ (i : Nat) b, bs[i]? = some b → H b = none ∧ H' b = some (o i)) → Q D H') :
    ∀ D, H D = none → ∃ W : Nat → Nat → Hp → Prop, (∃ m, W 0 m (upd H D (.lst []))) ∧ ∀ i m H, W i m H →
      ((Itl K a).stop i H ∧ Q D H) ∨ ((Itl K a).go i H ∧ ∃ Nx : Hp → Prop, (∀ H', Nx H' → ∃ m', m' < m ∧ W (i + 1) m' H') ∧ ∀ x H', (Itl K a).yld i H x H' → g x (wipe σ vs) H' fun σ2 H2 => wipe σ2 vs = wipe σ vs ∧ tt σ2 H2 fun b H3 =>
        if b = true then te σ2 H3 fun y H4 => ∃ acc, H4 D = some (.lst acc) ∧ acc.length < sizeLine ∧ Nx (upd H4 D (.lst (acc ++ [y]))) else Nx H3) := by
  refine lcJO o (fun i x H' => xs[i]? = some x) hz (fun i H' hi s => ⟨xs, _, SqL.of (s _ _ hA), List.getElem?_eq_getElem hi⟩) (fun H' s => ⟨xs, SqL.of (s _ _ hA), Nat.le_refl _⟩) ?_ (fun i x H' Y N _ s r q => st i x H' Y N r s q) k
  rintro i H' x H'' hi s ⟨e1, e2⟩
  subst e1
  exact ⟨L2.Same.refl _, e2 _ (SqL.of (s _ _ hA))⟩
theorem lcOR {lo : Int} {n : Nat} (o : Nat → HO) (hz : n < 100000)
    (st : ∀ i H' (Y : VK) (N : Hp → Prop), i < n → L2.Same H H' → (∀ b H4, H' b = none → L2.Same H' H4 → H4 b = some (o i) → Y (.ref b) H4) →
      g (.int (lo + (i : Int))) (wipe σ vs) H' fun σ2 H2 => wipe σ2 vs = wipe σ vs ∧ tt σ2 H2 fun b H3 => if b = true then te σ2 H3 Y else N H3)
    (k : ∀ D H' (bs : List Addr), L2.Same H H' → H D = none → H' D = some (.lst (bs.map V.ref)) → bs.length = n → (∀ (i : Nat) b, bs[i]? = some b → H b = none ∧ H' b = some (o i)) → Q D H') :
    ∀ D, H D = none → ∃ W : Nat → Nat → Hp → Prop, (∃ m, W 0 m (upd H D (.lst []))) ∧ ∀ i m H, W i m H →
      ((Itr lo n).stop i H ∧ Q D H) ∨ ((Itr lo n).go i H ∧ ∃ Nx : Hp → Prop, (∀ H', Nx H' → ∃ m', m' < m ∧ W (i + 1) m' H') ∧ ∀ x H', (Itr lo n).yld i H x H' → g x (wipe σ vs) H' fun σ2 H2 => wipe σ2 vs = wipe σ vs ∧ tt σ2 H2 fun b H3 =>
        if b = true then te σ2 H3 fun y H4 => ∃ acc, H4 D = some (.lst acc) ∧ acc.length < sizeLine ∧ Nx (upd H4 D (.lst (acc ++ [y]))) else Nx H3) := by
  refine lcJO o (fun i x H' => x = .int (lo + (i : Int))) hz (fun i H' hi s => hi) (fun H' s => Nat.le_refl _) ?_ (fun i x H' Y N hi s r q => by subst r; exact st i H' Y N hi s q) k
  rintro i H' x H'' hi s ⟨e1, e2⟩
  subst e1
  exact ⟨L2.Same.refl _, e2⟩
end
/-! isinstance of (tuple, list) -/
theorem any2 {K : PySem.W.Frag} {t a b : Value} {r s : Bool} (h1 : PySem.W.kitOne K t a = some r) (h2 : PySem.W.kitOne K t b = some s) : PySem.W.kitAny K t [a, b] = some (r || s) :=
  kitAny_cons h1 (fun e => by subst e; exact kitAny_cons h2 (fun e => by subst e; exact kitAny_nil) (fun e => by subst e; rfl)) (fun e => by subst e; rfl)
theorem isiTL {K : PySem.W.Frag} {H : Hp} {y : V} {t : Value} {r s : Bool} {Q : VK} {tp : Addr} (ht : H tp = none) (ty : ∀ H', L2.Same H H' → TyX K H' y t) (h1 : PySem.W.kitOne K t (.type "tuple") = some r) (h2 : PySem.W.kitOne K t (.type "list") = some s) (q : ∀ H', L2.Same H H' → Q (.bl (r || s)) H') :
    rIsiT K [y, .ref tp] (upd H tp (.tup [.ty "tuple", .ty "list"])) Q :=
  ⟨y, tp, _, t, _, _, rfl, upd_same, .cons (.ty _) (.cons (.ty _) .nil), ty _ (same_upd ht), any2 h1 h2, q _ (same_upd ht)⟩
end W2
namespace W2
open PySem PySem.Spec PyProof.Rows L2
/-! ### shapes -/
structure Part where
  up : Option Nat
  left : Option Nat
  right : Option Nat
  turned : Bool
  added : Int
  value : Int
deriving DecidableEq, Inhabited
abbrev Sh := List Part
def dPart (p : Part) : Dt := .tup [dOv p.up, dOv p.left, dOv p.right, .bl p.turned, .int p.added, .int p.value]
def dSh (s : Sh) : Dt := .tup (s.map dPart)
def vPart (p : Part) : List V := [ov p.up, ov p.left, ov p.right, .bl p.turned, .int p.added, .int p.value]
def InR (n : Nat) (o : Option Nat) : Prop := ∀ q, o = some q → q < n
def PIn (n : Nat) (p : Part) : Prop := InR n p.up ∧ InR n p.left ∧ InR n p.right
def SOk (s : Sh) (h : Nat) : Prop := ∃ p, s[h]? = some p ∧ (∀ q, p.left = some q → p.right ≠ some q) ∧ (∀ q, p.left = some q → ∃ pq, s[q]? = some pq ∧ pq.up = some h) ∧ (∀ q, p.right = some q → ∃ pq, s[q]? = some pq ∧ pq.up = some h)
structure ShOk (s : Sh) : Prop where
  n1 : 1 ≤ s.length
  n64 : s.length ≤ 64
  pin : ∀ p ∈ s, PIn s.length p
  sons : ∀ h, h < s.length → SOk s h
  tree : Tree (s.map (·.up))
def IsSh (d : Dt) : Prop := ∃ s, d = dSh s ∧ ShOk s
theorem repL_part {CS : List Addr} {H : Hp} {p : Part} {xs : List V} : RepL CS H [dOv p.up, dOv p.left, dOv p.right, .bl p.turned, .int p.added, .int p.value] xs ↔ xs = vPart p := by
  constructor
  · intro r
    obtain ⟨a, xs, rfl, ha, r⟩ := repL_cons.mp r
    obtain ⟨b, xs, rfl, hb, r⟩ := repL_cons.mp r
    obtain ⟨c, xs, rfl, hc, r⟩ := repL_cons.mp r
    obtain ⟨d, xs, rfl, hd, r⟩ := repL_cons.mp r
    obtain ⟨e, xs, rfl, he, r⟩ := repL_cons.mp r
    obtain ⟨f, xs, rfl, hf, r⟩ := repL_cons.mp r
    rw [repL_nil.mp r, rep_ov.mp ha, rep_ov.mp hb, rep_ov.mp hc, rep_bl.mp hd, rep_int.mp he, rep_int.mp hf]
    rfl
  · rintro rfl
    exact repL_cons.mpr ⟨_, _, rfl, rep_ov.mpr rfl, repL_cons.mpr ⟨_, _, rfl, rep_ov.mpr rfl, repL_cons.mpr ⟨_, _, rfl, rep_ov.mpr rfl, repL_cons.mpr ⟨_, _, rfl, rep_bl.mpr rfl, repL_cons.mpr ⟨_, _, rfl, rep_int.mpr rfl, repL_cons.mpr ⟨_, _, rfl, rep_int.mpr rfl, repL_nil.mpr rfl⟩⟩⟩⟩⟩⟩
theorem rep_part {CS : List Addr} {H : Hp} {p : Part} {x : V} : Rep CS H (dPart p) x ↔ ∃ a, x = .ref a ∧ H a = some (.tup (vPart p)) := by
  unfold dPart
  rw [rep_tup]
  constructor
  · rintro ⟨a, xs, rfl, e, r⟩
    rw [repL_part.mp r] at e
    exact ⟨a, rfl, e⟩
  · rintro ⟨a, rfl, e⟩
    exact ⟨a, _, rfl, e, repL_part.mpr rfl⟩
/-- the tuple at a is the shape s -/
def ShA (CS : List Addr) (H : Hp) (a : Addr) (s : Sh) : Prop := Rep CS H (dSh s) (.ref a)
theorem sha_at {CS : List Addr} {H : Hp} {a : Addr} {s : Sh} (r : ShA CS H a s) : ∃ xs, H a = some (.tup xs) ∧ xs.length = s.length ∧ ∀ (i : Nat) p, s[i]? = some p → ∃ b, xs[i]? = some (.ref b) ∧ H b = some (.tup (vPart p)) := by
  obtain ⟨a', xs, e, f, g⟩ := rep_tup.mp r
  cases e
  refine ⟨xs, f, by rw [g.len, List.length_map], fun i p hp => ?_⟩
  obtain ⟨x, hx, hr⟩ := g.at' (i := i) (d := dPart p) (by rw [List.getElem?_map, hp]; rfl)
  obtain ⟨b, rfl, hb⟩ := rep_part.mp hr
  exact ⟨b, hx, hb⟩
theorem sha_of {CS : List Addr} {H : Hp} {a : Addr} {s : Sh} {xs : List V} (f : H a = some (.tup xs)) (l : xs.length = s.length) (k : ∀ (i : Nat) p x, s[i]? = some p → xs[i]? = some x → ∃ b, x = .ref b ∧ H b = some (.tup (vPart p))) : ShA CS H a s := by
  refine repT f (repL_of (by rw [List.length_map]; exact l) fun i x d hx hd => ?_)
  rw [List.getElem?_map] at hd
  cases hp : s[i]? with
  | none => rw [hp] at hd; cases hd
  | some p =>
    rw [hp] at hd
    cases hd
    exact rep_part.mpr (k i p x hp hx)
theorem ShA.kin {CS : List Addr} {H H' : Hp} {a : Addr} {s : Sh} (r : ShA CS H a s) (k : Kin H H') : ShA CS H' a s := Rep.kin k r
theorem ShA.same {CS : List Addr} {H H' : Hp} {a : Addr} {s : Sh} (r : ShA CS H a s) (k : L2.Same H H') : ShA CS H' a s := Rep.same r k
theorem dPart_inj {p q : Part} (h : dPart p = dPart q) : p = q := by
  obtain ⟨a, b, c, d, e, f⟩ := p
  obtain ⟨a', b', c', d', e', f'⟩ := q
  simp only [dPart, Dt.tup.injEq, List.cons.injEq, Dt.bl.injEq, Dt.int.injEq, and_true] at h
  obtain ⟨h1, h2, h3, h4, h5, h6⟩ := h
  rw [dOv_inj h1, dOv_inj h2, dOv_inj h3, h4, h5, h6]
theorem maps_inj {α β : Type} {f : α → β} (hf : ∀ a b, f a = f b → a = b) : ∀ {l m : List α}, l.map f = m.map f → l = m
  | [], [], _ => rfl
  | [], _ :: _, h => by cases h
  | _ :: _, [], h => by cases h
  | a :: l, b :: m, h => by
    have h1 := (List.cons.inj h).1
    have h2 := (List.cons.inj h).2
    rw [hf a b h1, maps_inj hf h2]
theorem dSh_inj {s t : Sh} (h : dSh s = dSh t) : s = t := by
  have e := Dt.tup.inj h
  exact maps_inj (fun _ _ => dPart_inj) e
theorem up_in {s : Sh} (ok : ∀ p ∈ s, PIn s.length p) : Inr (s.map (·.up)) := fun k q e => by
  rw [List.getElem?_map] at e
  cases hp : s[k]? with
  | none => rw [hp] at e; cases e
  | some p =>
    rw [hp] at e
    rw [List.length_map]
    exact (ok p (List.mem_of_getElem? hp)).1 q (Option.some.inj e)
/-! promises -/
/-- come_to_roots of a tuple of None and houses -/
def spCome : Sp := fun vs H Q _ => ∃ (a : Addr) (ps : List (Option Nat)), vs = [.ref a] ∧ H a = some (.tup (ps.map ov)) ∧ Inr ps ∧ ps.length ≤ 64 ∧ (Tree ps → Ret (.bl true) H Q) ∧ (¬ Tree ps → Ret (.bl false) H Q)
def spIsShape (CS : List Addr) : Sp := fun vs H Q _ => ∃ (d : Dt) (x : V), vs = [x] ∧ Rep CS H d x ∧ Ret (.bl (dec (IsSh d))) H Q
def spIsPart (CS : List Addr) : Sp := fun vs H Q _ => ∃ (n : Nat) (d : Dt) (x : V), vs = [.int (n : Int), x] ∧ Rep CS H d x ∧ Ret (.bl (dec (∃ p, d = dPart p ∧ PIn n p))) H Q
def spHasSons (CS : List Addr) : Sp := fun vs H Q _ => ∃ (a : Addr) (s : Sh) (h : Nat), vs = [.ref a, .int (h : Int)] ∧ ShA CS H a s ∧ s.length ≤ 64 ∧ (∀ p ∈ s, PIn s.length p) ∧ h < s.length ∧ Ret (.bl (dec (SOk s h))) H Q
theorem parts_of {n : Nat} : ∀ {ds : List Dt}, (∀ d ∈ ds, ∃ p, d = dPart p ∧ PIn n p) → ∃ s : Sh, ds = s.map dPart ∧ ∀ p ∈ s, PIn n p
  | [], _ => ⟨[], rfl, fun p h => nomatch h⟩
  | d :: ds, k => by
    obtain ⟨p, e, q⟩ := k d List.mem_cons_self
    obtain ⟨s, e2, q2⟩ := parts_of (ds := ds) fun d hd => k d (List.mem_cons_of_mem _ hd)
    refine ⟨p :: s, by rw [e, e2]; rfl, fun p' hp => ?_⟩
    rcases List.mem_cons.mp hp with rfl | hp
    · exact q
    · exact q2 p' hp
theorem isSh_iff {s : Sh} : IsSh (dSh s) ↔ ShOk s := ⟨fun ⟨t, e, o⟩ => by rw [dSh_inj e]; exact o, fun o => ⟨s, rfl, o⟩⟩
def so (p : Part) : List Nat := p.left.toList ++ p.right.toList
def upIs (s : Sh) (h q : Nat) : Bool := decide ((s[q]?).bind (·.up) = some h)
theorem sok_iff {s : Sh} {h : Nat} {p : Part} (hp : s[h]? = some p) : SOk s h ↔ (∀ q, p.left = some q → p.right ≠ some q) ∧ ∀ q ∈ so p, upIs s h q = true := by
  have key : ∀ q, upIs s h q = true ↔ ∃ pq, s[q]? = some pq ∧ pq.up = some h := fun q => by
    unfold upIs
    rw [decide_eq_true_iff]
    cases e : s[q]? with
    | none => simp
    | some pq => simp
  constructor
  · rintro ⟨p', e, a, b, c⟩
    rw [hp] at e
    cases e
    refine ⟨a, fun q hq => (key q).mpr ?_⟩
    simp only [so, List.mem_append, Option.mem_toList] at hq
    rcases hq with hq | hq
    · exact b q hq
    · exact c q hq
  · rintro ⟨a, b⟩
    refine ⟨p, hp, a, fun q hq => (key q).mp (b q ?_), fun q hq => (key q).mp (b q ?_)⟩
    · simp only [so, List.mem_append, Option.mem_toList]
      exact .inl hq
    · simp only [so, List.mem_append, Option.mem_toList]
      exact .inr hq
theorem so_in {s : Sh} {h : Nat} {p : Part} (hp : s[h]? = some p) (k : ∀ p ∈ s, PIn s.length p) {q : Nat} (hq : q ∈ so p) : q < s.length := by
  have z := k p (List.mem_of_getElem? hp)
  simp only [so, List.mem_append, Option.mem_toList] at hq
  rcases hq with hq | hq
  · exact z.2.1 q hq
  · exact z.2.2 q hq
theorem shOk_iff {s : Sh} (n1 : 1 ≤ s.length) (n64 : s.length ≤ 64) (k : ∀ p ∈ s, PIn s.length p) : ShOk s ↔ (∀ h, h < s.length → SOk s h) ∧ Tree (s.map (·.up)) :=
  ⟨fun o => ⟨o.sons, o.tree⟩, fun o => ⟨n1, n64, k, o.1, o.2⟩⟩
/-! going up so often -/
def goUp (ps : List (Option Nat)) : Nat → Nat → Option Nat
  | 0, h => some h
  | k + 1, h => (goUp ps k h).bind fun x => (ps[x]?).bind id
theorem goUp_succ (ps : List (Option Nat)) : ∀ (k h : Nat), goUp ps (k + 1) h = ((ps[h]?).bind id).bind fun q => goUp ps k q
  | 0, h => by
    show (some h).bind _ = _
    simp only [Option.bind_some]
    cases (ps[h]?).bind id <;> rfl
  | k + 1, h => by
    have e := goUp_succ ps k h
    rw [show goUp ps (k + 1 + 1) h = (goUp ps (k + 1) h).bind fun x => (ps[x]?).bind id from rfl, e]
    cases (ps[h]?).bind id with
    | none => rfl
    | some q => rfl
theorem goUp_ch {ps : List (Option Nat)} {h : Nat} {l : List Nat} (c : Ch ps h l) : ∀ k, l.length ≤ k → goUp ps k h = none := by
  induction c with
  | @root h e =>
    intro k hk
    obtain ⟨k, rfl⟩ : ∃ j, k = j + 1 := ⟨k - 1, by simp at hk; omega⟩
    rw [goUp_succ, e]
    rfl
  | @step h p l e c ih =>
    intro k hk
    obtain ⟨k, rfl⟩ : ∃ j, k = j + 1 := ⟨k - 1, by simp at hk; omega⟩
    rw [goUp_succ, e]
    exact ih k (by simpa using hk)
theorem goUp_none {ps : List (Option Nat)} (ir : Inr ps) : ∀ (k h : Nat), h < ps.length → goUp ps k h = none → ∃ l, Ch ps h l
  | 0, h, _, e => by cases e
  | k + 1, h, hh, e => by
    rw [goUp_succ] at e
    have eh : ps[h]? = some ps[h] := List.getElem?_eq_getElem hh
    cases q : ps[h] with
    | none => rw [q] at eh; exact ⟨_, .root eh⟩
    | some r =>
      rw [q] at eh
      rw [eh] at e
      obtain ⟨l, c⟩ := goUp_none ir k r (ir h r eh) e
      exact ⟨_, .step eh c⟩
theorem goUp_iff {ps : List (Option Nat)} (ir : Inr ps) {h : Nat} (hh : h < ps.length) : goUp ps ps.length h = none ↔ ∃ l, Ch ps h l :=
  ⟨goUp_none ir _ h hh, fun ⟨_, c⟩ => goUp_ch c _ c.len⟩
theorem goUp_in {ps : List (Option Nat)} (ir : Inr ps) : ∀ {k h x : Nat}, h < ps.length → goUp ps k h = some x → x < ps.length
  | 0, h, x, hh, e => by cases e; exact hh
  | k + 1, h, x, hh, e => by
    have e2 : (goUp ps k h).bind (fun x => (ps[x]?).bind id) = some x := e
    cases q : goUp ps k h with
    | none => rw [q] at e2; cases e2
    | some y =>
      rw [q] at e2
      have e3 : (ps[y]?).bind id = some x := e2
      cases r : ps[y]? with
      | none => rw [r] at e3; cases e3
      | some o =>
        rw [r] at e3
        have e4 : o = some x := e3
        rw [e4] at r
        exact ir y x r
theorem notSh {ds : List Dt} {i : Nat} {d : Dt} (e : ds[i]? = some d) (n : ¬ ∃ p, d = dPart p ∧ PIn ds.length p) : ¬ IsSh (.tup ds) := fun ⟨s, e2, o⟩ => by
  have e3 := Dt.tup.inj e2
  subst e3
  rw [List.getElem?_map] at e
  cases q : s[i]? with
  | none => rw [q] at e; cases e
  | some p =>
    rw [q] at e
    have := o.pin p (List.mem_of_getElem? q)
    exact n ⟨p, (Option.some.inj e).symm, by rw [List.length_map]; exact this⟩
theorem part6 {ds : List Dt} (l : ds.length = 6) : ∃ d0 d1 d2 d3 d4 d5, ds = [d0, d1, d2, d3, d4, d5] := by
  match ds, l with
  | [d0, d1, d2, d3, d4, d5], _ => exact ⟨_, _, _, _, _, _, rfl⟩
theorem dPart_len {ds : List Dt} {p : Part} (e : Dt.tup ds = dPart p) : ds.length = 6 := by rw [Dt.tup.inj e]; rfl
theorem repL6 {CS : List Addr} {H : Hp} {d0 d1 d2 d3 d4 d5 : Dt} {xs : List V} (r : RepL CS H [d0, d1, d2, d3, d4, d5] xs) : ∃ x0 x1 x2 x3 x4 x5, xs = [x0, x1, x2, x3, x4, x5] ∧ Rep CS H d0 x0 ∧ Rep CS H d1 x1 ∧ Rep CS H d2 x2 ∧ Rep CS H d3 x3 ∧ Rep CS H d4 x4 ∧ Rep CS H d5 x5 := by
  obtain ⟨x0, xs, rfl, r0, r⟩ := repL_cons.mp r
  obtain ⟨x1, xs, rfl, r1, r⟩ := repL_cons.mp r
  obtain ⟨x2, xs, rfl, r2, r⟩ := repL_cons.mp r
  obtain ⟨x3, xs, rfl, r3, r⟩ := repL_cons.mp r
  obtain ⟨x4, xs, rfl, r4, r⟩ := repL_cons.mp r
  obtain ⟨x5, xs, rfl, r5, r⟩ := repL_cons.mp r
  rw [repL_nil.mp r]
  exact ⟨_, _, _, _, _, _, rfl, r0, r1, r2, r3, r4, r5⟩
/-- six parts, by their values -/
def pok (n : Nat) (x0 x1 x2 x3 x4 x5 : V) : Bool := okE n x0 && okE n x1 && okE n x2 && isB x3 && isI x4 && isI x5
theorem pok_iff {CS : List Addr} {H : Hp} {n : Nat} {d0 d1 d2 d3 d4 d5 : Dt} {x0 x1 x2 x3 x4 x5 : V} (r0 : Rep CS H d0 x0) (r1 : Rep CS H d1 x1) (r2 : Rep CS H d2 x2) (r3 : Rep CS H d3 x3) (r4 : Rep CS H d4 x4) (r5 : Rep CS H d5 x5) :
    pok n x0 x1 x2 x3 x4 x5 = true ↔ ∃ p, Dt.tup [d0, d1, d2, d3, d4, d5] = dPart p ∧ PIn n p := by
  unfold pok
  simp only [Bool.and_eq_true]
  constructor
  · rintro ⟨⟨⟨⟨⟨f0, f1⟩, f2⟩, f3⟩, f4⟩, f5⟩
    obtain ⟨o0, rfl, g0⟩ := okE_ov f0
    obtain ⟨o1, rfl, g1⟩ := okE_ov f1
    obtain ⟨o2, rfl, g2⟩ := okE_ov f2
    obtain ⟨b3, rfl⟩ := isB_of f3
    obtain ⟨i4, rfl⟩ := isI_of f4
    obtain ⟨i5, rfl⟩ := isI_of f5
    refine ⟨⟨o0, o1, o2, b3, i4, i5⟩, ?_, g0, g1, g2⟩
    rw [rep_ov_inv r0, rep_ov_inv r1, rep_ov_inv r2, rep_bl_inv r3, rep_int_inv r4, rep_int_inv r5]
    rfl
  · rintro ⟨p, ep, q0, q1, q2⟩
    simp only [dPart, Dt.tup.injEq, List.cons.injEq, and_true] at ep
    obtain ⟨rfl, rfl, rfl, rfl, rfl, rfl⟩ := ep
    rw [rep_ov.mp r0, rep_ov.mp r1, rep_ov.mp r2, rep_bl.mp r3, rep_int.mp r4, rep_int.mp r5]
    exact ⟨⟨⟨⟨⟨ov_okE q0, ov_okE q1⟩, ov_okE q2⟩, rfl⟩, rfl⟩, rfl⟩
end W2
namespace W2
open PySem PySem.Spec PyProof.Rows L2
structure Env (K : PySem.W.Frag) (CS : List Addr) : Prop where
  ow : Owns K CS
/-! ### alike in kind -/
def flD : V → Bool
  | .non => true
  | .bl _ => true
  | .int _ => true
  | .str _ => true
  | _ => false
def EqD : Nat → Hp → V → V → Prop
  | 0, _, _, _ => False
  | d + 1, H, x, y => (x = y ∧ flD y = true) ∨ ∃ a b xs ys, x = .ref a ∧ y = .ref b ∧ ((H a = some (.tup xs) ∧ H b = some (.tup ys)) ∨ (H a = some (.lst xs) ∧ H b = some (.lst ys))) ∧ (xs.length = ys.length ∧ xs.length < 100000) ∧ ∀ (i : Nat) (x y : V), xs[i]? = some x → ys[i]? = some y → EqD d H x y
theorem EqD.same {H H' : Hp} (s : Same H H') : ∀ {d : Nat} {x y : V}, EqD d H x y → EqD d H' x y
  | 0, _, _, h => h.elim
  | d + 1, x, y, h => by
    rcases h with h | ⟨a, b, xs, ys, h1, h2, h3, h5, h6⟩
    · exact .inl h
    · exact .inr ⟨a, b, xs, ys, h1, h2, h3.elim (fun z => .inl ⟨s _ _ z.1, s _ _ z.2⟩) (fun z => .inr ⟨s _ _ z.1, s _ _ z.2⟩), h5, fun i x y q r => (h6 i x y q r).same s⟩
theorem EqD.succ {H : Hp} : ∀ {d : Nat} {x y : V}, EqD d H x y → EqD (d + 1) H x y
  | 0, _, _, h => h.elim
  | d + 1, x, y, h => by
    rcases h with h | ⟨a, b, xs, ys, h1, h2, h3, h5, h6⟩
    · exact .inl h
    · exact .inr ⟨a, b, xs, ys, h1, h2, h3, h5, fun i x y q r => (h6 i x y q r).succ⟩
theorem EqD.le {H : Hp} {d e : Nat} {x y : V} (h : EqD d H x y) (l : d ≤ e) : EqD e H x y := by
  obtain ⟨k, rfl⟩ : ∃ k, e = d + k := ⟨e - d, by omega⟩
  induction k with
  | zero => exact h
  | succ k ih => exact (ih (by omega)).succ
theorem eqD_flat {H : Hp} {d : Nat} {x : V} (h : flD x = true) : EqD (d + 1) H x x := .inl ⟨rfl, h⟩
theorem eqD_bl {H : Hp} {d : Nat} (b : Bool) : EqD (d + 1) H (.bl b) (.bl b) := eqD_flat rfl
theorem eqD_int {H : Hp} {d : Nat} (b : Int) : EqD (d + 1) H (.int b) (.int b) := eqD_flat rfl
theorem eqD_ov {H : Hp} {d : Nat} (b : Option Nat) : EqD (d + 1) H (ov b) (ov b) := eqD_flat (by cases b <;> rfl)
theorem eqD_tup {H : Hp} {d : Nat} {a b : Addr} {xs ys : List V} (ha : H a = some (.tup xs)) (hb : H b = some (.tup ys)) (hl : xs.length = ys.length) (hz : xs.length < 100000) (k : ∀ (i : Nat) (x y : V), xs[i]? = some x → ys[i]? = some y → EqD d H x y) : EqD (d + 1) H (.ref a) (.ref b) :=
  .inr ⟨a, b, xs, ys, rfl, rfl, .inl ⟨ha, hb⟩, ⟨hl, hz⟩, k⟩
theorem eqD_lst {H : Hp} {d : Nat} {a b : Addr} {xs ys : List V} (ha : H a = some (.lst xs)) (hb : H b = some (.lst ys)) (hl : xs.length = ys.length) (hz : xs.length < 100000) (k : ∀ (i : Nat) (x y : V), xs[i]? = some x → ys[i]? = some y → EqD d H x y) : EqD (d + 1) H (.ref a) (.ref b) :=
  .inr ⟨a, b, xs, ys, rfl, rfl, .inr ⟨ha, hb⟩, ⟨hl, hz⟩, k⟩
theorem eqD_flats {H : Hp} {d : Nat} {a b : Addr} {xs : List V} (ha : H a = some (.tup xs)) (hb : H b = some (.tup xs)) (hz : xs.length < 100000) (h : ∀ x ∈ xs, flD x = true) : EqD (d + 2) H (.ref a) (.ref b) :=
  eqD_tup ha hb rfl hz fun i x y hx hy => by
    rw [hx] at hy
    cases hy
    exact eqD_flat (h x (List.mem_of_getElem? hx))
theorem flD_vPart (p : Part) : ∀ x ∈ vPart p, flD x = true := fun x hx => by
  simp only [vPart, List.mem_cons, List.not_mem_nil, or_false] at hx
  rcases hx with rfl | rfl | rfl | rfl | rfl | rfl
  · cases p.up <;> rfl
  · cases p.left <;> rfl
  · cases p.right <;> rfl
  · rfl
  · rfl
  · rfl
def spIs (d : Nat) : Sp := fun vs H Q _ => ∃ x y, vs = [x, y] ∧ EqD d H x y ∧ Ret (.bl true) H Q
theorem spIs_zero {vs : List V} {H : Hp} {Q : VK} {E : XK} (h : spIs 0 vs H Q E) : False := let ⟨_, _, _, h, _⟩ := h; h
/-! ### promises of the laws' small defs -/
def spDeep (CS : List Addr) : Sp := fun vs H Q _ => ∃ (h l : Addr), vs = [.ref h] ∧ Hand H h l ∧ ∀ H' x d, Bt h H H' → Hand H' h l → Rep CS H' d x → Q x H'
def spValue : Sp := fun vs H Q _ => ∃ (h l : Addr), vs = [.ref h] ∧ Hand H h l ∧ ∀ H' (i : Int), Bt h H H' → Hand H' h l → Q (.int i) H'
def spMany : Sp := fun vs H Q _ => ∃ (h l : Addr) (n : Int), vs = [.ref h, .int n] ∧ Hand H h l ∧ 1 ≤ n ∧ n ≤ 64 ∧ ∀ H' (m : Nat), Bt h H H' → Hand H' h l → 1 ≤ m → m ≤ 64 → Q (.int (m : Int)) H'
def spShuf (K : PySem.W.Frag) : Sp := fun vs H Q _ => ∃ (h l : Addr) (n : Nat), vs = [.ref h, .int (n : Int)] ∧ Hand H h l ∧ n ≤ 64 ∧ ∀ H' p (od : List Nat), Bt h H H' → Hand H' h l → H p = none → H' p = some (.lst (od.map nv)) → od.Perm (List.range n) → Q (.ref p) H'
def spHouse : Sp := fun vs H Q _ => ∃ (u v : V), vs = [u, v] ∧ ∀ H' p, Same H H' → H p = none → H' p = some (.lst [u, .non, .non, .bl false, .int 0, v]) → Q (.ref p) H'
def spShape (CS : List Addr) : Sp := fun vs H Q _ => ∃ (h l : Addr) (n : Nat), vs = [.ref h, .int (n : Int)] ∧ Hand H h l ∧ 1 ≤ n ∧ n ≤ 64 ∧ ∀ H' a s, Bt h H H' → Hand H' h l → ShA CS H' a s → ShOk s → s.length = n → Q (.ref a) H'
def spBent7 (CS : List Addr) : Sp := fun vs H Q _ => ∃ (h l a : Addr) (s : Sh), vs = [.ref h, .ref a] ∧ Hand H h l ∧ ShA CS H a s ∧ ShOk s ∧ ∀ H' x d, Bt h H H' → Hand H' h l → Rep CS H' d x → Q x H'
/-! ### shapes as lists -/
structure LSh (H : Hp) (F : Addr) (ad : List Addr) (s : Sh) : Prop where
  f : H F = some (.lst (ad.map V.ref))
  len : ad.length = s.length
  nd : ad.Nodup
  nf : F ∉ ad
  at_ : ∀ (i : Nat) a p, ad[i]? = some a → s[i]? = some p → H a = some (.lst (vPart p))
theorem LSh.get {H : Hp} {F : Addr} {ad : List Addr} {s : Sh} (x : LSh H F ad s) {i : Nat} {p : Part} (e : s[i]? = some p) : ∃ a, ad[i]? = some a ∧ (ad.map V.ref)[i]? = some (.ref a) ∧ H a = some (.lst (vPart p)) ∧ a ≠ F := by
  have hi : i < ad.length := by rw [x.len]; exact (List.getElem?_eq_some_iff.mp e).1
  have ea : ad[i]? = some ad[i] := List.getElem?_eq_getElem hi
  exact ⟨_, ea, by rw [List.getElem?_map, ea]; rfl, x.at_ i _ p ea e, fun z => x.nf (z ▸ List.getElem_mem hi)⟩
theorem LSh.fr {H H' : Hp} {F : Addr} {ad : List Addr} {s : Sh} (x : LSh H F ad s) (k : ∀ b o, b = F ∨ b ∈ ad → H b = some o → H' b = some o) : LSh H' F ad s :=
  ⟨k _ _ (.inl rfl) x.f, x.len, x.nd, x.nf, fun i a p e f => k _ _ (.inr (List.mem_of_getElem? e)) (x.at_ i a p e f)⟩
theorem LSh.same {H H' : Hp} {F : Addr} {ad : List Addr} {s : Sh} (x : LSh H F ad s) (k : Same H H') : LSh H' F ad s := x.fr fun b o _ e => k b o e
theorem LSh.inv {H : Hp} {F : Addr} {ad : List Addr} {s : Sh} (x : LSh H F ad s) {a : Addr} (m : a ∈ ad) : ∃ p, H a = some (.lst (vPart p)) := by
  obtain ⟨i, hi, e⟩ := List.getElem_of_mem m
  have hs : i < s.length := by rw [← x.len]; exact hi
  exact ⟨_, x.at_ i a _ (List.getElem?_eq_some_iff.mpr ⟨hi, e⟩) (List.getElem?_eq_getElem hs)⟩
theorem LSh.set {H : Hp} {F a : Addr} {ad : List Addr} {s : Sh} {i : Nat} {p' : Part} (x : LSh H F ad s) (e : ad[i]? = some a) : LSh (L2.upd H a (.lst (vPart p'))) F ad (s.set i p') := by
  have am : a ∈ ad := List.mem_of_getElem? e
  have nFa : F ≠ a := fun z => x.nf (z ▸ am)
  refine ⟨by rw [upd_ne nFa]; exact x.f, by rw [List.length_set]; exact x.len, x.nd, x.nf, fun j b p eb ep => ?_⟩
  by_cases q : i = j
  · subst q
    rw [e] at eb
    cases eb
    have hi : i < s.length := by rw [← x.len]; exact (List.getElem?_eq_some_iff.mp e).1
    rw [List.getElem?_set_self hi] at ep
    cases ep
    exact upd_same
  · rw [List.getElem?_set_ne q] at ep
    have n : b ≠ a := fun z => by
      subst z
      exact q (nd_ix x.nd e eb)
    rw [upd_ne n]
    exact x.at_ j b p eb ep
/-- the hand is none of these lists -/
theorem LSh.sep {H : Hp} {F h l : Addr} {ad : List Addr} {s : Sh} (x : LSh H F ad s) (hh : Hand H h l) (n0 : 0 < s.length) : (h ≠ F ∧ h ∉ ad) ∧ (l ≠ F ∧ l ∉ ad) := by
  obtain ⟨ns, i, b, t, c, y⟩ := hh
  have la : 0 < ad.length := by rw [x.len]; exact n0
  refine ⟨⟨fun z => ?_, fun z => ?_⟩, fun z => ?_, fun z => ?_⟩
  · subst z
    have e := y.o.symm.trans x.f
    match ad, la with
    | [a], _ => cases e
    | a :: b :: _, _ => cases e
  · obtain ⟨p, e⟩ := x.inv z
    have e2 := HO.lst.inj (Option.some.inj (y.o.symm.trans e))
    have := congrArg List.length e2
    simp [vPart] at this
  · subst z
    have e := HO.lst.inj (Option.some.inj (y.n.symm.trans x.f))
    match ad, la, ns, e with
    | _ :: _, _, [], e => cases e
    | _ :: _, _, _ :: _, e => cases e
  · obtain ⟨p, e⟩ := x.inv z
    have e2 := HO.lst.inj (Option.some.inj (y.n.symm.trans e))
    have e3 := congrArg (fun z : List V => z[3]?) e2
    simp only [vPart, List.getElem?_map] at e3
    cases q : ns[3]? with
    | none => rw [q] at e3; cases e3
    | some k => rw [q] at e3; cases e3
theorem LSh.bt {H H' : Hp} {F h l : Addr} {ad : List Addr} {s : Sh} (x : LSh H F ad s) (hh : Hand H h l) (n0 : 0 < s.length) (b : Bt h H H') : LSh H' F ad s := by
  have q := (x.sep hh n0).1
  exact x.fr fun c o m e => b c o (fun z => by
    subst z
    rcases m with m | m
    · exact q.1 m
    · exact q.2 m) e
theorem Hand.an {H : Hp} {h l : Addr} (hh : Hand H h l) {a : Addr} (n : H a = none) : a ≠ h ∧ a ≠ l := by
  obtain ⟨ns, i, b, s, c, y⟩ := hh
  exact ⟨(ne_of_none y.o n).symm, (ne_of_none y.n n).symm⟩
theorem LSh.push {H H' : Hp} {F p : Addr} {ad : List Addr} {s : Sh} {q : Part} (x : LSh H F ad s) (sm : ∀ b o, b = F ∨ b ∈ ad → H b = some o → H' b = some o) (np : H p = none) (ep : H' p = some (.lst (vPart q))) : LSh (L2.upd H' F (.lst ((ad ++ [p]).map V.ref))) F (ad ++ [p]) (s ++ [q]) := by
  have nFp : F ≠ p := ne_of_none x.f np
  have npa : p ∉ ad := fun m => by
    obtain ⟨z, e⟩ := x.inv m
    rw [np] at e
    cases e
  have nF : F ∉ ad ++ [p] := fun m => by
    rcases List.mem_append.mp m with m | m
    · exact x.nf m
    · exact nFp (List.mem_singleton.mp m)
  refine ⟨upd_same, by rw [List.length_append, List.length_append, x.len]; rfl, ?_, nF, fun i a r ea er => ?_⟩
  · rw [List.nodup_append]
    refine ⟨x.nd, by simp, fun a ha b hb e => ?_⟩
    rw [List.mem_singleton.mp hb] at e
    exact npa (e ▸ ha)
  · have naF : a ≠ F := fun e => nF (e ▸ List.mem_of_getElem? ea)
    rw [upd_ne naF]
    rcases Nat.lt_or_ge i ad.length with h | h
    · rw [List.getElem?_append_left h] at ea
      rw [List.getElem?_append_left (by rw [← x.len]; exact h)] at er
      exact sm _ _ (.inr (List.mem_of_getElem? ea)) (x.at_ i a r ea er)
    · rw [List.getElem?_append_right h] at ea
      rw [List.getElem?_append_right (by rw [← x.len]; exact h), ← x.len] at er
      have e0 : i - ad.length = 0 := by
        have := (List.getElem?_eq_some_iff.mp ea).1
        simp at this
        omega
      rw [e0] at ea er
      cases (show p = a by simpa using ea)
      cases (show q = r by simpa using er)
      exact ep
/-- what a drawn shape keeps, i houses of the order being done -/
structure DrI (od : List Nat) (i : Nat) (s : Sh) : Prop where
  par : ∀ (k g : Nat) p, od[k]? = some g → s[g]? = some p → p.up = none ∨ (k < i ∧ ∃ (j q : Nat), j < k ∧ od[j]? = some q ∧ p.up = some q)
  son : ∀ (g : Nat) p q, s[g]? = some p → (p.left = some q ∨ p.right = some q) → ∃ pq, s[q]? = some pq ∧ pq.up = some g
  ne : ∀ (g : Nat) p q, s[g]? = some p → p.left = some q → p.right ≠ some q
theorem DrI.succ {od : List Nat} {i : Nat} {s : Sh} (d : DrI od i s) : DrI od (i + 1) s :=
  ⟨fun k g p e f => (d.par k g p e f).imp id fun ⟨a, b⟩ => ⟨by omega, b⟩, d.son, d.ne⟩
theorem DrI.same {od : List Nat} {i m : Nat} {s : Sh} {p p' : Part} (d : DrI od i s) (e : s[m]? = some p) (h : p'.up = p.up ∧ p'.left = p.left ∧ p'.right = p.right) : DrI od i (s.set m p') := by
  have hm := (List.getElem?_eq_some_iff.mp e).1
  have back : ∀ (g : Nat) r, (s.set m p')[g]? = some r → ∃ r0, s[g]? = some r0 ∧ r.up = r0.up ∧ r.left = r0.left ∧ r.right = r0.right := fun g r q => by
    by_cases z : m = g
    · subst z
      rw [List.getElem?_set_self hm] at q
      cases q
      exact ⟨p, e, h⟩
    · rw [List.getElem?_set_ne z] at q
      exact ⟨r, q, rfl, rfl, rfl⟩
  refine ⟨fun k g r a b => ?_, fun g r q a b => ?_, fun g r q a b c => ?_⟩
  · obtain ⟨r0, f, u, _⟩ := back g r b
    rw [u]
    exact d.par k g r0 a f
  · obtain ⟨r0, f, _, l, t⟩ := back g r a
    rw [l, t] at b
    obtain ⟨pq, eq, u⟩ := d.son g r0 q f b
    by_cases z : m = q
    · subst z
      rw [e] at eq
      cases eq
      exact ⟨p', List.getElem?_set_self hm, by rw [h.1]; exact u⟩
    · exact ⟨pq, by rw [List.getElem?_set_ne z]; exact eq, u⟩
  · obtain ⟨r0, f, _, l, t⟩ := back g r a
    rw [l] at b
    rw [t] at c
    exact d.ne g r0 q f b c
/-- the house m, that stands at i of the order, hangs at o; it may be its son there -/
theorem DrI.link {od : List Nat} {i j m o : Nat} {s : Sh} {pm : Part} (d : DrI od i s) (nd : od.Nodup) (em : od[i]? = some m) (eo : od[j]? = some o) (ji : j < i) (e : s[m]? = some pm) : DrI od (i + 1) (s.set m { pm with up := some o }) := by
  have hm := (List.getElem?_eq_some_iff.mp e).1
  have um : pm.up = none := (d.par i m pm em e).resolve_right fun z => absurd z.1 (by omega)
  have nosonM : ∀ (g : Nat) r, s[g]? = some r → ¬ (r.left = some m ∨ r.right = some m) := fun g r f b => by
    obtain ⟨pq, eq, u⟩ := d.son g r m f b
    rw [e] at eq
    cases eq
    rw [um] at u
    cases u
  have back : ∀ (g : Nat) r, (s.set m { pm with up := some o })[g]? = some r → ∃ r0, s[g]? = some r0 ∧ r.left = r0.left ∧ r.right = r0.right := fun g r q => by
    by_cases z : m = g
    · subst z
      rw [List.getElem?_set_self hm] at q
      cases q
      exact ⟨pm, e, rfl, rfl⟩
    · rw [List.getElem?_set_ne z] at q
      exact ⟨r, q, rfl, rfl⟩
  refine ⟨fun k g r a b => ?_, fun g r q a b => ?_, fun g r q a b c => ?_⟩
  · by_cases z : m = g
    · subst z
      have ek : i = k := nd_ix nd em a
      subst ek
      rw [List.getElem?_set_self hm] at b
      cases b
      exact .inr ⟨by omega, j, o, ji, eo, rfl⟩
    · rw [List.getElem?_set_ne z] at b
      exact (d.par k g r a b).imp id fun ⟨x, y⟩ => ⟨by omega, y⟩
  · obtain ⟨r0, f, l, t⟩ := back g r a
    rw [l, t] at b
    obtain ⟨pq, eq, u⟩ := d.son g r0 q f b
    have z : m ≠ q := fun z => by
      subst z
      exact nosonM g r0 f b
    exact ⟨pq, by rw [List.getElem?_set_ne z]; exact eq, u⟩
  · obtain ⟨r0, f, l, t⟩ := back g r a
    rw [l] at b
    rw [t] at c
    exact d.ne g r0 q f b c
theorem DrI.noson {od : List Nat} {i m : Nat} {s : Sh} {pm : Part} (d : DrI od i s) (em : od[i]? = some m) (e : s[m]? = some pm) : ∀ (g : Nat) r, s[g]? = some r → r.left ≠ some m ∧ r.right ≠ some m := fun g r f => by
  have um : pm.up = none := (d.par i m pm em e).resolve_right fun z => absurd z.1 (by omega)
  have h : ¬ (r.left = some m ∨ r.right = some m) := fun b => by
    obtain ⟨pq, eq, u⟩ := d.son g r m f b
    rw [e] at eq
    cases eq
    rw [um] at u
    cases u
  exact ⟨fun z => h (.inl z), fun z => h (.inr z)⟩
theorem DrI.hang {od : List Nat} {i m o : Nat} {s : Sh} {pm po po' : Part} (d : DrI od i s) (e : s[m]? = some pm) (um : pm.up = some o) (f : s[o]? = some po) (ns : po.left ≠ some m ∧ po.right ≠ some m)
    (h : po'.up = po.up ∧ ((po.left = none ∧ po'.left = some m ∧ po'.right = po.right) ∨ (po.right = none ∧ po'.left = po.left ∧ po'.right = some m))) : DrI od i (s.set o po') := by
  have ho := (List.getElem?_eq_some_iff.mp f).1
  have back : ∀ (g : Nat) r, g ≠ o → (s.set o po')[g]? = some r → s[g]? = some r := fun g r z q => by
    rw [List.getElem?_set_ne z.symm] at q
    exact q
  have fwd : ∀ (q : Nat) r, s[q]? = some r → ∃ r', (s.set o po')[q]? = some r' ∧ r'.up = r.up := fun q r z => by
    by_cases w : o = q
    · subst w
      rw [f] at z
      cases z
      exact ⟨po', List.getElem?_set_self ho, h.1⟩
    · exact ⟨r, by rw [List.getElem?_set_ne w]; exact z, rfl⟩
  refine ⟨fun k g r a b => ?_, fun g r q a b => ?_, fun g r q a b c => ?_⟩
  · by_cases z : g = o
    · subst z
      rw [List.getElem?_set_self ho] at b
      cases b
      rw [h.1]
      exact d.par k g po a f
    · exact d.par k g r a (back g r z b)
  · have key : (∃ pq, s[q]? = some pq ∧ pq.up = some g) → ∃ pq, (s.set o po')[q]? = some pq ∧ pq.up = some g := fun ⟨pq, x, y⟩ => by
      obtain ⟨r', x', y'⟩ := fwd q pq x
      exact ⟨r', x', by rw [y', y]⟩
    by_cases z : g = o
    · subst z
      rw [List.getElem?_set_self ho] at a
      cases a
      refine key ?_
      rcases h.2 with ⟨h1, h2, h3⟩ | ⟨h1, h2, h3⟩
      · rw [h2, h3] at b
        rcases b with b | b
        · cases b
          exact ⟨pm, e, um⟩
        · exact d.son g po q f (.inr b)
      · rw [h2, h3] at b
        rcases b with b | b
        · exact d.son g po q f (.inl b)
        · cases b
          exact ⟨pm, e, um⟩
    · exact key (d.son g r q (back g r z a) b)
  · by_cases z : g = o
    · subst z
      rw [List.getElem?_set_self ho] at a
      cases a
      rcases h.2 with ⟨h1, h2, h3⟩ | ⟨h1, h2, h3⟩
      · rw [h2] at b
        cases b
        rw [h3] at c
        exact ns.2 c
      · rw [h3] at c
        cases c
        rw [h2] at b
        exact ns.1 b
    · exact d.ne g r q (back g r z a) b c
theorem DrI.ok {od : List Nat} {n : Nat} {s : Sh} (d : DrI od n s) (pm : od.Perm (List.range n)) (l : s.length = n) (n1 : 1 ≤ n) (n64 : n ≤ 64) : ShOk s := by
  have mem : ∀ q, q ∈ od ↔ q < n := fun q => by rw [pm.mem_iff, List.mem_range]
  have inod : ∀ g, g < n → ∃ k : Nat, od[k]? = some g := fun g hg => by
    obtain ⟨i, hi, e⟩ := List.getElem_of_mem ((mem g).mpr hg)
    exact ⟨i, List.getElem?_eq_some_iff.mpr ⟨hi, e⟩⟩
  have sonin : ∀ (g : Nat) p q, s[g]? = some p → (p.left = some q ∨ p.right = some q) → q < s.length := fun g p q a b => by
    obtain ⟨pq, e, _⟩ := d.son g p q a b
    exact (List.getElem?_eq_some_iff.mp e).1
  refine ⟨by omega, by omega, fun p hp => ?_, fun h hh => ?_, ?_⟩
  · obtain ⟨g, hg, e⟩ := List.getElem_of_mem hp
    have eg : s[g]? = some p := List.getElem?_eq_some_iff.mpr ⟨hg, e⟩
    obtain ⟨k, ek⟩ := inod g (by omega)
    refine ⟨fun q hq => ?_, fun q hq => sonin g p q eg (.inl hq), fun q hq => sonin g p q eg (.inr hq)⟩
    rcases d.par k g p ek eg with z | ⟨_, j, q', _, ej, z⟩
    · rw [hq] at z; cases z
    · rw [hq] at z
      cases z
      have := (mem q).mp (List.mem_of_getElem? ej)
      omega
  · have e : s[h]? = some s[h] := List.getElem?_eq_getElem hh
    exact ⟨_, e, fun q => d.ne h _ q e, fun q hq => d.son h _ q e (.inl hq), fun q hq => d.son h _ q e (.inr hq)⟩
  · refine tree_ord (o := od) (by rw [pm.length_eq, List.length_range, List.length_map, l]) (fun x hx => inod x (by rw [List.length_map] at hx; omega)) fun k h e => ?_
    have hh : h < s.length := by have := (mem h).mp (List.mem_of_getElem? e); omega
    have es : s[h]? = some s[h] := List.getElem?_eq_getElem hh
    rw [List.getElem?_map, es]
    rcases d.par k h _ e es with z | ⟨_, j, q, a, b, c⟩
    · exact .inl (by rw [← z]; rfl)
    · exact .inr ⟨j, q, a, b, by rw [← c]; rfl⟩
/-- a new listed house -/
def newPart (v : Int) : Part := ⟨none, none, none, false, 0, v⟩
theorem drI_new {od : List Nat} {s : Sh} (h : ∀ p ∈ s, p.up = none ∧ p.left = none ∧ p.right = none) : DrI od 0 s := by
  refine ⟨fun k g p _ f => .inl (h p (List.mem_of_getElem? f)).1, fun g p q f b => ?_, fun g p q f b => ?_⟩
  · obtain ⟨_, l, r⟩ := h p (List.mem_of_getElem? f)
    rw [l, r] at b
    rcases b with b | b <;> cases b
  · obtain ⟨_, l, r⟩ := h p (List.mem_of_getElem? f)
    rw [l] at b
    cases b
def sideOf (r : Nat) (p : Part) : Option Nat := if r = 0 then p.left else p.right
def setSide (r : Nat) (p : Part) (m : Nat) : Part := if r = 0 then { p with left := some m } else { p with right := some m }
theorem side_at {r : Nat} (h : (r : Int) < 2) (p : Part) : atI (vPart p) (1 + (r : Int)) = some (ov (sideOf r p)) := by
  match r, h with
  | 0, _ => rfl
  | 1, _ => rfl
  | r + 2, h => omega
theorem side_ix {r : Nat} (h : (r : Int) < 2) : ixN 6 (1 + (r : Int)) = some (1 + r) := by
  match r, h with
  | 0, _ => rfl
  | 1, _ => rfl
  | r + 2, h => omega
theorem side_set {r : Nat} (h : (r : Int) < 2) (p : Part) (m : Nat) : (vPart p).set (1 + r) (nv m) = vPart (setSide r p m) := by
  match r, h with
  | 0, _ => rfl
  | 1, _ => rfl
  | r + 2, h => omega
theorem side_hang {r : Nat} (h : (r : Int) < 2) {p : Part} {m : Nat} (e : sideOf r p = none) : (setSide r p m).up = p.up ∧ ((p.left = none ∧ (setSide r p m).left = some m ∧ (setSide r p m).right = p.right) ∨ (p.right = none ∧ (setSide r p m).left = p.left ∧ (setSide r p m).right = some m)) := by
  match r, h with
  | 0, _ => exact ⟨rfl, .inl ⟨e, rfl, rfl⟩⟩
  | 1, _ => exact ⟨rfl, .inr ⟨e, rfl, rfl⟩⟩
  | r + 2, h => omega
theorem Hand.bsame {H H' H'' : Hp} {h : Addr} (b : Bt h H H') (s : L2.Same H' H'') : Bt h H H'' := b.trans (Bt.of s)
theorem bt_tup {h : Addr} {H H' : Hp} {l a : Addr} {xs : List V} (hh : Hand H h l) (b : Bt h H H') (e : H a = some (.tup xs)) : H' a = some (.tup xs) := by
  obtain ⟨_, f⟩ := hh.lst
  exact b _ _ (ne_of e f (fun z => nomatch z)) e
/-- t[:k] + (x,) + t[k + 1:] -/
theorem spl_ok {K : PySem.W.Frag} {CS : List Addr} {h l : Addr} {ia ik : Nat} {σ : L2.St} {H : Hp} {Q : VK} {tX : TE} {a : Addr} {xs : List V} {ds : List Dt} {k : Nat}
    (ea : σ[ia]? = some (some (.ref a))) (ek : σ[ik]? = some (some (.int (k : Int)))) (hA : H a = some (.tup xs)) (rl : RepL CS H ds xs) (hk : k < xs.length) (hz : xs.length < 50000) (HH : Hand H h l)
    (hX : ∀ H1 (Y : VK), L2.Same H H1 → (∀ x dx H2, Bt h H1 H2 → Hand H2 h l → Rep CS H2 dx x → Y x H2) → tX σ H1 Y)
    (kk : ∀ r H' dx, Bt h H H' → Hand H' h l → Rep CS H' (.tup (ds.take k ++ [dx] ++ ds.drop (k + 1))) (.ref r) → Q (.ref r) H') :
    tOp (rCatA K) (tOp (rCatA K) (tSl (rSlA K) (tVar ia) tNoPart (tPart (tVar ik))) (tTup (tCons tX tNil))) (tSl (rSlA K) (tVar ia) (tPart (tOp (rI0 fun i j => .int (i + j)) (tVar ik) (tC (.int 1)))) tNoPart) σ H Q := by
  unfold tNoPart
  refine ⟨_, ea, _, ek, k, rfl, ?_⟩
  show rSlA K (.ref a) none (some (k : Int)) H _
  refine slA_of hA fun p1 H1 s1 e1 => ?_
  rw [cut_to xs k (by omega)] at e1
  refine hX H1 _ s1 fun x dx H2 b2 hh2 rx => ⟨small (by show 1 ≤ 100000; decide), fun p2 hp2 => ?_⟩
  have HH1 := HH.same s1
  have u2 := same_upd (o := .tup [x]) hp2
  have e1' := u2 _ _ (bt_tup HH1 b2 e1)
  have e2 : (L2.upd H2 p2 (.tup [x])) p2 = some (.tup [x]) := upd_same
  generalize L2.upd H2 p2 (.tup [x]) = H3 at u2 e1' e2
  refine catA_of e1' e2 (by rw [List.length_take]; show min k xs.length + 1 ≤ 100000; omega) fun r1 H4 s4 e4 => ?_
  have hA4 := s4 _ _ (u2 _ _ (bt_tup HH1 b2 (s1 _ _ hA)))
  refine ⟨_, ea, _, ek, _, _, rfl, rfl, _, rfl, ?_⟩
  show rSlA K (.ref a) (some ((k : Int) + 1)) none H4 _
  refine slA_of hA4 fun p3 H5 s5 e5 => ?_
  rw [show (k : Int) + 1 = ((k + 1 : Nat) : Int) by omega, cut_from xs (k + 1) (by omega)] at e5
  refine catA_of (s5 _ _ e4) e5 (by rw [List.length_append, List.length_take, List.length_drop]; show min k xs.length + 1 + (xs.length - (k + 1)) ≤ 100000; omega) fun r H6 s6 e6 => ?_
  have kin : Kin H H6 := ((Kin.of s1).trans (HH1.kin b2 hh2)).trans ((Kin.of u2).trans ((Kin.of s4).trans ((Kin.of s5).trans (Kin.of s6))))
  have sx := u2.trans (s4.trans (s5.trans s6))
  have rl6 := rl.kin kin
  exact kk r H6 dx (((Bt.of s1).trans b2).trans (Bt.of sx)) (hh2.same sx) (repT e6 (((rl6.take k).append (repL_one (rx.same sx))).append (rl6.drop (k + 1))))
end W2
namespace W2
open PySem PySem.Spec PyProof.Rows L2
def top (i : Nat) : Stmt := PySem.Challenge.pw_cutlinked_k07_whole_shapes_judged.main.body.getD i (.Pass ⟨0, 0, 0, 0⟩)
abbrev s_isint : Stmt := top 2
abbrev s_between : Stmt := top 3
abbrev s_ishouse : Stmt := top 4
abbrev s_ismany : Stmt := top 5
abbrev s_come : Stmt := top 7
abbrev s_isshape : Stmt := top 9
abbrev s_ispart : Stmt := top 10
abbrev s_hassons : Stmt := top 11
abbrev s_lhandI : Stmt := top 13
abbrev s_take16 : Stmt := top 14
abbrev s_lis : Stmt := top 15
abbrev s_ldeep : Stmt := top 16
abbrev s_lnumber : Stmt := top 17
abbrev s_lisint : Stmt := top 18
abbrev s_lvalue : Stmt := top 19
abbrev s_lmany : Stmt := top 20
abbrev s_lshuf : Stmt := top 21
abbrev s_lhouse : Stmt := top 22
abbrev s_lshape : Stmt := top 23
abbrev s_lisshape : Stmt := top 24
abbrev s_lbent7 : Stmt := top 25
abbrev s_law : Stmt := top 26
theorem sc_isint : FnScope ["thing"] ["thing"] (defScope s_isint) := ⟨rfl, rfl, rfl, by decide +kernel, rfl, by decide +kernel, by decide +kernel⟩
theorem sc_between : FnScope ["least", "most", "thing"] ["least", "most", "thing"] (defScope s_between) := ⟨rfl, rfl, rfl, by decide +kernel, rfl, by decide +kernel, by decide +kernel⟩
theorem sc_ishouse : FnScope ["many", "thing"] ["many", "thing"] (defScope s_ishouse) := ⟨rfl, rfl, rfl, by decide +kernel, rfl, by decide +kernel, by decide +kernel⟩
theorem sc_ismany : FnScope ["thing"] ["thing"] (defScope s_ismany) := ⟨rfl, rfl, rfl, by decide +kernel, rfl, by decide +kernel, by decide +kernel⟩
theorem sc_come : FnScope ["parents", "sure", "parent", "house", "line", "at", "passed"] ["parents"] (defScope s_come) := ⟨rfl, rfl, rfl, by decide +kernel, rfl, by decide +kernel, by decide +kernel⟩
theorem sc_isshape : FnScope ["thing", "part", "house"] ["thing"] (defScope s_isshape) := ⟨rfl, rfl, rfl, by decide +kernel, rfl, by decide +kernel, by decide +kernel⟩
theorem sc_ispart : FnScope ["many", "thing", "near"] ["many", "thing"] (defScope s_ispart) := ⟨rfl, rfl, rfl, by decide +kernel, rfl, by decide +kernel, by decide +kernel⟩
theorem sc_hassons : FnScope ["parts", "house", "sons", "son"] ["parts", "house"] (defScope s_hassons) := ⟨rfl, rfl, rfl, by decide +kernel, rfl, by decide +kernel, by decide +kernel⟩
theorem sc_lhandI : FnScope ["_law_script", "_law_cell"] ["_law_script"] (defScope s_lhandI) := ⟨rfl, rfl, rfl, by decide +kernel, rfl, by decide +kernel, by decide +kernel⟩
theorem sc_take16 : FnScope ["_law_hand_here", "_law_many_here", "_law_cell", "_law_digit", "_law_number_here"] ["_law_hand_here", "_law_many_here"] (defScope s_take16) := ⟨rfl, rfl, rfl, by decide +kernel, rfl, by decide +kernel, by decide +kernel⟩
theorem sc_lis : FnScope ["_law_told", "_law_due", "_law_one", "_law_two"] ["_law_told", "_law_due"] (defScope s_lis) := ⟨rfl, rfl, rfl, by decide +kernel, rfl, by decide +kernel, by decide +kernel⟩
theorem sc_ldeep : FnScope ["_law_hand_here", "_law_found", "_law_turn"] ["_law_hand_here"] (defScope s_ldeep) := ⟨rfl, rfl, rfl, by decide +kernel, rfl, by decide +kernel, by decide +kernel⟩
theorem sc_lnumber : FnScope ["_law_thing", "_law_least", "_law_most"] ["_law_thing", "_law_least", "_law_most"] (defScope s_lnumber) := ⟨rfl, rfl, rfl, by decide +kernel, rfl, by decide +kernel, by decide +kernel⟩
theorem sc_lisint : FnScope ["_law_thing"] ["_law_thing"] (defScope s_lisint) := ⟨rfl, rfl, rfl, by decide +kernel, rfl, by decide +kernel, by decide +kernel⟩
theorem sc_lvalue : FnScope ["_law_hand_here", "_law_kind"] ["_law_hand_here"] (defScope s_lvalue) := ⟨rfl, rfl, rfl, by decide +kernel, rfl, by decide +kernel, by decide +kernel⟩
theorem sc_lmany : FnScope ["_law_hand_here", "_law_most"] ["_law_hand_here", "_law_most"] (defScope s_lmany) := ⟨rfl, rfl, rfl, by decide +kernel, rfl, by decide +kernel, by decide +kernel⟩
theorem sc_lshuf : FnScope ["_law_hand_here", "_law_many_here", "_law_found", "_law_at", "_law_other"] ["_law_hand_here", "_law_many_here"] (defScope s_lshuf) := ⟨rfl, rfl, rfl, by decide +kernel, rfl, by decide +kernel, by decide +kernel⟩
theorem sc_lhouse : FnScope ["_law_up", "_law_value_here"] ["_law_up", "_law_value_here"] (defScope s_lhouse) := ⟨rfl, rfl, rfl, by decide +kernel, rfl, by decide +kernel, by decide +kernel⟩
theorem sc_lshape : FnScope ["_law_hand_here", "_law_many_here", "_law_order", "_law_found", "_law_house_here", "_law_kind", "_law_at", "_law_mine", "_law_other", "_law_theirs", "_law_side", "_law_row"] ["_law_hand_here", "_law_many_here"] (defScope s_lshape) := ⟨rfl, rfl, rfl, by decide +kernel, rfl, by decide +kernel, by decide +kernel⟩
theorem sc_lisshape : FnScope ["_law_thing", "_law_many_here", "_law_row", "_law_part", "_law_house_here", "_law_left", "_law_right", "_law_son", "_law_here", "_law_turn"] ["_law_thing"] (defScope s_lisshape) := ⟨rfl, rfl, rfl, by decide +kernel, rfl, by decide +kernel, by decide +kernel⟩
theorem sc_lbent7 : FnScope ["_law_hand_here", "_law_shape_here", "_law_house_here", "_law_row", "_law_kind", "_law_odd", "_law_other", "_law_at", "_law_many_here"] ["_law_hand_here", "_law_shape_here"] (defScope s_lbent7) := ⟨rfl, rfl, rfl, by decide +kernel, rfl, by decide +kernel, by decide +kernel⟩
theorem sc_law : FnScope ["_law_script", "_law_hand_here", "_law_shape_here", "_law_turn", "_law_thing"] ["_law_script"] (defScope s_law) := ⟨rfl, rfl, rfl, by decide +kernel, rfl, by decide +kernel, by decide +kernel⟩
structure Txt (K : PySem.W.Frag) (mg : Str → Option Value) : Prop where
  n_len : mg "len" = none
  n_isinstance : mg "isinstance" = none
  n_int : mg "int" = none
  n_bool : mg "bool" = none
  n_tuple : mg "tuple" = none
  n_list : mg "list" = none
  n_range : mg "range" = none
  n_all : mg "all" = none
  n_min : mg "min" = none
  n_zip : mg "zip" = none
  c_MOST_HOUSES : ∃ t, mg "MOST_HOUSES" = some (.int 64 t)
end W2
namespace W2
open PySem PySem.Spec PyProof.Rows L2
section
variable {P : Program} {w : World} {K : PySem.W.Frag} {mg : Str → Option Value} {base : Heap} {CS : List Addr}
theorem ok_isint (D : Def K mg "is_integer" s_isint ["thing"]) (T : Txt K mg)  (FC : Env K CS) : Cal P w K mg base 1 "is_integer" ["thing"] (spIsInt CS) := by
  refine D.cal sc_isint (fun vs H Q E h => ?_) (fun f cdv A outer s H vs Q E hr h => ?_)
  · obtain ⟨x, rfl, _⟩ := h
    rfl
  · obtain ⟨x, rfl, a, k⟩ := h
    obtain ⟨t, ty, k1⟩ := any_int FC.ow a
    obtain ⟨t2, ty2, k2⟩ := any_bool FC.ow a
    refine ⟨_, (pss_one (ps_ret (pe_and (pe_callB (call_isiK1 (K := K) rfl) (by rfl) T.n_isinstance (by decide +kernel) (pa_cons (pv 0) (pa_cons (pe_bltn (v := .ty "int") (by rfl) T.n_int (by decide +kernel) rfl) pa_nil))) (pe_one (pe_not (pe_callB (call_isiK1 (K := K) rfl) (by rfl) T.n_isinstance (by decide +kernel) (pa_cons (pv 0) (pa_cons (pe_bltn (v := .ty "bool") (by rfl) T.n_bool (by decide +kernel) rfl) pa_nil)))))))), ?_⟩
    refine ⟨_, rfl, _, _, _, _, _, rfl, .ty _, ty, k1, _, rfl, iteB (fun e => ?_) (fun e => ?_)⟩
    · refine ⟨_, rfl, _, _, _, _, _, rfl, .ty _, ty2, k2, _, rfl, ?_⟩
      have e2 : (!isB x) = isI x := by cases x <;> first | rfl | cases e
      rw [e2]
      exact k _ (L2.Same.refl _)
    · have e2 : isI x = false := by cases x <;> first | rfl | cases e
      have r := k _ (L2.Same.refl _)
      rw [e2] at r
      exact r

end
end W2
namespace W2
open PySem PySem.Spec PyProof.Rows L2
section
variable {P : Program} {w : World} {K : PySem.W.Frag} {mg : Str → Option Value} {base : Heap} {CS : List Addr}
theorem ok_come (D : Def K mg "come_to_roots" s_come ["parents"]) (T : Txt K mg)  : Cal P w K mg base 1 "come_to_roots" ["parents"] spCome := by
  refine D.cal sc_come (fun vs H Q E h => ?_) (fun f cdv A outer s H vs Q E hr h => ?_)
  · obtain ⟨a, ps, rfl, _⟩ := h
    rfl
  · obtain ⟨a, ps, rfl, hA, IR, hz, kT, kF⟩ := h
    refine ⟨_, (pss_cons (ps_setLc (i := 1) (own := [("parent", 2)]) (g := gName 2) (tt := tYes) (by rfl) sc_come.nd rfl rfl (sw_true rfl rfl rfl (by decide +kernel)) (pi_tup (pv 0)) (blkOk_by (own := [("parent", 2)]) (N := ["parents", "sure", "parent", "house", "line", "at", "passed"]) (sc := defScope s_come) (by decide +kernel)) (fun _ _ _ _ _ => pg_name (i := 2) sc_come.nd rfl (Or.inl rfl)) (fun _ _ _ _ _ => pts_nil) (fun _ _ _ _ _ => (pe_cmpR op_isN (pv 2) pe_non (nomark _))))
      (pss_cons (ps_for PassesOwn.never rfl (pi_range1 rfl T.n_range (pa_cons (pe_callB (call_lenK (K := K) rfl) (by rfl) T.n_len PySem.boot_len (pa_cons (pv 0) pa_nil)) pa_nil)) (pg_name (i := 3) sc_come.nd rfl (Or.inl rfl)) (pss_cons (ps_set (i := 4) sc_come.nd rfl (Or.inl rfl) (pe_lst pa_nil))
      (pss_cons (ps_set (i := 5) sc_come.nd rfl (Or.inl rfl) (pv 3))
      (pss_cons (ps_while PassesOwn.never (pt_not (pt_val (pe_ix (ix_listK (K := K) rfl) (pv 1) (pv 5) (fun _ _ => rfl)))) (pss_cons (ps_if (pt_cmpR op_eq (pe_callB (call_lenK (K := K) rfl) (by rfl) T.n_len PySem.boot_len (pa_cons (pv 4) pa_nil)) (pe_callB (call_lenK (K := K) rfl) (by rfl) T.n_len PySem.boot_len (pa_cons (pv 0) pa_nil)) (nomark _)) (pss_one (ps_ret pe_bl)) pss_nil)
      (pss_cons (ps_expr (pe_bm PySem.F.plainAttrs_list PySem.F.slot_list_append PySem.F.type_list_append mt_append (pv 4) (pa_cons (pv 5) pa_nil)))
      (pss_one (ps_set (i := 5) sc_come.nd rfl (Or.inl rfl) (pe_ix (ix_tupK (K := K) rfl) (pv 0) (pv 5) (fun _ _ => rfl)))))))
      (pss_one (ps_for PassesOwn.never rfl (pi_list (pv 4)) (pg_name (i := 6) sc_come.nd rfl (Or.inl rfl)) (pss_one (ps_asg pe_bl (pg_sub (pv 1) (pv 6) set_list)))))))))
      (pss_one (ps_ret pe_bl)))), ?_⟩
    -- sure = [parent is None for parent in parents]
    refine ⟨_, rfl, a, rfl, ⟨_, SqT.of hA⟩, fun D hD => ?_⟩
    refine lc_tup (xs := ps.map ov) (fun i H' => L2.Same H H' ∧ H' D = some (.lst (((ps.take i).map Option.isNone).map V.bl))) ⟨same_upd hD, by rw [upd_same]; rfl⟩ (fun i H' _ p => SqT.of (p.1 _ _ hA)) ?_ ?_
    · rintro i x H' hx ⟨sm, hd⟩
      rw [List.getElem?_map] at hx
      cases ho : ps[i]? with
      | none => rw [ho] at hx; cases hx
      | some o =>
        rw [ho] at hx
        have ex : x = ov o := (Option.some.inj hx).symm
        subst ex
        have hi := (List.getElem?_eq_some_iff.mp ho).1
        refine ⟨rfl, _, rfl, rfl, _, hd, ?_, Same.upd sm hD, ?_⟩
        · rw [List.length_map, List.length_map, List.length_take]
          exact smalls (by omega)
        · rw [upd_same, List.take_add_one, ho]
          cases o <;> simp [ov]
    rintro H1 ⟨s1, hd1⟩
    rw [List.length_map, List.take_length] at hd1
    have hA1 := s1 _ _ hA
    -- for house in range(len(parents))
    refine ⟨_, rfl, a, _, rfl, .inr (SqT.of hA1), _, rfl, by omega, by rw [List.length_map]; omega, ?_⟩
    rw [List.length_map, Int.toNat_natCast]
    refine for_range (lo := 0) (n := ps.length) (fun i σ H' => ∃ (v2 v3 v4 v5 v6 : Option V) (bs : List Bool), σ = [some (.ref a), some (.ref D), v2, v3, v4, v5, v6] ∧ L2.Same H H' ∧ H' D = some (.lst (bs.map V.bl)) ∧ bs.length = ps.length ∧ (∀ h : Nat, ps[h]? = some none → bs[h]? = some true) ∧
        (∀ h : Nat, bs[h]? = some true → ∃ l, Ch ps h l) ∧ ∀ h, h < i → ∃ l, Ch ps h l)
      ⟨none, none, none, none, none, ps.map Option.isNone, rfl, s1, hd1, List.length_map _, fun h e => by rw [List.getElem?_map, e]; rfl, fun h e => ?_, fun h hh => by omega⟩ ?_ ?_
    · rw [List.getElem?_map] at e
      cases q : ps[h]? with
      | none => rw [q] at e; cases e
      | some o =>
        rw [q] at e
        cases o with
        | none => exact ⟨_, .root q⟩
        | some p => cases e
    · rintro h σ H2 hh ⟨v2, v3, v4, v5, v6, bs, rfl, s2, hd2, hb, hr0, hr1, done⟩
      have hA2 := s2 _ _ hA
      rw [Int.zero_add]
      -- line = []; at = house
      refine ⟨Nat.zero_le _, fun l hl => ⟨_, rfl, ?_⟩⟩
      have nDl : D ≠ l := ne_of_none hd2 hl
      by_cases hc : ∃ l, Ch ps h l
      · obtain ⟨lc, ch⟩ := hc
        have cz := ch.len
        obtain ⟨rest, eh⟩ := ch.head
        refine ⟨fun m σ H' => ∃ (j x : Nat), σ = [some (.ref a), some (.ref D), v2, some (nv h), some (.ref l), some (nv x), v6] ∧ lc[j]? = some x ∧ m = lc.length - j ∧ H' l = some (.lst ((lc.take j).map nv)) ∧ L2.Same H2 H',
          ⟨_, 0, h, rfl, by rw [eh]; rfl, rfl, upd_same, same_upd hl⟩, ?_⟩
        rintro m σ H3 ⟨j, x, rfl, hx, rfl, hL, s3⟩
        have hj := (List.getElem?_eq_some_iff.mp hx).1
        have hxl : x < ps.length := ch.lt x (List.mem_of_getElem? hx)
        have hd3 := s3 _ _ hd2
        have hA3 := s3 _ _ hA2
        have hxb : x < bs.length := by omega
        have hbx : bs[x]? = some bs[x] := List.getElem?_eq_getElem hxb
        generalize bs[x] = b0 at hbx
        have hv : (bs.map V.bl)[x]? = some (.bl b0) := by rw [List.getElem?_map, hbx]; rfl
        refine ⟨_, rfl, _, rfl, D, _, _, _, rfl, rfl, SqL.of hd3, atI_nat hv, b0, rfl, iteB (fun nb => ?_) (fun nb => ?_)⟩
        · -- a step up
          have eb : b0 = false := by cases b0 <;> simp_all
          subst eb
          rcases ch.next hx with ⟨e0, _⟩ | ⟨y, e0, e1⟩
          · rw [hr0 x e0] at hbx; cases hbx
          · refine ⟨_, fun σ' H' n => n, ?_⟩
            refine ⟨_, rfl, l, _, rfl, .inl (SqL.of hL), _, rfl, a, _, rfl, .inr (SqT.of hA3), rfl, _, rfl, iteB (fun e => ?_) (fun _ => ?_)⟩
            · exfalso
              have e2 := of_decide_eq_true e
              have e3 : (((lc.take j).map nv).length : Int) = ((ps.map ov).length : Int) := V.int.inj e2
              rw [List.length_map, List.length_map, List.length_take] at e3
              omega
            · refine ⟨_, rfl, .inl ⟨rfl, _, SqL.of hL⟩, _, rfl, l, _, _, rfl, rfl, hL, ?_, ?_⟩
              · rw [List.length_map, List.length_take]
                exact smalls (by omega)
              · have hvp : (ps.map ov)[x]? = some (nv y) := by rw [List.getElem?_map, e0]; rfl
                have nal : a ≠ l := ne_of_none hA2 hl
                refine ⟨_, rfl, _, rfl, a, _, _, _, rfl, rfl, SqT.of (by rw [upd_ne nal]; exact hA3), atI_nat hvp, _, Nat.sub_lt_sub_left hj (Nat.lt_succ_self j), j + 1, y, rfl, e1, rfl, ?_, Same.upd s3 hl⟩
                rw [upd_same, List.take_add_one, hx, List.map_append]
                rfl
        · -- for passed in line: sure[passed] = True
          refine ⟨_, rfl, l, rfl, ⟨_, SqL.of hL⟩, ?_⟩
          refine for_list (K := K) (a := l) (xs := (lc.take j).map nv) (fun i σ H' => ∃ (v6 : Option V) (bs : List Bool), σ = [some (.ref a), some (.ref D), v2, some (nv h), some (.ref l), some (nv x), v6] ∧ L2.Same H H' ∧ H' l = some (.lst ((lc.take j).map nv)) ∧ H' D = some (.lst (bs.map V.bl)) ∧ bs.length = ps.length ∧ (∀ h : Nat, ps[h]? = some none → bs[h]? = some true) ∧ ∀ h : Nat, bs[h]? = some true → ∃ l, Ch ps h l)
            ⟨v6, bs, rfl, s2.trans s3, hL, hd3, hb, hr0, hr1⟩ (fun i σ H' _ ⟨_, _, _, _, q, _⟩ => SqL.of q) ?_ ?_
          · rintro i y σ H4 hy ⟨v6, bs, rfl, s4, hL4, hd4, hb4, hr4, hr5⟩
            rw [List.getElem?_map] at hy
            cases hy2 : (lc.take j)[i]? with
            | none => rw [hy2] at hy; cases hy
            | some z =>
              rw [hy2] at hy
              have ez : y = nv z := (Option.some.inj hy).symm
              subst ez
              have hzm : z ∈ lc := List.mem_of_mem_take (List.mem_of_getElem? hy2)
              have hzl : z < ps.length := ch.lt z hzm
              refine ⟨_, rfl, _, rfl, D, _, _, _, rfl, rfl, hd4, ixN_nat (by rw [List.length_map]; omega), ?_⟩
              refine ⟨_, bs.set z true, rfl, Same.upd s4 hD, by rw [upd_ne nDl.symm]; exact hL4, by rw [upd_same, List.map_set], by rw [List.length_set]; exact hb4, fun g e => ?_, fun g e => ?_⟩
              · by_cases eg : z = g
                · subst eg
                  rw [List.getElem?_set_self (by omega)]
                · rw [List.getElem?_set_ne eg]
                  exact hr4 g e
              · by_cases eg : z = g
                · subst eg
                  obtain ⟨pre, post, e2⟩ := List.append_of_mem hzm
                  rw [e2] at ch
                  exact ⟨_, Ch.tail ch⟩
                · rw [List.getElem?_set_ne eg] at e
                  exact hr5 g e
          · rintro σ H4 ⟨v6, bs, rfl, s4, hL4, hd4, hb4, hr4, hr5⟩
            refine ⟨_, _, _, _, _, bs, rfl, s4, hd4, hb4, hr4, hr5, fun g hg => ?_⟩
            by_cases eg : g = h
            · subst eg
              exact ⟨_, ch⟩
            · exact done g (by omega)
      · -- round and round
        refine ⟨fun m σ H' => ∃ (x : Nat) (line : List Nat), σ = [some (.ref a), some (.ref D), v2, some (nv h), some (.ref l), some (nv x), v6] ∧ x < ps.length ∧ (¬ ∃ l, Ch ps x l) ∧ m = ps.length - line.length ∧ line.length ≤ ps.length ∧ H' l = some (.lst (line.map nv)) ∧ L2.Same H2 H',
          ⟨_, h, [], rfl, hh, hc, rfl, Nat.zero_le _, upd_same, same_upd hl⟩, ?_⟩
        rintro m σ H3 ⟨x, line, rfl, hxl, nx, rfl, hll, hL, s3⟩
        have hd3 := s3 _ _ hd2
        have hA3 := s3 _ _ hA2
        have hxb : x < bs.length := by omega
        have hbx : bs[x]? = some bs[x] := List.getElem?_eq_getElem hxb
        generalize bs[x] = b0 at hbx
        have hv : (bs.map V.bl)[x]? = some (.bl b0) := by rw [List.getElem?_map, hbx]; rfl
        have eb : b0 = false := by
          cases b0 with
          | false => rfl
          | true => exact absurd (hr1 x hbx) nx
        subst eb
        refine ⟨_, rfl, _, rfl, D, _, _, _, rfl, rfl, SqL.of hd3, atI_nat hv, false, rfl, iteT ?_⟩
        refine ⟨_, fun σ' H' n => n, ?_⟩
        obtain ⟨y, e0, hy, ny⟩ := no_next IR hxl nx
        refine ⟨_, rfl, l, _, rfl, .inl (SqL.of hL), _, rfl, a, _, rfl, .inr (SqT.of hA3), rfl, _, rfl, iteB (fun e => ?_) (fun e => ?_)⟩
        · exact kF (fun t => hc ⟨_, (t h hh).1⟩) _ (s2.trans s3)
        · have hlt : line.length < ps.length := by
            have e2 := of_decide_eq_false e
            by_cases q : line.length = ps.length
            · exact absurd (by rw [List.length_map, List.length_map, q]) e2
            · omega
          refine ⟨_, rfl, .inl ⟨rfl, _, SqL.of hL⟩, _, rfl, l, _, _, rfl, rfl, hL, ?_, ?_⟩
          · rw [List.length_map]
            exact smalls (by omega)
          · have hvp : (ps.map ov)[x]? = some (nv y) := by rw [List.getElem?_map, e0]; rfl
            have nal : a ≠ l := ne_of_none hA2 hl
            refine ⟨_, rfl, _, rfl, a, _, _, _, rfl, rfl, SqT.of (by rw [upd_ne nal]; exact hA3), atI_nat hvp, _, Nat.sub_lt_sub_left hlt (Nat.lt_succ_self _), y, line ++ [x], rfl, hy, ny, by rw [List.length_append]; rfl, by rw [List.length_append]; exact hlt, ?_, Same.upd s3 hl⟩
            rw [upd_same, List.map_append]
            rfl
    · rintro σ H2 ⟨v2, v3, v4, v5, v6, bs, rfl, s2, _, _, _, _, done⟩
      exact kT (tree_iff.mpr done) _ s2

end
end W2
namespace W2
open PySem PySem.Spec PyProof.Rows L2
section
variable {P : Program} {w : World} {K : PySem.W.Frag} {mg : Str → Option Value} {base : Heap} {CS : List Addr}
theorem ok_hassons (D : Def K mg "_has_its_sons" s_hassons ["parts", "house"]) (T : Txt K mg)  : Cal P w K mg base 1 "_has_its_sons" ["parts", "house"] (spHasSons CS) := by
  refine D.cal sc_hassons (fun vs H Q E h => ?_) (fun f cdv A outer s H vs Q E hr h => ?_)
  · obtain ⟨a, s, h, rfl, _⟩ := h
    rfl
  · obtain ⟨a, s, h, rfl, sh, n64, pin, hh, k⟩ := h
    refine ⟨_, (pss_cons (ps_setLc (i := 2) (own := [("son", 3)]) (g := gName 3) (by rfl) sc_hassons.nd rfl rfl (sw_true rfl rfl rfl (by decide +kernel)) (pi_tup (pe_slice (sl_tupAK (K := K) rfl) (pe_ix (ix_tupK (K := K) rfl) (pv 0) (pv 1) (fun _ _ => rfl)) (po_some pe_int) (po_some pe_int))) (blkOk_by (own := [("son", 3)]) (N := ["parts", "house", "sons", "son"]) (sc := defScope s_hassons) (by decide +kernel)) (fun _ _ _ _ _ => pg_name (i := 3) sc_hassons.nd rfl (Or.inl rfl)) (fun _ _ _ _ _ => pts_one (pt_cmpR op_notN (pv 3) pe_non (nomark _))) (fun _ _ _ _ _ => (pv 3)))
      (pss_cons (ps_if (PW.pt (pw_and (pt_cmpR op_eq (pe_callB (call_lenK (K := K) rfl) (by rfl) T.n_len PySem.boot_len (pa_cons (pv 2) pa_nil)) pe_int (nomark _)) (pw_and1 (pt_cmpR op_eq (pe_ix (ix_listK (K := K) rfl) (pv 2) pe_int (fun _ _ => rfl)) (pe_ix (ix_listK (K := K) rfl) (pv 2) pe_int (fun _ _ => rfl)) (nomark _))))) (pss_one (ps_ret pe_bl)) pss_nil)
      (pss_one (ps_ret (pe_callB (cr_all rfl) (by rfl) T.n_all (by decide +kernel) (pa_cons (pe_lc (own := [("son", 3)]) (g := gName 3) (tt := tYes) (by rfl) sc_hassons.nd (pi_list (pv 2)) (blkOk_by (own := [("son", 3)]) (N := ["parts", "house", "sons", "son"]) (sc := defScope s_hassons) (by decide +kernel)) (fun _ _ _ _ _ => pg_name (i := 3) sc_hassons.nd rfl (Or.inl rfl)) (fun _ _ _ _ _ => pts_nil) (fun _ _ _ _ _ => (pe_cmpR op_eq (pe_ix (ix_tupK (K := K) rfl) (pe_ix (ix_tupK (K := K) rfl) (pv 0) (pv 3) (fun _ _ => rfl)) pe_int (fun _ _ => rfl)) (pv 1) (nomark _)))) pa_nil)))))), ?_⟩
    obtain ⟨xs, hA, lx, hat⟩ := sha_at sh
    have hp : s[h]? = some s[h] := List.getElem?_eq_getElem hh
    generalize s[h] = p at hp
    rw [dec_congr (sok_iff hp)] at k
    obtain ⟨b, hb, hB⟩ := hat h p hp
    refine ⟨_, rfl, _, rfl, a, _, _, _, rfl, rfl, SqT.of hA, atI_nat hb, _, rfl, _, rfl, ?_⟩
    show rSlA K (V.ref b) (some 1) (some 3) H _
    refine slA_of hB fun t H1 s1 et => ?_
    rw [show cutV (vPart p) (some 1) (some 3) = [ov p.left, ov p.right] from rfl] at et
    refine ⟨t, rfl, ⟨_, SqT.of et⟩, lcT (fun i => ([ov p.left, ov p.right][i]?).bind fun x => if x = .non then none else some x) et (show 2 < 100000 by decide) (fun i x H2 hx s2 Y N kY kN => ⟨rfl, _, rfl, rfl, _, rfl, iteB (fun e => ?_) (fun e => ?_)⟩) (fun D H2 s2 nD hD => ?_)⟩
    · have e' : x ≠ .non := fun z => by
        rw [z] at e
        exact nft e
      exact ⟨_, rfl, kY _ _ (by show Option.bind [ov p.left, ov p.right][i]? _ = _; rw [hx]; exact if_neg e') (L2.Same.refl _)⟩
    · have e' : x = .non := of_decide_eq_true (by simpa using e)
      exact kN _ (by show Option.bind [ov p.left, ov p.right][i]? _ = _; rw [hx]; exact if_pos e') (L2.Same.refl _)
    have e3 : fm 2 (fun i => ([ov p.left, ov p.right][i]?).bind fun x => if x = V.non then none else some x) = (so p).map nv := by
      unfold so
      cases p.left <;> cases p.right <;> rfl
    rw [show [ov p.left, ov p.right].length = 2 from rfl, e3] at hD
    have s12 := s1.trans s2
    -- all sons' ups
    have fin : ∀ H3, L2.Same H H3 → H3 D = some (.lst ((so p).map nv)) → (∀ q, p.left = some q → p.right ≠ some q) → tRet (tCB (rAll K) (tCons (tLc (iList K (tVar 2)) (gName 3) tYes (tOp rEq (tOp (rIxT K) (tOp (rIxT K) (tVar 0) (tVar 3)) (tC (.int 0))) (tVar 1)) [3]) tNil)) { nx := fun _ H' => Q V.non H', rt := Q } [some (.ref a), some (nv h), some (.ref D), none] H3 := by
      intro H3 s3 hD3 ne
      refine ⟨_, rfl, D, rfl, ⟨_, SqL.of hD3⟩, lcL (fun i => ((so p)[i]?).map fun q => .bl (upIs s h q)) hD3 (by rw [List.length_map]; unfold so; cases p.left <;> cases p.right <;> simp) (fun i x H4 hx s4 Y N kY kN => ?_) (fun D2 H4 s4 nD2 hD2 => ?_)⟩
      · rw [List.getElem?_map] at hx
        cases hq : (so p)[i]? with
        | none => rw [hq] at hx; cases hx
        | some q =>
          rw [hq] at hx
          cases hx
          have hqs : q < s.length := so_in hp pin (List.mem_of_getElem? hq)
          have ep : s[q]? = some s[q] := List.getElem?_eq_getElem hqs
          generalize s[q] = pq at ep
          obtain ⟨c, hc, hC⟩ := hat q pq ep
          have s34 := s3.trans s4
          refine ⟨rfl, _, rfl, _, rfl, a, _, _, _, rfl, rfl, SqT.of (s34 _ _ hA), atI_nat hc, c, _, _, _, rfl, rfl, SqT.of (s34 _ _ hC), rfl, _, rfl, ?_, kY _ _ ?_ (L2.Same.refl _)⟩
          · show scal (ov pq.up) (.int (h : Int)) = true
            cases pq.up <;> rfl
          · show Option.map _ (so p)[i]? = _
            rw [hq]
            show some (V.bl (upIs s h q)) = some (V.bl (decide (ov pq.up = V.int (h : Int))))
            unfold upIs
            rw [ep]
            congr 2
            rw [decide_eq_decide]
            exact ⟨fun z => by rw [show pq.up = some h from z]; rfl, fun z => ov_inj (b := some h) z⟩
      · have e4 : fm ((so p).map nv).length (fun i => ((so p)[i]?).map fun q => V.bl (upIs s h q)) = ((so p).map fun q => upIs s h q).map V.bl := by
          rw [List.length_map, List.map_map]
          refine fm_all (by rw [List.length_map]) fun i _ => ?_
          rw [List.getElem?_map]
          rfl
        rw [e4] at hD2
        refine ⟨D2, _, rfl, SqL.of hD2, ret_dec k ?_ _ (s3.trans s4)⟩
        rw [List.all_map, List.all_eq_true]
        exact ⟨fun z => ⟨ne, z⟩, fun z => z.2⟩
    refine ⟨_, rfl, D, _, rfl, .inl (SqL.of hD), rfl, _, rfl, iteB (fun e => ?_) (fun e => ?_)⟩
    · obtain ⟨l, r, hl, hr2⟩ : ∃ l r, p.left = some l ∧ p.right = some r := by
        have e5 := V.int.inj (of_decide_eq_true e)
        rw [List.length_map] at e5
        unfold so at e5
        cases q1 : p.left <;> cases q2 : p.right <;> rw [q1, q2] at e5
        · simp at e5
        · simp at e5
        · simp at e5
        · exact ⟨_, _, rfl, rfl⟩
      have e6 : (so p).map nv = [nv l, nv r] := by
        unfold so
        rw [hl, hr2]
        rfl
      rw [e6] at hD
      refine ⟨_, rfl, D, _, _, _, rfl, rfl, SqL.of hD, rfl, _, rfl, D, _, _, _, rfl, rfl, SqL.of hD, rfl, rfl, _, rfl, iteB (fun e7 => ?_) (fun e7 => ?_)⟩
      · have e8 : l = r := by
          have := V.int.inj (of_decide_eq_true e7)
          omega
        exact ret_f k (fun z => z.1 l hl (by rw [e8]; exact hr2)) _ s12
      · have e8 : l ≠ r := fun z => by
          subst z
          exact of_decide_eq_false e7 rfl
        refine fin _ s12 (by rw [e6]; exact hD) fun q hq1 hq2 => ?_
        rw [hl] at hq1
        rw [hr2] at hq2
        cases hq1
        cases hq2
        exact e8 rfl
    · refine fin _ s12 hD fun q hq1 hq2 => ?_
      refine of_decide_eq_false e ?_
      rw [List.length_map]
      unfold so
      rw [hq1, hq2]
      rfl

end
end W2
namespace W2
open PySem PySem.Spec PyProof.Rows L2
section
variable {P : Program} {w : World} {K : PySem.W.Frag} {mg : Str → Option Value} {base : Heap} {CS : List Addr}
theorem ok_lhandI (D : Def K mg "_law_hand" s_lhandI ["_law_script"]) (T : Txt K mg)  : Cal P w K mg base 1 "_law_hand" ["_law_script"] (spHand K) := by
  refine D.cal sc_lhandI (fun vs H Q E h => ?_) (fun f cdv A outer s H vs Q E hr h => ?_)
  · obtain ⟨s0, ns, rfl, _⟩ := h
    rfl
  · obtain ⟨s0, ns, rfl, hS, hz, k⟩ := h
    refine ⟨_, (pss_one (ps_ret (pe_lst (pa_cons (pe_lc (own := [("_law_cell", 1)]) (g := gName 1) (tt := tYes) (by rfl) sc_lhandI.nd (pi_list (pe_slice (sl_listK (K := K) rfl) (pv 0) po_none (po_some pe_int))) (blkOk_by (own := [("_law_cell", 1)]) (N := ["_law_script", "_law_cell"]) (sc := defScope s_lhandI) (by decide +kernel)) (fun _ _ _ _ _ => pg_name (i := 1) sc_lhandI.nd rfl (Or.inl rfl)) (fun _ _ _ _ _ => pts_nil) (fun _ _ _ _ _ => (pe_callTy call_int1 (by rfl) T.n_int (by decide +kernel) (pa_cons (pv 1) pa_nil)))) (pa_cons pe_int (pa_cons pe_int (pa_cons (pe_op op_add pe_int (pe_callB (call_lenK (K := K) rfl) (by rfl) T.n_len PySem.boot_len (pa_cons (pe_slice (sl_listK (K := K) rfl) (pv 0) po_none (po_some pe_int)) pa_nil))) (pa_cons pe_int pa_nil)))))))), ?_⟩
    unfold tNoPart
    have e1 : cutV (ns.map V.int) none (some 63) = ns.map V.int := cut_le (ns.map V.int) 63 (by rw [List.length_map]; exact hz)
    refine ⟨_, rfl, 63, rfl, ?_⟩
    show rSlL K (V.ref s0) none (some 63) H _
    refine ⟨s0, _, rfl, hS, fun c hc => ?_⟩
    rw [e1]
    have s1 := same_upd (o := .lst (ns.map V.int)) hc
    have ec : (L2.upd H c (.lst (ns.map V.int))) c = some (.lst (ns.map V.int)) := upd_same
    generalize L2.upd H c (.lst (ns.map V.int)) = H1 at s1 ec
    refine ⟨c, rfl, ⟨_, SqL.of ec⟩, lcL (fun i => (ns[i]?).map V.int) ec (by rw [List.length_map]; omega) (fun i x H2 hx s2 Y N kY kN => ?_) (fun D H2 s2 nD hD => ?_)⟩
    · rw [List.getElem?_map] at hx
      cases ho : ns[i]? with
      | none => rw [ho] at hx; cases hx
      | some o =>
        rw [ho] at hx
        cases hx
        exact ⟨rfl, _, rfl, .inl ⟨o, rfl, kY _ _ (by show Option.map _ ns[i]? = _; rw [ho]; rfl) (L2.Same.refl _)⟩⟩
    have e2 : fm (ns.map V.int).length (fun i => (ns[i]?).map V.int) = ns.map V.int := by
      refine fm_all rfl fun i _ => ?_
      rw [List.getElem?_map]
    rw [e2] at hD
    have s12 := s1.trans s2
    refine ⟨_, rfl, 63, rfl, ?_⟩
    show rSlL K (V.ref s0) none (some 63) H2 _
    refine ⟨s0, _, rfl, s12.seq hS, fun c2 hc2 => ?_⟩
    rw [e1]
    refine ⟨c2, _, rfl, .inl (SqL.of upd_same), _, _, rfl, rfl, small (by show 5 ≤ 100000; decide), fun p hp => ?_⟩
    have s3 := s12.trans (same_upd (o := .lst (ns.map V.int)) hc2)
    have hD3 : (L2.upd H2 c2 (.lst (ns.map V.int))) D = some (.lst (ns.map V.int)) := ugetF hc2 hD
    have npD : p ≠ D := fun z => by rw [z, hD3] at hp; cases hp
    refine k _ p D (s3.trans (same_upd hp)) (s3.free hp) ⟨ns, 0, 0, _, 0, upd_same, by rw [upd_ne npD.symm]; exact hD3, by decide, by decide, ?_, ?_⟩
    · rw [List.length_map]; omega
    · rw [List.length_map]; omega

end
end W2
namespace W2
open PySem PySem.Spec PyProof.Rows L2
section
variable {P : Program} {w : World} {K : PySem.W.Frag} {mg : Str → Option Value} {base : Heap} {CS : List Addr}
theorem ok_take16 (D : Def K mg "_law_draw" s_take16 ["_law_hand_here", "_law_many_here"]) (T : Txt K mg)  : Cal P w K mg base 1 "_law_draw" ["_law_hand_here", "_law_many_here"] spTake := by
  refine D.cal sc_take16 (fun vs H Q E h => ?_) (fun f cdv A outer s H vs Q E hr h => ?_)
  · obtain ⟨h, l, n, rfl, _⟩ := h
    rfl
  · obtain ⟨h, l, n, rfl, HH, n0, n1, k0⟩ := h
    have k : ∀ H' r, Bt h H H' → Hand H' h l → 0 ≤ r → r < n → Q (.int r) H' := fun H' r b hh r0 r1 => by
      obtain ⟨z, rfl⟩ : ∃ z : Nat, r = (z : Int) := ⟨r.toNat, by omega⟩
      exact k0 H' z b hh r1
    refine ⟨_, (C8.pss_cut (ps_if (PW.pt (pw_and (pt_cmpR op_eq (pe_ix (ix_listK (K := K) rfl) (pv 0) pe_int (fun _ _ => rfl)) pe_int (nomark _)) (pw_and1 (pt_cmpR op_lt (pe_ix (ix_listK (K := K) rfl) (pv 0) pe_int (fun _ _ => rfl)) (pe_callB (call_lenK (K := K) rfl) (by rfl) T.n_len PySem.boot_len (pa_cons (pe_ix (ix_listK (K := K) rfl) (pv 0) pe_int (fun _ _ => rfl)) pa_nil)) (nomark _))))) (pss_cons (ps_set (i := 2) sc_take16.nd rfl (Or.inl rfl) (pe_ix (ix_listK (K := K) rfl) (pe_ix (ix_listK (K := K) rfl) (pv 0) pe_int (fun _ _ => rfl)) (pe_ix (ix_listK (K := K) rfl) (pv 0) pe_int (fun _ _ => rfl)) (fun _ _ => rfl)))
      (pss_cons (ps_asg (pe_op op_add (pe_ix (ix_listK (K := K) rfl) (pv 0) pe_int (fun _ _ => rfl)) pe_int) (pg_sub (pv 0) pe_int set_list))
      (pss_cons (ps_asg (pe_op op_mod (pe_callTy call_int1 (by rfl) T.n_int (by decide +kernel) (pa_cons (pe_op op_add (pe_op op_add (pe_op op_mul (pe_ix (ix_listK (K := K) rfl) (pv 0) pe_int (fun _ _ => rfl)) pe_int) (pe_op op_mul (pv 2) pe_int)) pe_int) pa_nil)) pe_int) (pg_sub (pv 0) pe_int set_list))
      (pss_one (ps_if (pt_cmpR op_ge (pv 2) (pe_op op_pow pe_int pe_int) (nomark _)) (pss_one (ps_asg (pv 2) (pg_sub (pv 0) pe_int set_list))) pss_nil))))) pss_nil)
      (pss_cons (ps_if (pt_cmpR op_gt (pe_ix (ix_listK (K := K) rfl) (pv 0) pe_int (fun _ _ => rfl)) pe_int (nomark _)) (pss_cons (ps_set (i := 3) sc_take16.nd rfl (Or.inl rfl) (pe_op op_mod (pe_callTy call_int1 (by rfl) T.n_int (by decide +kernel) (pa_cons (pe_ix (ix_listK (K := K) rfl) (pv 0) pe_int (fun _ _ => rfl)) pa_nil)) (pv 1)))
      (pss_cons (ps_asg (pe_op op_fdivW (pe_ix (ix_listK (K := K) rfl) (pv 0) pe_int (fun _ _ => rfl)) (pv 1)) (pg_sub (pv 0) pe_int set_list))
      (pss_one (ps_ret (pv 3))))) pss_nil)
      (pss_cons (ps_asg (pe_op op_add (pe_ix (ix_listK (K := K) rfl) (pv 0) pe_int (fun _ _ => rfl)) pe_int) (pg_sub (pv 0) pe_int set_list))
      (pss_cons (ps_set (i := 4) sc_take16.nd rfl (Or.inl rfl) (pe_op op_mod (pe_callTy call_int1 (by rfl) T.n_int (by decide +kernel) (pa_cons (pe_op op_mul (pe_callTy call_int1 (by rfl) T.n_int (by decide +kernel) (pa_cons (pe_op op_add (pe_ix (ix_listK (K := K) rfl) (pv 0) pe_int (fun _ _ => rfl)) (pe_op op_mul pe_int (pe_ix (ix_listK (K := K) rfl) (pv 0) pe_int (fun _ _ => rfl)))) pa_nil)) pe_int) pa_nil)) pe_int))
      (pss_cons (ps_set (i := 4) sc_take16.nd rfl (Or.inl rfl) (pe_op op_mod (pe_callTy call_int1 (by rfl) T.n_int (by decide +kernel) (pa_cons (pe_op op_mul (pv 4) (pe_op op_add (pe_op op_fdivW (pv 4) pe_int) pe_int)) pa_nil)) pe_int))
      (pss_cons (ps_set (i := 4) sc_take16.nd rfl (Or.inl rfl) (pe_op op_mod (pe_callTy call_int1 (by rfl) T.n_int (by decide +kernel) (pa_cons (pe_op op_mul (pv 4) (pe_op op_add (pe_op op_fdivW (pv 4) pe_int) pe_int)) pa_nil)) pe_int))
      (pss_one (ps_ret (pe_op op_mod (pe_callTy call_int1 (by rfl) T.n_int (by decide +kernel) (pa_cons (pe_op op_fdivW (pv 4) pe_int) pa_nil)) (pv 1)))))))))), ?_⟩
    obtain ⟨ns, i, b, sd, c, X⟩ := HH
    have hO := X.o
    have nl : l ≠ h := by
      intro z
      subst z
      have e := hO.symm.trans X.n
      cases ns with
      | nil => cases e
      | cons z r => cases e
    have i0 := X.i0
    have b0 := X.b0
    have s0 := X.s0
    have s1 := X.s1
    -- the first if
    refine ⟨fun σ H' => ∃ (v2 : Option V) (j : Int) (b' s' : Int), σ = [some (.ref h), some (.int n), v2, none, none] ∧ Bt h H H' ∧ HandAt H' h l ns j b' s' c, ?_, ?_⟩
    · refine ⟨_, rfl, h, _, _, _, rfl, rfl, SqL.of hO, rfl, rfl, _, rfl, ?_⟩
      refine iteB (fun _ => ?_) (fun _ => ⟨_, _, _, _, rfl, Bt.refl h H, X⟩)
      refine ⟨_, rfl, h, _, _, _, rfl, rfl, SqL.of hO, rfl, _, rfl, h, _, _, _, rfl, rfl, SqL.of hO, rfl, l, _, rfl, .inl (SqL.of X.n), _, _, rfl, rfl, _, rfl, ?_⟩
      refine iteB (fun lt => ?_) (fun _ => ⟨_, _, _, _, rfl, Bt.refl h H, X⟩)
      have lt' : i < ((ns.map V.int).length : Int) := of_decide_eq_true lt
      rw [List.length_map] at lt'
      have hj : i.toNat < ns.length := by omega
      have hz : (ns.map V.int)[i.toNat]? = some (.int ns[i.toNat]) := by rw [List.getElem?_map, List.getElem?_eq_getElem hj]; rfl
      generalize ns[i.toNat] = z at hz
      have hat : atI (ns.map V.int) i = some (.int z) := at_of (by omega) hz
      -- cell = hand[0][hand[1]]
      refine ⟨_, rfl, h, _, _, _, rfl, rfl, SqL.of hO, rfl, _, rfl, h, _, _, _, rfl, rfl, SqL.of hO, rfl, l, _, _, _, rfl, rfl, SqL.of X.n, hat, ?_⟩
      -- hand[1] = hand[1] + 1
      refine ⟨_, rfl, h, _, _, _, rfl, rfl, SqL.of hO, rfl, _, _, rfl, rfl, _, rfl, h, _, _, _, rfl, rfl, hO, rfl, ?_⟩
      generalize hH2 : L2.upd H h _ = H2
      have t2 : Bt h H H2 := by rw [← hH2]; exact (Bt.refl h H).upd
      have hO2 : H2 h = some (.lst [.ref l, .int (i + 1), .int b, .int sd, .int c]) := by rw [← hH2]; exact upd_same
      have hn2 : H2 l = some (.lst (ns.map V.int)) := t2 _ _ nl X.n
      -- hand[3] = int(hand[3] * 69621 + cell.. + 11) % 2147483629
      refine ⟨_, rfl, h, _, _, _, rfl, rfl, SqL.of hO2, rfl, _, _, rfl, rfl, .inl ⟨by omega, by omega⟩, _, rfl, _, _, rfl, rfl, .inr ⟨by decide, by decide⟩, _, _, rfl, rfl, _, _, rfl, rfl, .inl ⟨_, rfl, _, _, rfl, rfl, (show (0 : Int) < 2147483629 by decide), _, rfl, h, _, _, _, rfl, rfl, hO2, rfl, ?_⟩⟩
      generalize hw : ((sd * 69621 + z * 16 + 11) % 2147483629 : Int) = sd'
      have w0 : 0 ≤ sd' := by rw [← hw]; exact Int.emod_nonneg _ (by decide)
      have w1 : sd' < 2147483647 := by rw [← hw]; exact Int.lt_trans (Int.emod_lt_of_pos _ (by decide)) (by decide)
      generalize hH3 : L2.upd H2 h _ = H3
      have t3 : Bt h H H3 := by rw [← hH3]; exact t2.upd
      have hO3 : H3 h = some (.lst [.ref l, .int (i + 1), .int b, .int sd', .int c]) := by rw [← hH3, ← hw]; exact upd_same
      have hn3 : H3 l = some (.lst (ns.map V.int)) := t3 _ _ nl X.n
      -- if cell >= 10 ** 18
      refine ⟨_, rfl, 10, 18, rfl, rfl, ⟨by decide, by decide, by decide⟩, _, _, rfl, rfl, _, rfl, ?_⟩
      refine iteB (fun ge => ?_) (fun _ => ⟨_, _, _, _, rfl, t3, hO3, hn3, by omega, b0, w0, w1⟩)
      have ge' : (10 : Int) ^ (18 : Int).toNat ≤ z := of_decide_eq_true ge
      have z0 : 0 ≤ z := Int.le_trans (by decide) ge'
      refine ⟨_, rfl, _, rfl, h, _, _, _, rfl, rfl, hO3, rfl, ?_⟩
      exact ⟨_, i + 1, z, sd', rfl, t3.upd, upd_same, by rw [upd_ne nl]; exact hn3, by omega, z0, w0, w1⟩
    · rintro σ H2 ⟨v2, j, b', s', rfl, t2, Y⟩
      have hO2 := Y.o
      -- if hand[2] > 0
      refine ⟨_, rfl, h, _, _, _, rfl, rfl, SqL.of hO2, rfl, _, _, rfl, rfl, _, rfl, ?_⟩
      refine iteB (fun _ => ?_) (fun _ => ?_)
      · refine ⟨_, rfl, h, _, _, _, rfl, rfl, SqL.of hO2, rfl, .inl ⟨_, rfl, _, rfl, _, _, rfl, rfl, n0, ?_⟩⟩
        refine ⟨_, rfl, h, _, _, _, rfl, rfl, SqL.of hO2, rfl, _, rfl, _, _, rfl, rfl, wide_div n0 (b := 30) (by omega) (by decide) (by decide), _, rfl, h, _, _, _, rfl, rfl, hO2, rfl, ?_⟩
        refine ⟨_, rfl, k _ _ t2.upd ⟨ns, j, b' / n, s', c, upd_same, by rw [upd_ne nl]; exact Y.n, Y.i0, Int.ediv_nonneg Y.b0 (by omega), Y.s0, Y.s1⟩ (Int.emod_nonneg _ (by omega)) (Int.emod_lt_of_pos _ n0)⟩
      · have s0 := Y.s0
        have s1 := Y.s1
        -- hand[4] = hand[4] + 1
        refine ⟨_, rfl, h, _, _, _, rfl, rfl, SqL.of hO2, rfl, _, _, rfl, rfl, _, rfl, h, _, _, _, rfl, rfl, hO2, rfl, ?_⟩
        generalize hH3 : L2.upd H2 h _ = H3
        have t3 : Bt h H H3 := by rw [← hH3]; exact t2.upd
        have hO3 : H3 h = some (.lst [.ref l, .int j, .int b', .int s', .int (c + 1)]) := by rw [← hH3]; exact upd_same
        have hn3 : H3 l = some (.lst (ns.map V.int)) := t3 _ _ nl X.n
        -- number = int(int(hand[3] + 7919 * hand[4]) * 48271) % 2147483647
        refine ⟨_, rfl, h, _, _, _, rfl, rfl, SqL.of hO3, rfl, _, rfl, h, _, _, _, rfl, rfl, SqL.of hO3, rfl, _, _, rfl, rfl, .inl ⟨by decide, by decide⟩, _, _, rfl, rfl, .inl ⟨_, rfl, _, _, rfl, rfl, .inr ⟨by decide, by decide⟩, .inl ⟨_, rfl, _, _, rfl, rfl, M31, ?_⟩⟩⟩
        generalize hz : ((s' + 7919 * (c + 1)) * 48271 % 2147483647 : Int) = z
        have z0 : 0 ≤ z := by rw [← hz]; exact Int.emod_nonneg _ (by decide)
        have z1 : z < 2147483647 := by rw [← hz]; exact Int.emod_lt_of_pos _ (by decide)
        show _
        refine ⟨.int z, (by rw [← hz]; rfl), .int z, (by rw [← hz]; rfl), _, _, rfl, rfl, wide_div (by decide) (b := 30) (by decide) (by decide) (by decide), _, _, rfl, rfl, _, _, rfl, rfl, .inl ⟨by omega, by omega⟩, .inl ⟨_, rfl, _, _, rfl, rfl, M31, ?_⟩⟩
        generalize hu : (z * (z / 1009 + 69621) % 2147483647 : Int) = u
        have u0 : 0 ≤ u := by rw [← hu]; exact Int.emod_nonneg _ (by decide)
        have u1 : u < 2147483647 := by rw [← hu]; exact Int.emod_lt_of_pos _ (by decide)
        show _
        refine ⟨.int u, (by rw [← hu]; rfl), .int u, (by rw [← hu]; rfl), _, _, rfl, rfl, wide_div (by decide) (b := 30) (by decide) (by decide) (by decide), _, _, rfl, rfl, _, _, rfl, rfl, .inl ⟨by omega, by omega⟩, .inl ⟨_, rfl, _, _, rfl, rfl, M30, ?_⟩⟩
        refine ⟨_, rfl, _, _, rfl, rfl, wide_div (by decide) (b := 30) (by decide) (by decide) (by decide), .inl ⟨_, rfl, _, rfl, _, _, rfl, rfl, n0, ?_⟩⟩
        exact k _ _ t3 ⟨ns, j, b', s', c + 1, hO3, hn3, Y.i0, Y.b0, s0, s1⟩ (Int.emod_nonneg _ (by omega)) (Int.emod_lt_of_pos _ n0)

end
end W2
namespace W2
open PySem PySem.Spec PyProof.Rows L2
section
variable {P : Program} {w : World} {K : PySem.W.Frag} {mg : Str → Option Value} {base : Heap} {CS : List Addr}
theorem ok_lnumber (D : Def K mg "_law_number" s_lnumber ["_law_thing", "_law_least", "_law_most"]) (T : Txt K mg)  (FC : Env K CS) : Cal P w K mg base 1 "_law_number" ["_law_thing", "_law_least", "_law_most"] (spWithin CS) := by
  refine D.cal sc_lnumber (fun vs H Q E h => ?_) (fun f cdv A outer s H vs Q E hr h => ?_)
  · obtain ⟨a, b, x, rfl, _⟩ := h
    rfl
  · obtain ⟨a, b, x, rfl, an, k⟩ := h
    obtain ⟨t, ty, k1⟩ := any_int FC.ow an
    obtain ⟨t2, ty2, k2⟩ := any_bool FC.ow an
    have k0 := k _ (L2.Same.refl _)
    refine ⟨_, (pss_one (ps_ret (pe_and (pe_callB (call_isiK1 (K := K) rfl) (by rfl) T.n_isinstance (by decide +kernel) (pa_cons (pv 0) (pa_cons (pe_bltn (v := .ty "int") (by rfl) T.n_int (by decide +kernel) rfl) pa_nil))) (pe_and (pe_not (pe_callB (call_isiK1 (K := K) rfl) (by rfl) T.n_isinstance (by decide +kernel) (pa_cons (pv 0) (pa_cons (pe_bltn (v := .ty "bool") (by rfl) T.n_bool (by decide +kernel) rfl) pa_nil)))) (pe_one (pe_chain op_le op_le (pv 1) (pv 0) (pv 2))))))), ?_⟩
    refine ⟨_, rfl, _, _, _, _, _, rfl, .ty _, ty, k1, _, rfl, iteB (fun e => ?_) (fun e => ?_)⟩
    · refine ⟨_, rfl, _, _, _, _, _, rfl, .ty _, ty2, k2, _, rfl, _, rfl, iteB (fun e2 => ?_) (fun e2 => ?_)⟩
      · have e3 : isI x = true := by cases x <;> first | rfl | exact nft e | exact nft e2
        obtain ⟨i, rfl⟩ := isI_of e3
        refine ⟨_, rfl, _, rfl, _, _, rfl, rfl, _, rfl, iteB (fun e1 => ⟨_, rfl, _, _, rfl, rfl, ?_⟩) (fun e1 => ?_)⟩
        · have r : Q (.bl (decide (a ≤ i) && decide (i ≤ b))) H := k0
          rw [e1, Bool.true_and] at r
          exact r
        · have r : Q (.bl (decide (a ≤ i) && decide (i ≤ b))) H := k0
          rw [e1, Bool.false_and] at r
          exact r
      · have e3 : wiV a b x = false := by cases x <;> first | rfl | exact nft e2.symm
        rw [e3] at k0
        exact k0
    · have e2 : wiV a b x = false := by cases x <;> first | rfl | cases e
      rw [e2] at k0
      exact k0

end
end W2
namespace W2
open PySem PySem.Spec PyProof.Rows L2
section
variable {P : Program} {w : World} {K : PySem.W.Frag} {mg : Str → Option Value} {base : Heap} {CS : List Addr}
theorem ok_lisint (D : Def K mg "_law_is_integer" s_lisint ["_law_thing"]) (T : Txt K mg)  (FC : Env K CS) : Cal P w K mg base 1 "_law_is_integer" ["_law_thing"] (spIsInt CS) := by
  refine D.cal sc_lisint (fun vs H Q E h => ?_) (fun f cdv A outer s H vs Q E hr h => ?_)
  · obtain ⟨x, rfl, _⟩ := h
    rfl
  · obtain ⟨x, rfl, a, k⟩ := h
    obtain ⟨t, ty, k1⟩ := any_int FC.ow a
    obtain ⟨t2, ty2, k2⟩ := any_bool FC.ow a
    refine ⟨_, (pss_one (ps_ret (pe_and (pe_callB (call_isiK1 (K := K) rfl) (by rfl) T.n_isinstance (by decide +kernel) (pa_cons (pv 0) (pa_cons (pe_bltn (v := .ty "int") (by rfl) T.n_int (by decide +kernel) rfl) pa_nil))) (pe_one (pe_not (pe_callB (call_isiK1 (K := K) rfl) (by rfl) T.n_isinstance (by decide +kernel) (pa_cons (pv 0) (pa_cons (pe_bltn (v := .ty "bool") (by rfl) T.n_bool (by decide +kernel) rfl) pa_nil)))))))), ?_⟩
    refine ⟨_, rfl, _, _, _, _, _, rfl, .ty _, ty, k1, _, rfl, iteB (fun e => ?_) (fun e => ?_)⟩
    · refine ⟨_, rfl, _, _, _, _, _, rfl, .ty _, ty2, k2, _, rfl, ?_⟩
      have e2 : (!isB x) = isI x := by cases x <;> first | rfl | cases e
      rw [e2]
      exact k _ (L2.Same.refl _)
    · have e2 : isI x = false := by cases x <;> first | rfl | cases e
      have r := k _ (L2.Same.refl _)
      rw [e2] at r
      exact r

end
end W2
namespace W2
open PySem PySem.Spec PyProof.Rows L2
section
variable {P : Program} {w : World} {K : PySem.W.Frag} {mg : Str → Option Value} {base : Heap} {CS : List Addr}
theorem ok_lhouse (D : Def K mg "_law_house" s_lhouse ["_law_up", "_law_value_here"]) (T : Txt K mg)  : Cal P w K mg base 1 "_law_house" ["_law_up", "_law_value_here"] spHouse := by
  refine D.cal sc_lhouse (fun vs H Q E h => ?_) (fun f cdv A outer s H vs Q E hr h => ?_)
  · obtain ⟨u, v, rfl, _⟩ := h
    rfl
  · obtain ⟨u, v, rfl, k⟩ := h
    refine ⟨_, (pss_one (ps_ret (pe_lst (pa_cons (pv 0) (pa_cons pe_non (pa_cons pe_non (pa_cons pe_bl (pa_cons pe_int (pa_cons (pv 1) pa_nil))))))))), ?_⟩
    exact ⟨_, rfl, _, rfl, small (by show 6 ≤ 100000; decide), fun p hp => k _ p (same_upd hp) hp upd_same⟩

end
end W2
namespace W2
open PySem PySem.Spec PyProof.Rows L2
section
variable {P : Program} {w : World} {K : PySem.W.Frag} {mg : Str → Option Value} {base : Heap} {CS : List Addr}
theorem ok_between (D : Def K mg "is_between" s_between ["least", "most", "thing"]) (T : Txt K mg) (C_isint : Cal P w K mg base 1 "is_integer" ["thing"] (spIsInt CS)) : Cal P w K mg base 2 "is_between" ["least", "most", "thing"] (spBetween CS) := by
  refine D.cal sc_between (fun vs H Q E h => ?_) (fun f cdv A outer s H vs Q E hr h => ?_)
  · obtain ⟨a, b, x, rfl, _⟩ := h
    rfl
  · obtain ⟨a, b, x, rfl, an, k⟩ := h
    refine ⟨_, (pss_one (ps_ret (pe_and (pcal C_isint hr (by decide) rfl (pa_cons (pv 2) pa_nil)) (pe_one (pe_chain op_le op_le (pv 0) (pv 2) (pv 1)))))), ?_⟩
    refine ⟨_, rfl, x, rfl, an, fun H1 s1 => ⟨_, rfl, iteB (fun e => ?_) (fun e => ?_)⟩⟩
    · obtain ⟨i, rfl⟩ := isI_of e
      have r := k _ s1
      refine ⟨_, rfl, _, rfl, _, _, rfl, rfl, _, rfl, iteB (fun e1 => ⟨_, rfl, _, _, rfl, rfl, ?_⟩) (fun e1 => ?_)⟩
      · have r : Q (.bl (decide (a ≤ i) && decide (i ≤ b))) H1 := r
        rw [e1, Bool.true_and] at r
        exact r
      · have r : Q (.bl (decide (a ≤ i) && decide (i ≤ b))) H1 := r
        rw [e1, Bool.false_and] at r
        exact r
    · have r := k _ s1
      have e2 : wiV a b x = false := by cases x <;> first | rfl | cases e
      rw [e2] at r
      exact r

end
end W2
namespace W2
open PySem PySem.Spec PyProof.Rows L2
section
variable {P : Program} {w : World} {K : PySem.W.Frag} {mg : Str → Option Value} {base : Heap} {CS : List Addr}
theorem ok_ldeep (D : Def K mg "_law_deep" s_ldeep ["_law_hand_here"]) (T : Txt K mg) (C_take16 : Cal P w K mg base 1 "_law_draw" ["_law_hand_here", "_law_many_here"] spTake) : Cal P w K mg base 2 "_law_deep" ["_law_hand_here"] (spDeep CS) := by
  refine D.cal sc_ldeep (fun vs H Q E h => ?_) (fun f cdv A outer s H vs Q E hr h => ?_)
  · obtain ⟨h, l, rfl, _⟩ := h
    rfl
  · obtain ⟨h, l, rfl, HH, k⟩ := h
    refine ⟨_, (pss_cons (ps_set (i := 1) sc_ldeep.nd rfl (Or.inl rfl) (pe_ix (ix_listK (K := K) rfl) (pe_lst (pa_cons pe_non (pa_cons pe_str (pa_cons (pe_un un_neg pe_int) (pa_cons (pe_dnewK) pa_nil))))) (pcal C_take16 hr (by omega) rfl (pa_cons (pv 0) (pa_cons pe_int pa_nil))) (fun _ _ => rfl)))
      (pss_cons (ps_for PassesOwn.never rfl (pi_range1 rfl T.n_range (pa_cons (pe_op op_add pe_int (pcal C_take16 hr (by omega) rfl (pa_cons (pv 0) (pa_cons pe_int pa_nil)))) pa_nil)) (pg_name (i := 2) sc_ldeep.nd rfl (Or.inl rfl)) (pss_one (ps_set (i := 1) sc_ldeep.nd rfl (Or.inl rfl) (pe_ix (ix_listK (K := K) rfl) (pe_lst (pa_cons (pe_tup (pa_cons (pv 1) pa_nil)) (pa_cons (pe_lst (pa_cons (pv 1) pa_nil)) (pa_cons (pe_slice (sl_tupAK (K := K) rfl) (pe_tup (pa_cons (pv 1) (pa_cons (pv 1) pa_nil))) po_none (po_some pe_int)) (pa_cons (pe_disp (pps_cons pe_int (pv 1) pps_nil) rfl rfl (by decide) (by decide)) pa_nil))))) (pcal C_take16 hr (by omega) rfl (pa_cons (pv 0) (pa_cons pe_int pa_nil))) (fun _ _ => rfl)))))
      (pss_one (ps_ret (pv 1))))), ?_⟩
    refine ⟨1, rfl, fun d hd => ⟨small (by show 4 ≤ 100000; decide), fun t ht => ?_⟩⟩
    have b1 : Bt h H (L2.upd (L2.upd H d (.dK [])) t (.lst [V.non, V.str "a", V.int (-1), V.ref d])) := (Bt.of (same_upd hd)).new ht
    have hh1 := (HH.upd (o := .dK []) hd).upd (o := .lst [V.non, V.str "a", V.int (-1), V.ref d]) ht
    have nth : t ≠ h := (HH.upd (o := .dK []) hd).nn ht
    have ndh : d ≠ h := HH.nn hd
    have et : (L2.upd (L2.upd H d (.dK [])) t (.lst [V.non, V.str "a", V.int (-1), V.ref d])) t = some (.lst [V.non, V.str "a", V.int (-1), V.ref d]) := upd_same
    have ed : (L2.upd (L2.upd H d (.dK [])) t (.lst [V.non, V.str "a", V.int (-1), V.ref d])) d = some (.dK []) := ugetF ht upd_same
    generalize L2.upd (L2.upd H d (.dK [])) t (.lst [V.non, V.str "a", V.int (-1), V.ref d]) = H1 at b1 hh1 et ed
    refine ⟨_, rfl, h, l, 4, rfl, hh1, by decide, by decide, fun H2 r b2 hh2 r1 => ?_⟩
    refine ixL_any (b2 _ _ nth et) r1 rfl fun v hv => ?_
    have rv : ∃ dd, Rep CS H2 dd v := by
      simp only [List.mem_cons, List.not_mem_nil, or_false] at hv
      rcases hv with rfl | rfl | rfl | rfl
      · exact ⟨.non, rep_non.mpr rfl⟩
      · exact ⟨.str _, rep_str.mpr rfl⟩
      · exact ⟨.int _, rep_int.mpr rfl⟩
      · exact ⟨.dic, rep_dic.mpr ⟨d, _, rfl, b2 _ _ ndh ed⟩⟩
    have b12 := b1.trans b2
    clear hv
    refine ⟨_, rfl, h, l, 30, rfl, hh2, by decide, by decide, fun H3 m b3 hh3 m1 => ⟨_, _, rfl, rfl, _, rfl, by omega, by omega, ?_⟩⟩
    obtain ⟨dd, rv⟩ := rv
    refine for_range (lo := 0) (n := (1 + (m : Int)).toNat) (fun i σ H' => ∃ (v : V) (w2 : Option V) (dd : Dt), σ = [some (.ref h), some v, w2] ∧ Bt h H H' ∧ Hand H' h l ∧ Rep CS H' dd v) ⟨v, none, dd, rfl, b12.trans b3, hh3, rv.kin (hh2.kin b3 hh3)⟩ ?_ ?_
    · rintro i σ H4 hi ⟨v, w2, dd, rfl, b4, hh4, rv⟩
      refine ⟨_, rfl, small (by show 1 ≤ 100000; decide), fun t1 g1 => ⟨_, rfl, small (by show 1 ≤ 100000; decide), fun t2 g2 => ⟨_, rfl, _, rfl, small (by show 2 ≤ 100000; decide), fun t3 g3 => ?_⟩⟩⟩
      have u1 := same_upd (o := .tup [v]) g1
      have u2 := same_upd (o := .lst [v]) g2
      have u3 := same_upd (o := .tup [v, v]) g3
      have e1 : (L2.upd (L2.upd (L2.upd H4 t1 (.tup [v])) t2 (.lst [v])) t3 (.tup [v, v])) t1 = some (.tup [v]) := u3 _ _ (u2 _ _ upd_same)
      have e2 : (L2.upd (L2.upd (L2.upd H4 t1 (.tup [v])) t2 (.lst [v])) t3 (.tup [v, v])) t2 = some (.lst [v]) := u3 _ _ upd_same
      have e3 : (L2.upd (L2.upd (L2.upd H4 t1 (.tup [v])) t2 (.lst [v])) t3 (.tup [v, v])) t3 = some (.tup [v, v]) := upd_same
      have u13 := (u1.trans u2).trans u3
      have n2 : t2 ≠ h := (hh4.same u1).nn g2
      generalize L2.upd (L2.upd (L2.upd H4 t1 (.tup [v])) t2 (.lst [v])) t3 (.tup [v, v]) = H5 at e1 e2 e3 u13
      unfold tNoPart
      refine ⟨1, rfl, ?_⟩
      show rSlA K (V.ref t3) none (some 1) H5 _
      refine slA_of e3 fun t4 H5b u4 e4 => ?_
      rw [show cutV [v, v] none (some 1) = [v] from rfl] at e4
      refine fun p gp => ⟨_, rfl, upd_same, [(Sum.inl 0, v)], rfl, by show 1 ≤ 15; decide, small (by show 4 ≤ 100000; decide), fun t gt => ?_⟩
      have u5 : L2.Same H5b (L2.upd (L2.upd H5b p (.dK [])) p (.dK (mergeK [] [(Sum.inl 0, v)]))) := Same.upd (same_upd gp) gp
      have e4 := u5 _ _ e4
      have e5 : (L2.upd (L2.upd H5b p (.dK [])) p (.dK (mergeK [] [(Sum.inl 0, v)]))) p = some (.dK (mergeK [] [(Sum.inl 0, v)])) := upd_same
      have u45 := u4.trans u5
      have np : p ≠ h := (hh4.same (u13.trans u4)).nn gp
      generalize L2.upd (L2.upd H5b p (.dK [])) p (.dK (mergeK [] [(Sum.inl 0, v)])) = H6 at e4 e5 u45 gt
      have u6 := same_upd (o := .lst [V.ref t1, V.ref t2, V.ref t4, V.ref p]) gt
      have et : (L2.upd H6 t (.lst [V.ref t1, V.ref t2, V.ref t4, V.ref p])) t = some (.lst [V.ref t1, V.ref t2, V.ref t4, V.ref p]) := upd_same
      have u := (u13.trans u45).trans u6
      have nt : t ≠ h := (hh4.same (u13.trans u45)).nn gt
      have e1' := u6 _ _ (u45 _ _ e1)
      have e2' := u6 _ _ (u45 _ _ e2)
      have e4' := u6 _ _ e4
      have e5' := u6 _ _ e5
      generalize L2.upd H6 t (.lst [V.ref t1, V.ref t2, V.ref t4, V.ref p]) = H7 at u et e1' e2' e4' e5'
      have hh7 := hh4.same u
      refine ⟨_, rfl, h, l, 4, rfl, hh7, by decide, by decide, fun H8 r b8 hh8 r1 => ?_⟩
      refine ixL_any (b8 _ _ nt et) r1 rfl fun w hw => ?_
      have kn := hh7.kin b8 hh8
      have rv7 : Rep CS H7 dd v := rv.same u
      have fin : ∀ d2, Rep CS H7 d2 w → ∃ (v : V) (w2 : Option V) (dd : Dt), ([some (.ref h), some w, some (V.int (0 + (i : Int)))] : L2.St) = [some (.ref h), some v, w2] ∧ Bt h H H8 ∧ Hand H8 h l ∧ Rep CS H8 dd v := fun d2 r2 => ⟨w, _, d2, rfl, b4.trans ((Bt.of u).trans b8), hh8, r2.kin kn⟩
      simp only [List.mem_cons, List.not_mem_nil, or_false] at hw
      rcases hw with rfl | rfl | rfl | rfl
      · exact fin (.tup [dd]) (repT e1' (repL_one rv7))
      · exact fin .lst (rep_lst.mpr ⟨_, _, rfl, e2'⟩)
      · exact fin (.tup [dd]) (repT e4' (repL_one rv7))
      · exact fin .dic (rep_dic.mpr ⟨_, _, rfl, e5'⟩)
    · rintro σ H4 ⟨v, w2, dd, rfl, b4, hh4, rv⟩
      exact ⟨_, rfl, k _ v dd b4 hh4 rv⟩

end
end W2
namespace W2
open PySem PySem.Spec PyProof.Rows L2
section
variable {P : Program} {w : World} {K : PySem.W.Frag} {mg : Str → Option Value} {base : Heap} {CS : List Addr}
theorem ok_lvalue (D : Def K mg "_law_value" s_lvalue ["_law_hand_here"]) (T : Txt K mg) (C_take16 : Cal P w K mg base 1 "_law_draw" ["_law_hand_here", "_law_many_here"] spTake) : Cal P w K mg base 2 "_law_value" ["_law_hand_here"] spValue := by
  refine D.cal sc_lvalue (fun vs H Q E h => ?_) (fun f cdv A outer s H vs Q E hr h => ?_)
  · obtain ⟨h, l, rfl, _⟩ := h
    rfl
  · obtain ⟨h, l, rfl, HH, k⟩ := h
    refine ⟨_, (pss_cons (ps_set (i := 1) sc_lvalue.nd rfl (Or.inl rfl) (pcal C_take16 hr (by decide) rfl (pa_cons (pv 0) (pa_cons pe_int pa_nil))))
      (pss_cons (ps_if (pt_cmpR op_eq (pv 1) pe_int (nomark _)) (pss_one (ps_ret (pe_ix (ix_listK (K := K) rfl) (pe_lst (pa_cons (pe_op op_pow pe_int pe_int) (pa_cons (pe_op op_sub pe_int (pe_op op_pow pe_int pe_int)) (pa_cons (pe_op op_pow pe_int pe_int) (pa_cons (pe_un un_neg pe_int) (pa_cons pe_int (pa_cons (pe_op op_pow pe_int pe_int) pa_nil))))))) (pcal C_take16 hr (by decide) rfl (pa_cons (pv 0) (pa_cons pe_int pa_nil))) (fun _ _ => rfl)))) pss_nil)
      (pss_one (ps_ret (pe_op op_sub (pcal C_take16 hr (by decide) rfl (pa_cons (pv 0) (pa_cons pe_int pa_nil))) pe_int))))), ?_⟩
    refine ⟨_, rfl, h, l, 8, rfl, HH, by decide, by decide, fun H1 r b1 hh1 r1 => ⟨_, rfl, rfl, _, rfl, iteB (fun _ => ?_) (fun _ => ?_)⟩⟩
    · refine ⟨10, 18, rfl, rfl, ⟨by decide, by decide, by decide⟩, 10, 18, rfl, rfl, ⟨by decide, by decide, by decide⟩, _, _, rfl, rfl, 2, 62, rfl, rfl, ⟨by decide, by decide, by decide⟩, 1, rfl, 10, 9, rfl, rfl, ⟨by decide, by decide, by decide⟩, small (by show 6 ≤ 100000; decide), fun t ht => ?_⟩
      refine ⟨_, rfl, h, l, 6, rfl, hh1.upd ht, by decide, by decide, fun H2 r2 b2 hh2 r3 => ?_⟩
      refine ixL_any (b2 _ _ (hh1.nn ht) upd_same) r3 rfl fun v hv => ?_
      have bb := (b1.new ht).trans b2
      simp only [List.mem_cons, List.not_mem_nil, or_false] at hv
      rcases hv with rfl | rfl | rfl | rfl | rfl | rfl <;> exact k _ _ bb hh2
    · exact ⟨_, rfl, h, l, 41, rfl, hh1, by decide, by decide, fun H2 r2 b2 hh2 r3 => ⟨_, _, rfl, rfl, k _ _ (b1.trans b2) hh2⟩⟩

end
end W2
namespace W2
open PySem PySem.Spec PyProof.Rows L2
section
variable {P : Program} {w : World} {K : PySem.W.Frag} {mg : Str → Option Value} {base : Heap} {CS : List Addr}
theorem ok_lmany (D : Def K mg "_law_many" s_lmany ["_law_hand_here", "_law_most"]) (T : Txt K mg) (C_take16 : Cal P w K mg base 1 "_law_draw" ["_law_hand_here", "_law_many_here"] spTake) : Cal P w K mg base 2 "_law_many" ["_law_hand_here", "_law_most"] spMany := by
  refine D.cal sc_lmany (fun vs H Q E h => ?_) (fun f cdv A outer s H vs Q E hr h => ?_)
  · obtain ⟨h, l, n, rfl, _⟩ := h
    rfl
  · obtain ⟨h, l, n, rfl, HH, n1, n64, k⟩ := h
    refine ⟨_, (pss_cons (ps_if (pt_cmpR op_eq (pcal C_take16 hr (by decide) rfl (pa_cons (pv 0) (pa_cons pe_int pa_nil))) pe_int (nomark _)) (pss_one (ps_ret (pe_ix (ix_listK (K := K) rfl) (pe_lst (pa_cons pe_int (pa_cons pe_int (pa_cons pe_int (pa_cons pe_int (pa_cons pe_int pa_nil)))))) (pcal C_take16 hr (by decide) rfl (pa_cons (pv 0) (pa_cons pe_int pa_nil))) (fun _ _ => rfl)))) pss_nil)
      (pss_one (ps_ret (pe_op op_add pe_int (pcal C_take16 hr (by decide) rfl (pa_cons (pv 0) (pa_cons (pv 1) pa_nil))))))), ?_⟩
    refine ⟨_, rfl, h, l, 12, rfl, HH, by decide, by decide, fun H1 r b1 hh1 r1 => ⟨rfl, _, rfl, iteB (fun _ => ?_) (fun _ => ?_)⟩⟩
    · refine ⟨small (by show 5 ≤ 100000; decide), fun t ht => ?_⟩
      refine ⟨_, rfl, h, l, 5, rfl, hh1.upd ht, by decide, by decide, fun H2 r2 b2 hh2 r3 => ?_⟩
      refine ixL_any (b2 _ _ (hh1.nn ht) upd_same) r3 rfl fun v hv => ?_
      have bb := (b1.new ht).trans b2
      simp only [List.mem_cons, List.not_mem_nil, or_false] at hv
      rcases hv with rfl | rfl | rfl | rfl | rfl
      · exact k _ 64 bb hh2 (by decide) (by decide)
      · exact k _ 63 bb hh2 (by decide) (by decide)
      · exact k _ 33 bb hh2 (by decide) (by decide)
      · exact k _ 32 bb hh2 (by decide) (by decide)
      · exact k _ 16 bb hh2 (by decide) (by decide)
    · refine ⟨_, rfl, _, rfl, h, l, n, rfl, hh1, by omega, by omega, fun H2 r2 b2 hh2 r3 => ⟨_, _, rfl, rfl, ?_⟩⟩
      show Q (.int (1 + (r2 : Int))) H2
      rw [show (1 : Int) + (r2 : Int) = ((1 + r2 : Nat) : Int) by omega]
      exact k _ _ (b1.trans b2) hh2 (by omega) (by omega)

end
end W2
namespace W2
open PySem PySem.Spec PyProof.Rows L2
section
variable {P : Program} {w : World} {K : PySem.W.Frag} {mg : Str → Option Value} {base : Heap} {CS : List Addr}
theorem ok_lshuf (D : Def K mg "_law_shuffled" s_lshuf ["_law_hand_here", "_law_many_here"]) (T : Txt K mg) (C_take16 : Cal P w K mg base 1 "_law_draw" ["_law_hand_here", "_law_many_here"] spTake) : Cal P w K mg base 2 "_law_shuffled" ["_law_hand_here", "_law_many_here"] (spShuf K) := by
  refine D.cal sc_lshuf (fun vs H Q E h => ?_) (fun f cdv A outer s H vs Q E hr h => ?_)
  · obtain ⟨h, l, n, rfl, _⟩ := h
    rfl
  · obtain ⟨h, l, n, rfl, HH, n64, k⟩ := h
    refine ⟨_, (pss_cons (ps_set (i := 2) sc_lshuf.nd rfl (Or.inl rfl) (pe_listRg rfl (by rfl) T.n_list (prg_1 (by rfl) T.n_range (pv 1))))
      (pss_cons (ps_for PassesOwn.never rfl (pi_range1 rfl T.n_range (pa_cons (pv 1) pa_nil)) (pg_name (i := 3) sc_lshuf.nd rfl (Or.inl rfl)) (pss_cons (ps_set (i := 4) sc_lshuf.nd rfl (Or.inl rfl) (pe_op op_add (pv 3) (pcal C_take16 hr (by decide) rfl (pa_cons (pv 0) (pa_cons (pe_op op_sub (pv 1) (pv 3)) pa_nil)))))
      (pss_one (ps_asg (pe_tup (pa_cons (pe_ix (ix_listK (K := K) rfl) (pv 2) (pv 4) (fun _ _ => rfl)) (pa_cons (pe_ix (ix_listK (K := K) rfl) (pv 2) (pv 3) (fun _ _ => rfl)) pa_nil))) (pg_tup rfl (pgs_cons (pg_sub (pv 2) (pv 3) set_list) (pgs_cons (pg_sub (pv 2) (pv 4) set_list) pgs_nil)))))))
      (pss_one (ps_ret (pv 2))))), ?_⟩
    obtain ⟨lh, eh⟩ := HH.lst
    refine ⟨_, rfl, _, rfl, RgOk.of_le (by decide) (by omega) (by decide) (by omega), fun o ho => ?_⟩
    rw [rgV_nv]
    have noh : o ≠ h := (ne_of_none eh ho).symm
    obtain ⟨lr, er⟩ := HH.row
    have nol : o ≠ l := (ne_of_none er ho).symm
    refine ⟨_, rfl, _, rfl, by omega, by omega, ?_⟩
    rw [Int.toNat_natCast]
    refine for_range (lo := 0) (n := n) (fun i σ H' => ∃ (v3 v4 : Option V) (od : List Nat), σ = [some (.ref h), some (nv n), some (.ref o), v3, v4] ∧ Bt h H H' ∧ Hand H' h l ∧ H' o = some (.lst (od.map nv)) ∧ od.Perm (List.range n))
      ⟨none, none, List.range n, rfl, (Bt.refl h H).new ho, HH.upd ho, upd_same, .refl _⟩ ?_ ?_
    · rintro i σ H2 hi ⟨v3, v4, od, rfl, b2, hh2, ho2, pm⟩
      rw [Int.zero_add]
      have lod : od.length = n := by rw [pm.length_eq, List.length_range]
      refine ⟨_, rfl, _, rfl, _, rfl, _, rfl, _, _, rfl, rfl, h, l, _, rfl, hh2, by omega, by omega, fun H3 r b3 hh3 r1 => ⟨_, _, rfl, rfl, ?_⟩⟩
      have ho3 := b3 _ _ noh ho2
      obtain ⟨j, ej, hj⟩ : ∃ j : Nat, (i : Int) + r = (j : Int) ∧ j < n := ⟨((i : Int) + r).toNat, by omega, by omega⟩
      have hi2 : i < od.length := by omega
      have hj2 : j < od.length := by omega
      have gi : (od.map nv)[i]? = some (nv od[i]) := by rw [List.getElem?_map, List.getElem?_eq_getElem hi2]; rfl
      have gj : (od.map nv)[j]? = some (nv od[j]) := by rw [List.getElem?_map, List.getElem?_eq_getElem hj2]; rfl
      refine ⟨_, rfl, _, rfl, o, _, _, _, rfl, rfl, SqL.of ho3, at_of ej gj, _, rfl, _, rfl, o, _, _, _, rfl, rfl, SqL.of ho3, atI_nat gi, small (by show 2 ≤ 100000; decide), fun t ht => ?_⟩
      have not : o ≠ t := ne_of_none ho3 ht
      obtain ⟨lh3, eh3⟩ := hh3.lst
      have ho4 : (L2.upd H3 t (.tup [nv od[j], nv od[i]])) o = some (.lst (od.map nv)) := by rw [upd_ne not]; exact ho3
      have hij : ixN ((od.map nv).set i (nv od[j])).length ((i : Int) + r) = some j := by
        rw [ej, List.length_set, List.length_map]
        exact ixN_nat hj2
      refine ⟨t, _, rfl, SqT.of upd_same, rfl, _, _, rfl, _, rfl, _, rfl, o, _, _, i, rfl, rfl, ho4, ixN_nat (by rw [List.length_map]; exact hi2), _, _, rfl, _, rfl, _, rfl, o, _, _, j, rfl, rfl, upd_same, hij, rfl, ?_⟩
      refine ⟨_, _, (od.set i od[j]).set j od[i], rfl, fun c u nc e => ?_, ?_, ?_, ?_⟩
      · have e3 := b3 _ _ nc (b2 _ _ nc e)
        have nco : c ≠ o := ne_of_none e ho
        rw [upd_ne nco, upd_ne nco, upd_ne (ne_of_none e3 ht)]
        exact e3
      · exact ((hh3.upd ht).set noh nol).set noh nol
      · rw [upd_same, List.map_set, List.map_set]
      · exact (List.set_set_perm hi2 hj2).trans pm
    · rintro σ H2 ⟨v3, v4, od, rfl, b2, hh2, ho2, pm⟩
      exact ⟨_, rfl, k _ o od b2 hh2 ho ho2 pm⟩

end
end W2
namespace W2
open PySem PySem.Spec PyProof.Rows L2
section
variable {P : Program} {w : World} {K : PySem.W.Frag} {mg : Str → Option Value} {base : Heap} {CS : List Addr}
theorem ok_lisshape (D : Def K mg "_law_is_shape" s_lisshape ["_law_thing"]) (T : Txt K mg) (C_lnumber : Cal P w K mg base 1 "_law_number" ["_law_thing", "_law_least", "_law_most"] (spWithin CS)) (C_lisint : Cal P w K mg base 1 "_law_is_integer" ["_law_thing"] (spIsInt CS)) (FC : Env K CS) : Cal P w K mg base 2 "_law_is_shape" ["_law_thing"] (spIsShape CS) := by
  refine D.cal sc_lisshape (fun vs H Q E h => ?_) (fun f cdv A outer s H vs Q E hr h => ?_)
  · obtain ⟨d, x, rfl, _⟩ := h
    rfl
  · obtain ⟨d, x, rfl, rp, k⟩ := h
    refine ⟨_, (pss_cons (ps_if (PW.pt (pw_or (pt_not (pt_val (pe_callB (call_isiK1 (K := K) rfl) (by rfl) T.n_isinstance (by decide +kernel) (pa_cons (pv 0) (pa_cons (pe_bltn (v := .ty "tuple") (by rfl) T.n_tuple (by decide +kernel) rfl) pa_nil))))) (pw_or1 (pt_not (pt_chain op_le op_le pe_int (pe_callB (call_lenK (K := K) rfl) (by rfl) T.n_len PySem.boot_len (pa_cons (pv 0) pa_nil)) pe_int))))) (pss_one (ps_ret pe_bl)) pss_nil)
      (pss_cons (ps_set (i := 1) sc_lisshape.nd rfl (Or.inr rfl) (pe_callB (call_lenK (K := K) rfl) (by rfl) T.n_len PySem.boot_len (pa_cons (pv 0) pa_nil)))
      (pss_cons (ps_for PassesOwn.never rfl (pi_tup (pv 0)) (pg_name (i := 2) sc_lisshape.nd rfl (Or.inl rfl)) (pss_cons (ps_if (PW.pt (pw_or (pt_not (pt_val (pe_callB (call_isiK1 (K := K) rfl) (by rfl) T.n_isinstance (by decide +kernel) (pa_cons (pv 2) (pa_cons (pe_bltn (v := .ty "tuple") (by rfl) T.n_tuple (by decide +kernel) rfl) pa_nil))))) (pw_or (pt_cmpR op_ne (pe_callB (call_lenK (K := K) rfl) (by rfl) T.n_len PySem.boot_len (pa_cons (pv 2) pa_nil)) pe_int (nomark _)) (pw_or1 (pt_not (pt_val (pe_callB (call_isiK1 (K := K) rfl) (by rfl) T.n_isinstance (by decide +kernel) (pa_cons (pe_ix (ix_tupK (K := K) rfl) (pv 2) pe_int (fun _ _ => rfl)) (pa_cons (pe_bltn (v := .ty "bool") (by rfl) T.n_bool (by decide +kernel) rfl) pa_nil))))))))) (pss_one (ps_ret pe_bl)) pss_nil)
      (pss_cons (ps_if (pt_not (pt_val (pe_callB (cr_all rfl) (by rfl) T.n_all (by decide +kernel) (pa_cons (pe_lc (own := [("_law_part", 3)]) (g := gName 3) (tt := tYes) (by rfl) sc_lisshape.nd (pi_tup (pe_slice (sl_tupAK (K := K) rfl) (pv 2) po_none (po_some pe_int))) (blkOk_by (own := [("_law_part", 3)]) (N := ["_law_thing", "_law_many_here", "_law_row", "_law_part", "_law_house_here", "_law_left", "_law_right", "_law_son", "_law_here", "_law_turn"]) (sc := defScope s_lisshape) (by decide +kernel)) (fun _ _ _ _ _ => pg_name (i := 3) sc_lisshape.nd rfl (Or.inl rfl)) (fun _ _ _ _ _ => pts_nil) (fun _ _ _ _ _ => (pe_or (pe_cmpR op_isN (pv 3) pe_non (nomark _)) (pe_one (pcal C_lnumber hr (by omega) rfl (pa_cons (pv 3) (pa_cons pe_int (pa_cons (pe_op op_sub (pv 1) pe_int) pa_nil)))))))) pa_nil)))) (pss_one (ps_ret pe_bl)) pss_nil)
      (pss_one (ps_if (PW.pt (pw_or (pt_not (pt_val (pcal C_lisint hr (by omega) rfl (pa_cons (pe_ix (ix_tupK (K := K) rfl) (pv 2) pe_int (fun _ _ => rfl)) pa_nil)))) (pw_or1 (pt_not (pt_val (pcal C_lisint hr (by omega) rfl (pa_cons (pe_ix (ix_tupK (K := K) rfl) (pv 2) pe_int (fun _ _ => rfl)) pa_nil))))))) (pss_one (ps_ret pe_bl)) pss_nil)))))
      (pss_cons (ps_for PassesOwn.never rfl (pi_range1 rfl T.n_range (pa_cons (pv 1) pa_nil)) (pg_name (i := 4) sc_lisshape.nd rfl (Or.inl rfl)) (pss_cons (ps_asg (pe_slice (sl_tupAK (K := K) rfl) (pe_ix (ix_tupK (K := K) rfl) (pv 0) (pv 4) (fun _ _ => rfl)) (po_some pe_int) (po_some pe_int)) (pg_tup rfl (pgs_cons (pg_name (i := 5) sc_lisshape.nd rfl (Or.inl rfl)) (pgs_cons (pg_name (i := 6) sc_lisshape.nd rfl (Or.inl rfl)) pgs_nil))))
      (pss_cons (ps_if (PW.pt (pw_and (pt_cmpR op_notN (pv 5) pe_non (nomark _)) (pw_and1 (pt_cmpR op_eq (pv 5) (pv 6) (nomark _))))) (pss_one (ps_ret pe_bl)) pss_nil)
      (pss_cons (ps_for PassesOwn.never rfl (pi_list (pe_lst (pa_cons (pv 5) (pa_cons (pv 6) pa_nil)))) (pg_name (i := 7) sc_lisshape.nd rfl (Or.inl rfl)) (pss_one (ps_if (PW.pt (pw_and (pt_cmpR op_notN (pv 7) pe_non (nomark _)) (pw_and1 (pt_cmpR op_ne (pe_ix (ix_tupK (K := K) rfl) (pe_ix (ix_tupK (K := K) rfl) (pv 0) (pv 7) (fun _ _ => rfl)) pe_int (fun _ _ => rfl)) (pv 4) (nomark _))))) (pss_one (ps_ret pe_bl)) pss_nil)))
      (pss_cons (ps_set (i := 8) sc_lisshape.nd rfl (Or.inl rfl) (pv 4))
      (pss_cons (ps_for PassesOwn.never rfl (pi_range1 rfl T.n_range (pa_cons (pv 1) pa_nil)) (pg_name (i := 9) sc_lisshape.nd rfl (Or.inl rfl)) (pss_one (ps_if (pt_cmpR op_notN (pv 8) pe_non (nomark _)) (pss_one (ps_set (i := 8) sc_lisshape.nd rfl (Or.inl rfl) (pe_ix (ix_tupK (K := K) rfl) (pe_ix (ix_tupK (K := K) rfl) (pv 0) (pv 8) (fun _ _ => rfl)) pe_int (fun _ _ => rfl)))) pss_nil)))
      (pss_one (ps_if (pt_cmpR op_notN (pv 8) pe_non (nomark _)) (pss_one (ps_ret pe_bl)) pss_nil))))))))
      (pss_one (ps_ret pe_bl)))))), ?_⟩
    obtain ⟨t, ty, kt⟩ := rep_istup FC.ow rp
    refine ⟨_, rfl, _, _, _, _, _, rfl, .ty _, ty, kt, _, rfl, ?_⟩
    cases hT : d.isT with
    | false =>
      refine iteT (ret_f k (fun ⟨s, e, _⟩ => ?_) _ (L2.Same.refl _))
      rw [e] at hT
      cases hT
    | true =>
      obtain ⟨ds, rfl⟩ := isT_of hT
      obtain ⟨a, xs, rfl, hA, rl⟩ := rep_tup.mp rp
      have ld := rl.len
      refine iteF ⟨_, rfl, a, _, rfl, .inr (SqT.of hA), _, _, rfl, rfl, _, rfl, iteB (fun e1 => ⟨_, _, rfl, rfl, _, rfl, iteB (fun e2 => ?_) (fun e2 => ?_)⟩) (fun e1 => ⟨_, rfl, iteT ?_⟩)⟩
      · refine ret_f k (fun ⟨s, e, o⟩ => ?_) _ (L2.Same.refl _)
        have e3 : ds.length = s.length := by rw [Dt.tup.inj e, List.length_map]
        have e4 : (!decide ((xs.length : Int) ≤ 64)) = true := e2
        rw [decide_eq_true (show (xs.length : Int) ≤ 64 by have := o.n64; omega)] at e4
        exact nft e4
      rotate_left
      · refine ret_f k (fun ⟨s, e, o⟩ => ?_) _ (L2.Same.refl _)
        have e3 : ds.length = s.length := by rw [Dt.tup.inj e, List.length_map]
        have e4 := of_decide_eq_false e1
        have := o.n1
        omega
      have n1 : 1 ≤ xs.length := by have := of_decide_eq_true e1; omega
      have n64 : xs.length ≤ 64 := by
        have e4 : (!decide ((xs.length : Int) ≤ 64)) = false := e2
        have e5 : decide ((xs.length : Int) ≤ 64) = true := by simpa using e4
        have := of_decide_eq_true e5
        omega
      refine ⟨_, rfl, a, _, rfl, .inr (SqT.of hA), ?_⟩
      refine ⟨_, rfl, a, rfl, ⟨_, SqT.of hA⟩, ?_⟩
      refine for_tup (K := K) (a := a) (xs := xs) (fun i σ H' => ∃ v2 v3 v4 v5 v6 v7 v8 v9 : Option V, σ = [some (.ref a), some (.int (xs.length : Int)), v2, v3, v4, v5, v6, v7, v8, v9] ∧ L2.Same H H' ∧ ∀ d ∈ ds.take i, ∃ p, d = dPart p ∧ PIn xs.length p)
        ⟨_, _, _, _, _, _, _, _, rfl, L2.Same.refl _, fun d hd => nomatch hd⟩ (fun i σ H' _ ⟨_, _, _, _, _, _, _, _, _, s, _⟩ => SqT.of (s _ _ hA)) ?_ ?_
      · rintro i x σ H1 hx ⟨v2, v3, v4, v5, v6, v7, v8, v9, rfl, s1, pr⟩
        obtain ⟨di, hdi, ri⟩ := (rl.same s1).at hx
        have bad : (¬ ∃ p, di = dPart p ∧ PIn xs.length p) → ¬ IsSh (.tup ds) := fun n => notSh hdi (by rw [← ld]; exact n)
        have good : (∃ p, di = dPart p ∧ PIn xs.length p) → ∀ d ∈ ds.take (i + 1), ∃ p, d = dPart p ∧ PIn xs.length p := fun g d hd => by
          rw [List.take_add_one, hdi] at hd
          rcases List.mem_append.mp hd with q | q
          · exact pr d q
          · rw [show d = di by simpa using q]
            exact g
        obtain ⟨t, ty, kt⟩ := rep_istup FC.ow ri
        refine ⟨_, rfl, _, _, _, _, _, rfl, .ty _, ty, kt, _, rfl, ?_⟩
        cases hT : di.isT with
        | false =>
          refine iteT (iteT (ret_f k (bad fun ⟨p, e, _⟩ => ?_) _ s1))
          rw [e] at hT
          cases hT
        | true =>
          obtain ⟨es, rfl⟩ := isT_of hT
          obtain ⟨b, ys, rfl, hB, rl2⟩ := rep_tup.mp ri
          refine iteF ⟨_, rfl, b, _, rfl, .inr (SqT.of hB), rfl, _, rfl, iteB (fun e1 => iteT ?_) (fun e1 => ?_)⟩
          · refine ret_f k (bad fun ⟨p, e, _⟩ => ?_) _ s1
            have e2 := rl2.len
            rw [dPart_len e] at e2
            rw [e2] at e1
            exact nft e1
          have l6 : es.length = 6 := by
            have e5 : decide (V.int ((ys.length : Nat) : Int) = V.int 6) = true := by simpa using e1
            have e6 := V.int.inj (of_decide_eq_true e5)
            have := rl2.len
            omega
          obtain ⟨d0, d1, d2, d3, d4, d5, rfl⟩ := part6 l6
          obtain ⟨x0, x1, x2, x3, x4, x5, rfl, r0, r1, r2, r3, r4, r5⟩ := repL6 rl2
          have iff := pok_iff (n := xs.length) r0 r1 r2 r3 r4 r5
          have bad2 : pok xs.length x0 x1 x2 x3 x4 x5 = false → ¬ IsSh (.tup ds) := fun e => bad fun z => by
            rw [iff.mpr z] at e
            exact nft e.symm
          obtain ⟨t3, ty3, k3⟩ := any_bool FC.ow r3.any
          refine ⟨_, rfl, b, _, _, _, rfl, rfl, SqT.of hB, rfl, _, _, _, _, _, rfl, .ty _, ty3, k3, _, rfl, iteB (fun e3 => ?_) (fun e3 => ?_)⟩
          · refine ret_f k (bad2 ?_) _ s1
            have e4 : isB x3 = false := by simpa using e3
            unfold pok
            rw [e4]
            simp
          have f3 : isB x3 = true := by simpa using e3
          unfold tNoPart
          refine ⟨_, rfl, _, rfl, ?_⟩
          show rSlA K (V.ref b) none (some 3) H1 _
          refine slA_of hB fun p H2 u1 ep => ?_
          rw [show cutV [x0, x1, x2, x3, x4, x5] none (some 3) = [x0, x1, x2] from rfl] at ep
          have an : ∀ x ∈ [x0, x1, x2], Any CS H2 x := fun x hx => by
            simp only [List.mem_cons, List.not_mem_nil, or_false] at hx
            rcases hx with rfl | rfl | rfl
            · exact r0.any.same u1
            · exact r1.any.same u1
            · exact r2.any.same u1
          refine ⟨p, rfl, ⟨_, SqT.of ep⟩, lcT (fun i => [x0, x1, x2][i]?.map fun x => .bl (okE xs.length x)) ep (show 3 < 100000 by decide) (fun i x H3 hx s2 Y N kY _ => ⟨rfl, _, rfl, rfl, _, rfl, ?_⟩) (fun D H3 s2 nD hD => ?_)⟩
          · refine iteB (fun e => ?_) (fun e => ?_)
            · refine kY _ _ ?_ (L2.Same.refl _)
              show Option.map _ [x0, x1, x2][i]? = _
              rw [hx]
              show some (V.bl (okE xs.length x)) = some (V.bl true)
              rw [okE, e, Bool.true_or]
            · refine ⟨_, rfl, _, rfl, _, _, rfl, rfl, 0, (xs.length : Int) - 1, x, rfl, (an x (List.mem_of_getElem? hx)).same s2, fun H3 s3 => kY _ _ ?_ s3⟩
              show Option.map _ [x0, x1, x2][i]? = _
              rw [hx]
              show some (V.bl (okE xs.length x)) = _
              rw [okE, e, Bool.false_or, wiV_hsV]
          have e4 : fm 3 (fun i => [x0, x1, x2][i]?.map fun x => V.bl (okE xs.length x)) = [okE xs.length x0, okE xs.length x1, okE xs.length x2].map V.bl := rfl
          rw [show [x0, x1, x2].length = 3 from rfl, e4] at hD
          have s12 := (s1.trans u1).trans s2
          refine ⟨D, _, rfl, SqL.of hD, _, rfl, iteB (fun e => ?_) (fun e => ?_)⟩
          · refine ret_f k (bad2 ?_) _ s12
            have e6 : okE xs.length x0 = false ∨ okE xs.length x1 = false ∨ okE xs.length x2 = false := by simpa using e
            unfold pok
            rcases e6 with h | h | h <;> rw [h] <;> simp
          have f012 : okE xs.length x0 = true ∧ okE xs.length x1 = true ∧ okE xs.length x2 = true := by
            have e5 : (okE xs.length x0 && (okE xs.length x1 && (okE xs.length x2 && true))) = true := by simpa using e
            simpa using e5
          have hB3 := s2 _ _ (u1 _ _ hB)
          refine ⟨_, rfl, b, _, _, _, rfl, rfl, SqT.of hB3, rfl, x4, rfl, (r4.any.same u1).same s2, fun H4 s4 => ⟨_, rfl, iteB (fun e5 => iteT ?_) (fun e5 => ?_)⟩⟩
          · refine ret_f k (bad2 ?_) _ (s12.trans s4)
            have e6 : isI x4 = false := by simpa using e5
            unfold pok
            rw [e6]
            simp
          have f4 : isI x4 = true := by simpa using e5
          refine ⟨_, rfl, b, _, _, _, rfl, rfl, SqT.of (s4 _ _ hB3), rfl, x5, rfl, ((r5.any.same u1).same s2).same s4, fun H5 s5 => ⟨_, rfl, iteB (fun e6 => ?_) (fun e6 => ?_)⟩⟩
          · refine ret_f k (bad2 ?_) _ ((s12.trans s4).trans s5)
            have e7 : isI x5 = false := by simpa using e6
            unfold pok
            rw [e7]
            simp
          have f5 : isI x5 = true := by simpa using e6
          refine ⟨_, _, _, _, _, _, _, _, rfl, (s12.trans s4).trans s5, good (iff.mp ?_)⟩
          unfold pok
          rw [f012.1, f012.2.1, f012.2.2, f3, f4, f5]
          rfl
      -- the second loop
      rintro σ H1 ⟨v2, v3, v4, v5, v6, v7, v8, v9, rfl, s1, pr⟩
      rw [show ds.take xs.length = ds by rw [ld, List.take_length]] at pr
      obtain ⟨s, rfl, pin⟩ := parts_of pr
      rw [List.length_map] at ld
      rw [ld] at pin
      have sh : ShA CS H a s := rp
      have k : Ret (.bl (dec (IsSh (dSh s)))) H Q := k
      rw [dec_congr (isSh_iff (s := s)), dec_congr (shOk_iff (by omega) (by omega) pin)] at k
      have ir := up_in pin
      obtain ⟨xs', hA', lx', hat⟩ := sha_at sh
      rw [hA] at hA'
      cases hA'
      refine ⟨_, rfl, _, rfl, by omega, by omega, ?_⟩
      rw [Int.toNat_natCast]
      refine for_range (lo := 0) (n := xs.length) (fun i σ H' => ∃ v2 v3 v4 v5 v6 v7 v8 v9 : Option V, σ = [some (.ref a), some (.int (xs.length : Int)), v2, v3, v4, v5, v6, v7, v8, v9] ∧ L2.Same H H' ∧ ∀ h, h < i → SOk s h ∧ goUp (s.map (·.up)) xs.length h = none)
        ⟨_, _, _, _, _, _, _, _, rfl, s1, fun h hh => absurd hh (by omega)⟩ ?_ ?_
      · rintro i σ H2 hi ⟨v2, v3, v4, v5, v6, v7, v8, v9, rfl, s2, pr2⟩
        rw [Int.zero_add]
        have hp : s[i]? = some s[i] := List.getElem?_eq_getElem (by omega)
        generalize s[i] = p at hp
        obtain ⟨b, hb, hB⟩ := hat i p hp
        refine ⟨_, rfl, _, rfl, a, _, _, _, rfl, rfl, SqT.of (s2 _ _ hA), atI_nat hb, 1, rfl, 3, rfl, ?_⟩
        show rSlA K (V.ref b) (some 1) (some 3) H2 _
        refine slA_of (s2 _ _ hB) fun t H3 u1 et => ?_
        rw [show cutV (vPart p) (some 1) (some 3) = [ov p.left, ov p.right] from rfl] at et
        have s3 := s2.trans u1
        refine ⟨t, _, rfl, SqT.of et, rfl, _, _, rfl, _, _, rfl, rfl, ?_⟩
        have sokI := sok_iff hp
        have nsok : (¬ SOk s i) → ¬ ((∀ h, h < s.length → SOk s h) ∧ Tree (s.map (·.up))) := fun n z => n (z.1 i (by omega))
        refine ⟨_, rfl, rfl, _, rfl, iteB (fun e1 => ⟨_, rfl, _, rfl, ?_, _, rfl, iteB (fun e2 => ?_) (fun e2 => ?_)⟩) (fun e1 => iteF ?_)⟩
        · cases p.left <;> cases p.right <;> rfl
        · -- left is right
          refine ret_f k (nsok fun z => ?_) _ s3
          have e3 : ov p.left = ov p.right := of_decide_eq_true e2
          cases q : p.left with
          | none => rw [q] at e1; exact nft e1
          | some l => exact (sokI.mp z).1 l q (by rw [← ov_inj e3, q])
        all_goals
          have ne : ∀ q, p.left = some q → p.right ≠ some q := fun q h1 h2 => by
            first
            | exact of_decide_eq_false e2 (by rw [h1, h2])
            | (rw [h1] at e1; exact nft e1.symm)
          refine ⟨_, rfl, _, rfl, small (by show 2 ≤ 100000; decide), fun L hL => ⟨L, rfl, ⟨_, SqL.of upd_same⟩, ?_⟩⟩
          have u2 := same_upd (o := .lst [ov p.left, ov p.right]) hL
          have eL : (L2.upd H3 L (.lst [ov p.left, ov p.right])) L = some (.lst [ov p.left, ov p.right]) := upd_same
          generalize L2.upd H3 L (.lst [ov p.left, ov p.right]) = H4 at u2 eL
          have s4 := s3.trans u2
          refine for_list (K := K) (a := L) (xs := [ov p.left, ov p.right]) (fun j σ H' => ∃ v7 : Option V, σ = [some (.ref a), some (.int (xs.length : Int)), v2, v3, some (.int (i : Int)), some (ov p.left), some (ov p.right), v7, v8, v9] ∧ L2.Same H4 H' ∧ ∀ o ∈ [p.left, p.right].take j, ∀ q, o = some q → upIs s i q = true)
            ⟨_, rfl, L2.Same.refl _, fun o ho => nomatch ho⟩ (fun j σ H' _ ⟨_, _, s, _⟩ => SqL.of (s _ _ eL)) ?_ ?_
          · rintro j x σ H5 hx ⟨w7, rfl, s5, pr3⟩
            obtain ⟨o, ho, rfl⟩ : ∃ o, [p.left, p.right][j]? = some o ∧ x = ov o := by
              rw [show [ov p.left, ov p.right] = [p.left, p.right].map ov from rfl, List.getElem?_map] at hx
              cases q : [p.left, p.right][j]? with
              | none => rw [q] at hx; cases hx
              | some o => rw [q] at hx; exact ⟨o, rfl, (Option.some.inj hx).symm⟩
            have om : o = p.left ∨ o = p.right := by
              have := List.mem_of_getElem? ho
              simpa using this
            have good : (∀ q, o = some q → upIs s i q = true) → ∀ o ∈ [p.left, p.right].take (j + 1), ∀ q, o = some q → upIs s i q = true := fun g o' ho' => by
              rw [List.take_add_one, ho] at ho'
              rcases List.mem_append.mp ho' with q | q
              · exact pr3 o' q
              · rw [show o' = o by simpa using q]
                exact g
            refine ⟨_, rfl, rfl, _, rfl, ?_⟩
            cases o with
            | none => exact iteF (iteF ⟨_, rfl, s5, good fun q z => nomatch z⟩)
            | some q =>
              have hq : q < s.length := by
                have z := pin p (List.mem_of_getElem? hp)
                rcases om with m | m
                · exact z.2.1 q m.symm
                · exact z.2.2 q m.symm
              have eq : s[q]? = some s[q] := List.getElem?_eq_getElem hq
              generalize s[q] = pq at eq
              obtain ⟨c, hc, hC⟩ := hat q pq eq
              have s45 := s4.trans s5
              refine iteT ⟨_, rfl, _, rfl, a, _, _, _, rfl, rfl, SqT.of (s45 _ _ hA), atI_nat hc, c, _, _, _, rfl, rfl, SqT.of (s45 _ _ hC), rfl, _, rfl, ?_, _, rfl, iteB (fun e3 => ?_) (fun e3 => ?_)⟩
              · show scal (ov pq.up) (.int (i : Int)) = true
                cases pq.up <;> rfl
              · refine ret_f k (nsok fun z => ?_) _ s45
                have g := (sokI.mp z).2 q (by
                  simp only [so, List.mem_append, Option.mem_toList]
                  exact om.imp (fun m => m.symm) fun m => m.symm)
                unfold upIs at g
                rw [eq] at g
                have g2 : pq.up = some i := of_decide_eq_true g
                have e4 : (!decide (ov pq.up = V.int (i : Int))) = true := e3
                rw [g2, show decide (ov (some i) = V.int (i : Int)) = true from decide_eq_true rfl] at e4
                exact nft e4
              · refine ⟨_, rfl, s5, good fun q' z => ?_⟩
                cases z
                unfold upIs
                rw [eq]
                have e4 : (!decide (ov pq.up = V.int (i : Int))) = false := e3
                have e5 : decide (ov pq.up = V.int (i : Int)) = true := by simpa using e4
                have e6 : ov pq.up = ov (some i) := of_decide_eq_true e5
                exact decide_eq_true (ov_inj e6)
          rintro σ H5 ⟨w7, rfl, s5, pr3⟩
          have sok : SOk s i := sokI.mpr ⟨ne, fun q hq => by
            simp only [so, List.mem_append, Option.mem_toList] at hq
            rcases hq with hq | hq
            · exact pr3 p.left (by simp) q hq
            · exact pr3 p.right (by simp) q hq⟩
          have s45 := s4.trans s5
          refine ⟨_, rfl, _, rfl, _, rfl, by omega, by omega, ?_⟩
          rw [Int.toNat_natCast]
          refine for_range (lo := 0) (n := xs.length) (fun j σ H' => ∃ v9 : Option V, σ = [some (.ref a), some (.int (xs.length : Int)), v2, v3, some (.int (i : Int)), some (ov p.left), some (ov p.right), w7, some (ov (goUp (s.map (·.up)) j i)), v9] ∧ L2.Same H H')
            ⟨_, rfl, s45⟩ ?_ ?_
          · rintro j σ H6 hj ⟨w9, rfl, s6⟩
            refine ⟨_, rfl, rfl, _, rfl, ?_⟩
            have es : goUp (s.map (·.up)) (j + 1) i = (goUp (s.map (·.up)) j i).bind fun x => ((s.map (·.up))[x]?).bind id := rfl
            cases q : goUp (s.map (·.up)) j i with
            | none =>
              rw [q] at es
              refine iteF ⟨some (.int (0 + (j : Int))), ?_, s6⟩
              rw [es]
              rfl
            | some x =>
              rw [q] at es
              have hx : x < s.length := by
                have := goUp_in ir (h := i) (by rw [List.length_map]; omega) q
                rw [List.length_map] at this
                exact this
              have eq : s[x]? = some s[x] := List.getElem?_eq_getElem hx
              generalize s[x] = px at eq
              obtain ⟨c, hc, hC⟩ := hat x px eq
              refine iteT ⟨_, rfl, _, rfl, a, _, _, _, rfl, rfl, SqT.of (s6 _ _ hA), atI_nat hc, c, _, _, _, rfl, rfl, SqT.of (s6 _ _ hC), rfl, some (.int (0 + (j : Int))), ?_, s6⟩
              rw [es]
              show _ = [some (V.ref a), some (V.int (xs.length : Int)), v2, v3, some (V.int (i : Int)), some (ov p.left), some (ov p.right), w7, some (ov (((s.map (·.up))[x]?).bind id)), _]
              rw [List.getElem?_map, eq]
              rfl
          · rintro σ H6 ⟨w9, rfl, s6⟩
            refine ⟨_, rfl, rfl, _, rfl, ?_⟩
            cases q : goUp (s.map (·.up)) xs.length i with
            | none =>
              refine iteF ⟨_, _, _, _, _, _, _, _, rfl, s6, fun h hh => ?_⟩
              by_cases e : h = i
              · rw [e]
                exact ⟨sok, q⟩
              · exact pr2 h (by omega)
            | some x =>
              refine iteT (ret_f k (fun z => ?_) _ s6)
              have c := (z.2 i (by rw [List.length_map]; omega)).1
              have := goUp_ch c xs.length (by have := c.len; rw [List.length_map] at this; omega)
              rw [q] at this
              cases this
      · rintro σ H2 ⟨v2, v3, v4, v5, v6, v7, v8, v9, rfl, s2, pr2⟩
        refine ret_t k ⟨fun h hh => (pr2 h (by omega)).1, tree_iff.mpr fun h hh => ?_⟩ _ s2
        rw [List.length_map] at hh
        exact goUp_none ir xs.length h (by rw [List.length_map]; exact hh) (pr2 h (by omega)).2

end
end W2
namespace W2
open PySem PySem.Spec PyProof.Rows L2
section
variable {P : Program} {w : World} {K : PySem.W.Frag} {mg : Str → Option Value} {base : Heap} {CS : List Addr}
theorem ok_ishouse (D : Def K mg "is_house" s_ishouse ["many", "thing"]) (T : Txt K mg) (C_between : Cal P w K mg base 2 "is_between" ["least", "most", "thing"] (spBetween CS)) : Cal P w K mg base 3 "is_house" ["many", "thing"] (spIsHouse CS) := by
  refine D.cal sc_ishouse (fun vs H Q E h => ?_) (fun f cdv A outer s H vs Q E hr h => ?_)
  · obtain ⟨n, x, rfl, _⟩ := h
    rfl
  · obtain ⟨n, x, rfl, an, k⟩ := h
    refine ⟨_, (pss_one (ps_ret (pcal C_between hr (by decide) rfl (pa_cons pe_int (pa_cons (pe_op op_sub (pv 0) pe_int) (pa_cons (pv 1) pa_nil)))))), ?_⟩
    exact ⟨_, rfl, _, _, rfl, rfl, _, rfl, 0, n - 1, x, rfl, an, k⟩

end
end W2
namespace W2
open PySem PySem.Spec PyProof.Rows L2
section
variable {P : Program} {w : World} {K : PySem.W.Frag} {mg : Str → Option Value} {base : Heap} {CS : List Addr}
theorem ok_ismany (D : Def K mg "is_many" s_ismany ["thing"]) (T : Txt K mg) (C_between : Cal P w K mg base 2 "is_between" ["least", "most", "thing"] (spBetween CS)) : Cal P w K mg base 3 "is_many" ["thing"] (spIsMany CS) := by
  obtain ⟨tk_MOST_HOUSES, h_MOST_HOUSES⟩ := T.c_MOST_HOUSES
  refine D.cal sc_ismany (fun vs H Q E h => ?_) (fun f cdv A outer s H vs Q E hr h => ?_)
  · obtain ⟨x, rfl, _⟩ := h
    rfl
  · obtain ⟨x, rfl, an, k⟩ := h
    refine ⟨_, (pss_one (ps_ret (pcal C_between hr (by decide) rfl (pa_cons pe_int (pa_cons (pe_glob (v := .int 64) rfl h_MOST_HOUSES ⟨_, rfl⟩) (pa_cons (pv 0) pa_nil)))))), ?_⟩
    exact ⟨_, rfl, 1, 64, x, rfl, an, k⟩

end
end W2
namespace W2
open PySem PySem.Spec PyProof.Rows L2
section
variable {P : Program} {w : World} {K : PySem.W.Frag} {mg : Str → Option Value} {base : Heap} {CS : List Addr}
theorem ok_lshape (D : Def K mg "_law_shape" s_lshape ["_law_hand_here", "_law_many_here"]) (T : Txt K mg) (C_lshuf : Cal P w K mg base 2 "_law_shuffled" ["_law_hand_here", "_law_many_here"] (spShuf K)) (C_lhouse : Cal P w K mg base 1 "_law_house" ["_law_up", "_law_value_here"] spHouse) (C_lvalue : Cal P w K mg base 2 "_law_value" ["_law_hand_here"] spValue) (C_take16 : Cal P w K mg base 1 "_law_draw" ["_law_hand_here", "_law_many_here"] spTake) : Cal P w K mg base 3 "_law_shape" ["_law_hand_here", "_law_many_here"] (spShape CS) := by
  refine D.cal sc_lshape (fun vs H Q E h => ?_) (fun f cdv A outer s H vs Q E hr h => ?_)
  · obtain ⟨h, l, n, rfl, _⟩ := h
    rfl
  · obtain ⟨h, l, n, rfl, HH, n1, n64, k⟩ := h
    refine ⟨_, (pss_cons (ps_set (i := 2) sc_lshape.nd rfl (Or.inl rfl) (pcal C_lshuf hr (by omega) rfl (pa_cons (pv 0) (pa_cons (pv 1) pa_nil))))
      (pss_cons (ps_setLc (i := 3) (own := [("_law_house_here", 4)]) (g := gName 4) (tt := tYes) (by rfl) sc_lshape.nd rfl rfl (sw_true rfl rfl rfl (by decide +kernel)) (pi_range1 rfl T.n_range (pa_cons (pv 1) pa_nil)) (blkOk_by (own := [("_law_house_here", 4)]) (N := ["_law_hand_here", "_law_many_here", "_law_order", "_law_found", "_law_house_here", "_law_kind", "_law_at", "_law_mine", "_law_other", "_law_theirs", "_law_side", "_law_row"]) (sc := defScope s_lshape) (by decide +kernel)) (fun _ _ _ _ _ => pg_name (i := 4) sc_lshape.nd rfl (Or.inl rfl)) (fun _ _ _ _ _ => pts_nil) (fun _ _ _ _ _ => (pcal C_lhouse hr (by omega) rfl (pa_cons pe_non (pa_cons (pcal C_lvalue hr (by omega) rfl (pa_cons (pv 0) pa_nil)) pa_nil)))))
      (pss_cons (ps_set (i := 5) sc_lshape.nd rfl (Or.inl rfl) (pcal C_take16 hr (by omega) rfl (pa_cons (pv 0) (pa_cons pe_int pa_nil))))
      (pss_cons (ps_for PassesOwn.never rfl (pi_range1 rfl T.n_range (pa_cons (pv 1) pa_nil)) (pg_name (i := 6) sc_lshape.nd rfl (Or.inl rfl)) (pss_cons (ps_set (i := 7) sc_lshape.nd rfl (Or.inl rfl) (pe_ix (ix_listK (K := K) rfl) (pv 3) (pe_ix (ix_listK (K := K) rfl) (pv 2) (pv 6) (fun _ _ => rfl)) (fun _ _ => rfl)))
      (pss_cons (ps_asg (pe_cmpR op_eq (pcal C_take16 hr (by omega) rfl (pa_cons (pv 0) (pa_cons pe_int pa_nil))) pe_int (nomark _)) (pg_sub (pv 7) pe_int set_list))
      (pss_cons (ps_asg (pe_ix (ix_listK (K := K) rfl) (pe_lst (pa_cons pe_int (pa_cons pe_int (pa_cons pe_int (pa_cons pe_int (pa_cons (pe_un un_neg pe_int) (pa_cons (pe_op op_pow pe_int pe_int) pa_nil))))))) (pcal C_take16 hr (by omega) rfl (pa_cons (pv 0) (pa_cons pe_int pa_nil))) (fun _ _ => rfl)) (pg_sub (pv 7) pe_int set_list))
      (pss_one (ps_if (pt_cmpR op_gt (pv 6) pe_int (nomark _)) (pss_cons (ps_set (i := 8) sc_lshape.nd rfl (Or.inl rfl) (pe_ix (ix_listK (K := K) rfl) (pv 2) (pe_op op_sub (pe_op op_sub (pv 6) pe_int) (pcal C_take16 hr (by omega) rfl (pa_cons (pv 0) (pa_cons (pe_ix (ix_listK (K := K) rfl) (pe_lst (pa_cons (pv 6) (pa_cons (pe_callB (call_min2 rfl) (by rfl) T.n_min (by decide +kernel) (pa_cons (pv 6) (pa_cons pe_int pa_nil))) (pa_cons pe_int (pa_cons (pv 6) pa_nil))))) (pv 5) (fun _ _ => rfl)) pa_nil)))) (fun _ _ => rfl)))
      (pss_cons (ps_set (i := 9) sc_lshape.nd rfl (Or.inl rfl) (pe_ix (ix_listK (K := K) rfl) (pv 3) (pv 8) (fun _ _ => rfl)))
      (pss_cons (ps_set (i := 10) sc_lshape.nd rfl (Or.inl rfl) (pe_op op_add pe_int (pcal C_take16 hr (by omega) rfl (pa_cons (pv 0) (pa_cons pe_int pa_nil)))))
      (pss_one (ps_if (pt_cmpR op_gt (pcal C_take16 hr (by omega) rfl (pa_cons (pv 0) (pa_cons pe_int pa_nil))) pe_int (nomark _)) (pss_cons (ps_asg (pv 8) (pg_sub (pv 7) pe_int set_list))
      (pss_one (ps_if (PW.pt (pw_and (pt_cmpR op_isN (pe_ix (ix_listK (K := K) rfl) (pv 9) (pv 10) (fun _ _ => rfl)) pe_non (nomark _)) (pw_and1 (pt_cmpR op_gt (pcal C_take16 hr (by omega) rfl (pa_cons (pv 0) (pa_cons pe_int pa_nil))) pe_int (nomark _))))) (pss_one (ps_asg (pe_ix (ix_listK (K := K) rfl) (pv 2) (pv 6) (fun _ _ => rfl)) (pg_sub (pv 9) (pv 10) set_list))) pss_nil))) pss_nil))))) pss_nil))))))
      (pss_one (ps_ret (pe_callTy (call_tuple_ofK (K := K) rfl) (by rfl) T.n_tuple (by decide +kernel) (pa_cons (pe_lc (own := [("_law_row", 11)]) (g := gName 11) (tt := tYes) (by rfl) sc_lshape.nd (pi_list (pv 3)) (blkOk_by (own := [("_law_row", 11)]) (N := ["_law_hand_here", "_law_many_here", "_law_order", "_law_found", "_law_house_here", "_law_kind", "_law_at", "_law_mine", "_law_other", "_law_theirs", "_law_side", "_law_row"]) (sc := defScope s_lshape) (by decide +kernel)) (fun _ _ _ _ _ => pg_name (i := 11) sc_lshape.nd rfl (Or.inl rfl)) (fun _ _ _ _ _ => pts_nil) (fun _ _ _ _ _ => (pe_callTy (call_tuple_ofK (K := K) rfl) (by rfl) T.n_tuple (by decide +kernel) (pa_cons (pv 11) pa_nil)))) pa_nil)))))))), ?_⟩
    refine ⟨_, rfl, _, rfl, h, l, n, rfl, HH, n64, fun H1 o od b1 hh1 no eo pm => ?_⟩
    have noh : o ≠ h := HH.nn no
    -- found
    refine ⟨_, rfl, _, rfl, by omega, by omega, ?_⟩
    rw [Int.toNat_natCast]
    intro D hD
    have nDh : D ≠ h := hh1.nn hD
    refine lc_range (lo := 0) (n := n) (fun i H' => ∃ (ad : List Addr) (s : Sh), LSh H' D ad s ∧ s.length = i ∧ (∀ p ∈ s, p.up = none ∧ p.left = none ∧ p.right = none) ∧ (∀ a ∈ ad, H1 a = none) ∧ Bt h H1 H' ∧ Hand H' h l)
      ⟨[], [], ⟨upd_same, rfl, .nil, (fun m => nomatch m), fun i a p e => nomatch e⟩, rfl, (fun p m => nomatch m), (fun p m => nomatch m), Bt.of (same_upd hD), hh1.upd hD⟩ ?_ ?_
    · rintro i H2 hi ⟨ad, s, L, ls, fr, na, b2, hh2⟩
      refine ⟨rfl, ⟨_, rfl, h, l, rfl, hh2, fun H3 v b3 hh3 => ⟨.non, .int v, rfl, fun H4 p s4 np ep => ?_⟩⟩⟩
      have nL : ∀ b, b = D ∨ b ∈ ad → b ≠ h := fun b m => by
        rcases m with rfl | m
        · exact nDh
        · exact (hh1.nn (na b m))
      have sm : ∀ b o, b = D ∨ b ∈ ad → H2 b = some o → H4 b = some o := fun b o m e => s4 _ _ (b3 _ _ (nL b m) e)
      have np2 : H2 p = none := b3.free (hh3.nn np) np
      refine ⟨_, sm _ _ (.inl rfl) L.f, by rw [List.length_map, L.len, ls]; exact smalls (by omega), ad ++ [p], s ++ [newPart v], ?_, by rw [List.length_append, ls]; rfl, ?_, ?_, ?_, ?_⟩
      · have := L.push (q := newPart v) sm np2 ep
        rw [List.map_append] at this
        exact this
      · intro q hq
        rcases List.mem_append.mp hq with m | m
        · exact fr q m
        · rw [List.mem_singleton.mp m]
          exact ⟨rfl, rfl, rfl⟩
      · intro a ha
        rcases List.mem_append.mp ha with m | m
        · exact na a m
        · rw [List.mem_singleton.mp m]
          exact b2.free ((hh3.nn np)) np2
      · intro c u nc e
        rw [upd_ne (ne_of_none e hD)]
        exact s4 _ _ (b3 _ _ nc (b2 _ _ nc e))
      · exact (hh3.same s4).set nDh (fun z => by
          obtain ⟨ns, e⟩ := hh1.row
          rw [z, e] at hD
          cases hD)
    rintro H2 ⟨ad, s, L, ls, fr, na, b2, hh2⟩
    have eo2 := b2 _ _ noh eo
    have nod : od.Nodup := pm.nodup_iff.mpr List.nodup_range
    have lod : od.length = n := by rw [pm.length_eq, List.length_range]
    -- kind
    refine ⟨_, rfl, h, l, 4, rfl, hh2, by decide, by decide, fun H3 kd b3 hh3 kd4 => ?_⟩
    have L3 := L.bt hh2 (by omega) b3
    refine ⟨_, rfl, _, rfl, by omega, by omega, ?_⟩
    rw [Int.toNat_natCast]
    have noD : o ≠ D := ne_of_none eo hD
    have noa : o ∉ ad := fun m => by
      have := na o m
      rw [eo] at this
      cases this
    refine for_range (lo := 0) (n := n) (fun i σ H' => ∃ (v4 v6 v7 v8 v9 v10 v11 : Option V) (s : Sh), σ = [some (.ref h), some (.int (n : Int)), some (.ref o), some (.ref D), v4, some (.int (kd : Int)), v6, v7, v8, v9, v10, v11] ∧ LSh H' D ad s ∧ s.length = n ∧ DrI od i s ∧ Bt h H1 H' ∧ Hand H' h l)
      ⟨_, _, _, _, _, _, _, s, rfl, L3, ls, drI_new fr, b2.trans b3, hh3⟩ ?_ ?_
    · rintro i σ H4 hi ⟨v4, v6, v7, v8, v9, v10, v11, s, rfl, L4, ls, d4, b4, hh4⟩
      rw [Int.zero_add]
      have up1 : ∀ {H' : Hp} {a : Addr} {u : HO}, Bt h H1 H' → a ∈ ad → Bt h H1 (L2.upd H' a u) := fun b m c w nc e => by
        have : c ≠ _ := ne_of_none e (na _ m)
        rw [upd_ne this]
        exact b _ _ nc e
      have hi2 : i < od.length := by omega
      have em : od[i]? = some od[i] := List.getElem?_eq_getElem hi2
      generalize od[i] = m at em
      have gm : (od.map nv)[i]? = some (nv m) := by rw [List.getElem?_map, em]; rfl
      have hm : m < s.length := by
        have := pm.mem_iff.mp (List.mem_of_getElem? em)
        rw [List.mem_range] at this
        omega
      have ep : s[m]? = some s[m] := List.getElem?_eq_getElem hm
      generalize s[m] = p at ep
      obtain ⟨am, eam, gam, ea, naD⟩ := L4.get ep
      have amm : am ∈ ad := List.mem_of_getElem? eam
      have eo4 := b4 _ _ noh eo
      -- mine = found[order[at]]
      refine ⟨_, rfl, _, rfl, _, rfl, o, _, _, _, rfl, rfl, SqL.of eo4, atI_nat gm, D, _, _, _, rfl, rfl, SqL.of L4.f, atI_nat gam, ?_⟩
      -- mine[3] = draw == 0
      refine ⟨_, rfl, h, l, 3, rfl, hh4, by decide, by decide, fun H5 r5 b5 hh5 r51 => ⟨rfl, ?_⟩⟩
      have L5 := L4.bt hh4 (by omega) b5
      have ea5 := L5.at_ m am p eam ep
      have sep5 := L5.sep hh5 (by omega)
      refine ⟨_, rfl, am, _, _, 3, rfl, rfl, ea5, rfl, ?_⟩
      generalize decide (V.int (r5 : Int) = V.int 0) = tb
      rw [show (vPart p).set 3 (V.bl tb) = vPart { p with turned := tb } from rfl]
      have L6 := L5.set (p' := { p with turned := tb }) eam
      have hh6 : Hand (L2.upd H5 am (.lst (vPart { p with turned := tb }))) h l := hh5.set (fun z => sep5.1.2 (z ▸ amm)) (fun z => sep5.2.2 (z ▸ amm))
      have b6 := up1 (u := .lst (vPart { p with turned := tb })) (b4.trans b5) amm
      generalize L2.upd H5 am (.lst (vPart { p with turned := tb })) = H6 at L6 hh6 b6
      -- mine[4] = [..][draw]
      refine ⟨7, rfl, 10, 18, rfl, rfl, ⟨by decide, by decide, by decide⟩, small (by show 6 ≤ 100000; decide), fun t ht => ?_⟩
      refine ⟨_, rfl, h, l, 6, rfl, hh6.upd ht, by decide, by decide, fun H7 r7 b7 hh7 r71 => ?_⟩
      refine ixL_any (b7 _ _ (hh6.nn ht) upd_same) r71 rfl fun v hv => ?_
      obtain ⟨z, rfl⟩ : ∃ z : Int, v = .int z := by
        simp only [List.mem_cons, List.not_mem_nil, or_false] at hv
        rcases hv with rfl | rfl | rfl | rfl | rfl | rfl <;> exact ⟨_, rfl⟩
      clear hv
      have L7 := (L6.same (same_upd (o := .lst [V.int 0, V.int 0, V.int 0, V.int 1, V.int (-7), V.int (10 ^ (18 : Int).toNat)]) ht)).bt (hh6.upd ht) (by rw [List.length_set]; omega) b7
      have b7' : Bt h H1 H7 := (b6.new ht).trans b7
      have ep7 : (s.set m { p with turned := tb })[m]? = some { p with turned := tb } := List.getElem?_set_self hm
      have ea7 := L7.at_ m am _ eam ep7
      have sep7 := L7.sep hh7 (by rw [List.length_set]; omega)
      refine ⟨_, rfl, am, _, _, 4, rfl, rfl, ea7, rfl, ?_⟩
      rw [show (vPart { p with turned := tb }).set 4 (V.int z) = vPart { p with turned := tb, added := z } from rfl]
      have L8 := L7.set (p' := { p with turned := tb, added := z }) eam
      rw [List.set_set] at L8
      have hh8 : Hand (L2.upd H7 am (.lst (vPart { p with turned := tb, added := z }))) h l := hh7.set (fun z => sep7.1.2 (z ▸ amm)) (fun z => sep7.2.2 (z ▸ amm))
      have b8 := up1 (u := .lst (vPart { p with turned := tb, added := z })) b7' amm
      generalize L2.upd H7 am (.lst (vPart { p with turned := tb, added := z })) = H8 at L8 hh8 b8
      have d8 := d4.same (p' := { p with turned := tb, added := z }) ep ⟨rfl, rfl, rfl⟩
      have ep8 : (s.set m { p with turned := tb, added := z })[m]? = some { p with turned := tb, added := z } := List.getElem?_set_self hm
      have ls8 : (s.set m { p with turned := tb, added := z }).length = n := by rw [List.length_set]; exact ls
      clear L4 L5 L6 L7 d4 sep5 sep7 b6 b7 hh6 hh7 b5 hh5 ea7 ep7 ea5 b7' hh4 b4 ea
      generalize ({ p with turned := tb, added := z } : Part) = p2 at L8 d8 ep8 ls8
      generalize s.set m p2 = s8 at L8 d8 ep8 ls8
      -- if at > 0
      refine ⟨_, rfl, _, _, rfl, rfl, _, rfl, iteB (fun g => ?_) (fun _ => ⟨_, _, _, _, _, _, _, s8, rfl, L8, ls8, d8.succ, b8, hh8⟩)⟩
      have i0 : 0 < i := by have := of_decide_eq_true g; omega
      refine ⟨_, rfl, _, rfl, _, _, rfl, rfl, _, rfl, _, rfl, _, rfl, _, _, rfl, _, rfl, small (by show 4 ≤ 100000; decide), fun t ht => ⟨_, rfl, ?_⟩⟩
      refine ixL_any upd_same kd4 rfl fun v hv => ?_
      obtain ⟨c, rfl, c1, c2⟩ : ∃ c : Int, v = .int c ∧ 1 ≤ c ∧ c ≤ (i : Int) := by
        simp only [List.mem_cons, List.not_mem_nil, or_false] at hv
        rcases hv with rfl | rfl | rfl | rfl
        · exact ⟨_, rfl, by omega, by omega⟩
        · refine ⟨_, rfl, ?_, ?_⟩ <;> split <;> omega
        · exact ⟨_, rfl, by omega, by omega⟩
        · exact ⟨_, rfl, by omega, by omega⟩
      clear hv
      have L9 := L8.same (same_upd (o := .lst [V.int (i : Int), V.int (if (2 : Int) < (i : Int) then 2 else (i : Int)), V.int 1, V.int (i : Int)]) ht)
      have hh9 : Hand (L2.upd H8 t (.lst [V.int (i : Int), V.int (if (2 : Int) < (i : Int) then 2 else (i : Int)), V.int 1, V.int (i : Int)])) h l := hh8.upd ht
      have b9 : Bt h H1 (L2.upd H8 t (.lst [V.int (i : Int), V.int (if (2 : Int) < (i : Int) then 2 else (i : Int)), V.int 1, V.int (i : Int)])) := b8.new ht
      generalize L2.upd H8 t (.lst [V.int (i : Int), V.int (if (2 : Int) < (i : Int) then 2 else (i : Int)), V.int 1, V.int (i : Int)]) = H9 at L9 hh9 b9
      refine ⟨h, l, c, rfl, hh9, by omega, by omega, fun H10 r b10 hh10 rlt => ⟨_, _, rfl, rfl, ?_⟩⟩
      have L10 := L9.bt hh9 (by omega) b10
      have b10' := b9.trans b10
      obtain ⟨j, ej, ji⟩ : ∃ j : Nat, (i : Int) - 1 - (r : Int) = (j : Int) ∧ j < i := ⟨((i : Int) - 1 - (r : Int)).toNat, by omega, by omega⟩
      have hj2 : j < od.length := by omega
      have eg : od[j]? = some od[j] := List.getElem?_eq_getElem hj2
      generalize od[j] = go at eg
      have gg : (od.map nv)[j]? = some (nv go) := by rw [List.getElem?_map, eg]; rfl
      have hgo : go < s8.length := by
        have := pm.mem_iff.mp (List.mem_of_getElem? eg)
        rw [List.mem_range] at this
        omega
      refine ⟨o, _, _, _, rfl, rfl, SqL.of (b10' _ _ noh eo), at_of ej gg, ?_⟩
      have nmg : m ≠ go := fun z => by
        subst z
        have := nd_ix nod em eg
        omega
      have eq8 : s8[go]? = some s8[go] := List.getElem?_eq_getElem hgo
      generalize s8[go] = pg at eq8
      obtain ⟨ao, eao, gao, eA, naoD⟩ := L10.get eq8
      refine ⟨_, rfl, _, rfl, D, _, _, _, rfl, rfl, SqL.of L10.f, atI_nat gao, ?_⟩
      refine ⟨_, rfl, h, l, 2, rfl, hh10, by decide, by decide, fun H11 r2 b11 hh11 r21 => ⟨_, _, rfl, rfl, ?_⟩⟩
      have L11 := L10.bt hh10 (by omega) b11
      refine ⟨_, rfl, h, l, 8, rfl, hh11, by decide, by decide, fun H12 r3 b12 hh12 r31 => ⟨_, _, rfl, rfl, _, rfl, ?_⟩⟩
      have L12 := L11.bt hh11 (by omega) b12
      have b12' := (b10'.trans b11).trans b12
      refine iteB (fun _ => ?_) (fun _ => ⟨_, _, _, _, _, _, _, s8, rfl, L12, ls8, d8.succ, b12', hh12⟩)
      -- mine[0] = other
      have sep12 := L12.sep hh12 (by omega)
      refine ⟨_, rfl, _, rfl, am, _, _, 0, rfl, rfl, L12.at_ m am _ eam ep8, rfl, ?_⟩
      rw [show (vPart p2).set 0 (nv go) = vPart { p2 with up := some go } from rfl]
      have L13 := L12.set (p' := { p2 with up := some go }) eam
      have hh13 : Hand (L2.upd H12 am (.lst (vPart { p2 with up := some go }))) h l := hh12.set (fun z => sep12.1.2 (z ▸ amm)) (fun z => sep12.2.2 (z ▸ amm))
      have b13 := up1 (u := .lst (vPart { p2 with up := some go })) b12' amm
      generalize L2.upd H12 am (.lst (vPart { p2 with up := some go })) = H13 at L13 hh13 b13
      have hm8 : m < s8.length := (List.getElem?_eq_some_iff.mp ep8).1
      have d13 := d8.link nod em eg ji ep8
      have ns := d8.noson em ep8 go pg eq8
      have ep13 : (s8.set m { p2 with up := some go })[m]? = some { p2 with up := some go } := List.getElem?_set_self hm8
      have eq13 : (s8.set m { p2 with up := some go })[go]? = some pg := by rw [List.getElem?_set_ne nmg]; exact eq8
      have ls13 : (s8.set m { p2 with up := some go }).length = n := by rw [List.length_set]; exact ls8
      have eA13 := L13.at_ go ao pg eao eq13
      refine ⟨_, rfl, _, rfl, ao, _, _, _, rfl, rfl, SqL.of eA13, side_at r21 pg, rfl, _, rfl, ?_⟩
      cases es : sideOf r2 pg with
      | some q => exact iteF (iteF ⟨_, _, _, _, _, _, _, _, rfl, L13, ls13, d13, b13, hh13⟩)
      | none =>
        refine iteT ⟨_, rfl, h, l, 4, rfl, hh13, by decide, by decide, fun H14 r4 b14 hh14 r41 => ⟨_, _, rfl, rfl, _, rfl, ?_⟩⟩
        have L14 := L13.bt hh13 (by omega) b14
        have b14' := b13.trans b14
        refine iteB (fun _ => ?_) (fun _ => ⟨_, _, _, _, _, _, _, _, rfl, L14, ls13, d13, b14', hh14⟩)
        have aom : ao ∈ ad := List.mem_of_getElem? eao
        have sep14 := L14.sep hh14 (by omega)
        refine ⟨_, rfl, _, rfl, o, _, _, _, rfl, rfl, SqL.of (b14' _ _ noh eo), atI_nat gm, ?_⟩
        refine ⟨_, rfl, _, rfl, ao, _, _, _, rfl, rfl, L14.at_ go ao pg eao eq13, side_ix r21, ?_⟩
        rw [side_set r21]
        have L15 := L14.set (p' := setSide r2 pg m) eao
        have d15 := d13.hang ep13 rfl eq13 ns (side_hang r21 es)
        exact ⟨_, _, _, _, _, _, _, _, rfl, L15, by rw [List.length_set]; exact ls13, d15, up1 b14' aom, hh14.set (fun z => sep14.1.2 (z ▸ aom)) (fun z => sep14.2.2 (z ▸ aom))⟩
    · rintro σ H4 ⟨v4, v6, v7, v8, v9, v10, v11, s, rfl, L4, ls, d4, b4, hh4⟩
      have ok := d4.ok pm ls n1 n64
      refine ⟨_, rfl, D, rfl, ⟨_, SqL.of L4.f⟩, lcOL (fun i => .tup (vPart (s.getD i default))) L4.f (by rw [List.length_map, L4.len]; omega) (fun i x H5 Y N hx s5 kY => ?_) (fun D2 H5 bs s5 nD2 hD2 lb hb => ?_)⟩
      · have hi : i < s.length := by rw [← L4.len, ← List.length_map (f := V.ref)]; exact (List.getElem?_eq_some_iff.mp hx).1
        have ep : s[i]? = some s[i] := List.getElem?_eq_getElem hi
        obtain ⟨a, ea, ga, eA, _⟩ := L4.get ep
        rw [hx] at ga
        cases ga
        refine ⟨rfl, _, rfl, a, _, rfl, .inl ⟨SqL.of (s5 _ _ eA), fun b nb => kY b _ nb (same_upd nb) ?_⟩⟩
        rw [upd_same, List.getD_eq_getElem?_getD, ep]
        rfl
      · rw [List.length_map, L4.len] at lb
        refine ⟨D2, _, rfl, .inl ⟨SqL.of hD2, fun T hT => ?_⟩⟩
        have s6 := s5.trans (same_upd (o := .tup (bs.map V.ref)) hT)
        refine k _ T s (b1.trans (b4.trans (Bt.of s6))) (hh4.same s6) (sha_of upd_same (by rw [List.length_map, lb]) fun i p x ep ex => ?_) ok ls
        rw [List.getElem?_map] at ex
        cases eb : bs[i]? with
        | none => rw [eb] at ex; cases ex
        | some b =>
          rw [eb] at ex
          have e2 := (hb i b eb).2
          rw [List.getD_eq_getElem?_getD, ep] at e2
          exact ⟨b, (Option.some.inj ex).symm, same_upd hT _ _ e2⟩

end
end W2
namespace W2
open PySem PySem.Spec PyProof.Rows L2
section
variable {P : Program} {w : World} {K : PySem.W.Frag} {mg : Str → Option Value} {base : Heap} {CS : List Addr}
theorem ok_lbent7 (D : Def K mg "_law_bent" s_lbent7 ["_law_hand_here", "_law_shape_here"]) (T : Txt K mg) (C_take16 : Cal P w K mg base 1 "_law_draw" ["_law_hand_here", "_law_many_here"] spTake) (C_ldeep : Cal P w K mg base 2 "_law_deep" ["_law_hand_here"] (spDeep CS)) : Cal P w K mg base 3 "_law_bent" ["_law_hand_here", "_law_shape_here"] (spBent7 CS) := by
  refine D.cal sc_lbent7 (fun vs H Q E h => ?_) (fun f cdv A outer s H vs Q E hr h => ?_)
  · obtain ⟨h, l, a, s, rfl, _⟩ := h
    rfl
  · obtain ⟨h, l, a, s, rfl, HH, sh, ok, k⟩ := h
    refine ⟨_, (pss_cons (ps_set (i := 2) sc_lbent7.nd rfl (Or.inl rfl) (pcal C_take16 hr (by omega) rfl (pa_cons (pv 0) (pa_cons (pe_callB (call_lenK (K := K) rfl) (by rfl) T.n_len PySem.boot_len (pa_cons (pv 1) pa_nil)) pa_nil))))
      (pss_cons (ps_set (i := 3) sc_lbent7.nd rfl (Or.inl rfl) (pe_ix (ix_tupK (K := K) rfl) (pv 1) (pv 2) (fun _ _ => rfl)))
      (pss_cons (ps_set (i := 4) sc_lbent7.nd rfl (Or.inl rfl) (pcal C_take16 hr (by omega) rfl (pa_cons (pv 0) (pa_cons pe_int pa_nil))))
      (pss_cons (ps_if (pt_cmpR op_eq (pv 4) pe_int (nomark _)) (pss_cons (ps_set (i := 5) sc_lbent7.nd rfl (Or.inl rfl) (pe_lst (pa_cons pe_non (pa_cons pe_int (pa_cons pe_str (pa_cons (pe_dnewK) (pa_cons (pe_tup pa_nil) (pa_cons (pe_callTy (call_list_ofK (K := K) rfl) (by rfl) T.n_list (by decide +kernel) (pa_cons (pv 1) pa_nil)) (pa_cons (pe_slice (sl_tupAK (K := K) rfl) (pv 1) (po_some pe_int) po_none) (pa_cons (pe_op op_catA (pv 1) (pe_slice (sl_tupAK (K := K) rfl) (pv 1) po_none (po_some pe_int))) (pa_cons (pe_op op_repT (pe_tup (pa_cons (pv 3) pa_nil)) pe_int) (pa_cons (pcal C_ldeep hr (by omega) rfl (pa_cons (pv 0) pa_nil)) pa_nil))))))))))))
      (pss_one (ps_ret (pe_ix (ix_listK (K := K) rfl) (pv 5) (pcal C_take16 hr (by omega) rfl (pa_cons (pv 0) (pa_cons pe_int pa_nil))) (fun _ _ => rfl))))) pss_nil)
      (pss_cons (ps_if (pt_cmpR op_eq (pv 4) pe_int (nomark _)) (pss_cons (ps_set (i := 6) sc_lbent7.nd rfl (Or.inl rfl) (pe_ix (ix_listK (K := K) rfl) (pe_lst (pa_cons (pe_callTy (call_list_ofK (K := K) rfl) (by rfl) T.n_list (by decide +kernel) (pa_cons (pv 3) pa_nil)) (pa_cons (pe_slice (sl_tupAK (K := K) rfl) (pv 3) po_none (po_some pe_int)) (pa_cons (pe_op op_catA (pv 3) (pe_tup (pa_cons pe_int pa_nil))) (pa_cons pe_non (pa_cons (pe_tup pa_nil) (pa_cons pe_int pa_nil))))))) (pcal C_take16 hr (by omega) rfl (pa_cons (pv 0) (pa_cons pe_int pa_nil))) (fun _ _ => rfl)))
      (pss_one (ps_ret (pe_op op_catA (pe_op op_catA (pe_slice (sl_tupAK (K := K) rfl) (pv 1) po_none (po_some (pv 2))) (pe_tup (pa_cons (pv 6) pa_nil))) (pe_slice (sl_tupAK (K := K) rfl) (pv 1) (po_some (pe_op op_add (pv 2) pe_int)) po_none))))) pss_nil)
      (pss_cons (ps_if (pt_cmpR op_eq (pv 4) pe_int (nomark _)) (pss_cons (ps_set (i := 7) sc_lbent7.nd rfl (Or.inl rfl) (pe_op op_add pe_int (pcal C_take16 hr (by omega) rfl (pa_cons (pv 0) (pa_cons pe_int pa_nil)))))
      (pss_cons (ps_set (i := 5) sc_lbent7.nd rfl (Or.inl rfl) (pe_lst (pa_cons pe_non (pa_cons pe_bl (pa_cons pe_bl (pa_cons pe_int (pa_cons pe_int (pa_cons pe_str (pa_cons (pe_tup (pa_cons pe_int pa_nil)) (pa_cons (pe_un un_neg pe_int) (pa_cons (pe_op op_pow pe_int pe_int) pa_nil)))))))))))
      (pss_one (ps_ret (pe_op op_catA (pe_op op_catA (pe_slice (sl_tupAK (K := K) rfl) (pv 1) po_none (po_some (pv 2))) (pe_tup (pa_cons (pe_op op_catA (pe_op op_catA (pe_slice (sl_tupAK (K := K) rfl) (pv 3) po_none (po_some (pv 7))) (pe_tup (pa_cons (pe_ix (ix_listK (K := K) rfl) (pv 5) (pcal C_take16 hr (by omega) rfl (pa_cons (pv 0) (pa_cons pe_int pa_nil))) (fun _ _ => rfl)) pa_nil))) (pe_slice (sl_tupAK (K := K) rfl) (pv 3) (po_some (pe_op op_add (pv 7) pe_int)) po_none)) pa_nil))) (pe_slice (sl_tupAK (K := K) rfl) (pv 1) (po_some (pe_op op_add (pv 2) pe_int)) po_none)))))) pss_nil)
      (pss_cons (ps_set (i := 7) sc_lbent7.nd rfl (Or.inl rfl) (pcal C_take16 hr (by omega) rfl (pa_cons (pv 0) (pa_cons pe_int pa_nil))))
      (pss_cons (ps_set (i := 8) sc_lbent7.nd rfl (Or.inl rfl) (pe_callB (call_lenK (K := K) rfl) (by rfl) T.n_len PySem.boot_len (pa_cons (pv 1) pa_nil)))
      (pss_cons (ps_set (i := 5) sc_lbent7.nd rfl (Or.inl rfl) (pe_lst (pa_cons (pcal C_take16 hr (by omega) rfl (pa_cons (pv 0) (pa_cons (pv 8) pa_nil))) (pa_cons (pcal C_take16 hr (by omega) rfl (pa_cons (pv 0) (pa_cons (pv 8) pa_nil))) (pa_cons (pv 2) (pa_cons pe_non (pa_cons (pv 8) (pa_cons (pe_un un_neg pe_int) (pa_cons pe_bl (pa_cons pe_str (pa_cons (pe_tup (pa_cons pe_int pa_nil)) (pa_cons (pe_op op_pow pe_int pe_int) pa_nil))))))))))))
      (pss_cons (ps_set (i := 6) sc_lbent7.nd rfl (Or.inl rfl) (pe_ix (ix_listK (K := K) rfl) (pv 5) (pcal C_take16 hr (by omega) rfl (pa_cons (pv 0) (pa_cons (pe_ix (ix_listK (K := K) rfl) (pe_lst (pa_cons pe_int (pa_cons pe_int pa_nil))) (pcal C_take16 hr (by omega) rfl (pa_cons (pv 0) (pa_cons pe_int pa_nil))) (fun _ _ => rfl)) pa_nil))) (fun _ _ => rfl)))
      (pss_cons (ps_if (PW.pt (pw_and (pt_cmpR op_eq (pv 4) pe_int (nomark _)) (pw_and1 (pt_cmpR op_notN (pe_ix (ix_tupK (K := K) rfl) (pv 3) pe_int (fun _ _ => rfl)) pe_non (nomark _))))) (pss_cons (ps_set (i := 7) sc_lbent7.nd rfl (Or.inl rfl) pe_int)
      (pss_one (ps_set (i := 6) sc_lbent7.nd rfl (Or.inl rfl) (pe_ix (ix_tupK (K := K) rfl) (pv 3) pe_int (fun _ _ => rfl))))) pss_nil)
      (pss_one (ps_ret (pe_op op_catA (pe_op op_catA (pe_slice (sl_tupAK (K := K) rfl) (pv 1) po_none (po_some (pv 2))) (pe_tup (pa_cons (pe_op op_catA (pe_op op_catA (pe_slice (sl_tupAK (K := K) rfl) (pv 3) po_none (po_some (pv 7))) (pe_tup (pa_cons (pv 6) pa_nil))) (pe_slice (sl_tupAK (K := K) rfl) (pv 3) (po_some (pe_op op_add (pv 7) pe_int)) po_none)) pa_nil))) (pe_slice (sl_tupAK (K := K) rfl) (pv 1) (po_some (pe_op op_add (pv 2) pe_int)) po_none))))))))))))))), ?_⟩
    obtain ⟨xs, hA, lx, hat⟩ := sha_at sh
    have n1 := ok.n1
    have n64 := ok.n64
    unfold tNoPart
    refine ⟨_, rfl, _, rfl, a, _, rfl, .inr (SqT.of hA), h, l, _, rfl, HH, by omega, by omega, fun H1 r b1 hh1 r1 => ?_⟩
    have hr1 : r < s.length := by omega
    have hp : s[r]? = some s[r] := List.getElem?_eq_getElem hr1
    generalize s[r] = p at hp
    have sh1 := sh.kin (HH.kin b1 hh1)
    obtain ⟨b, hb, hB⟩ := hat r p hp
    have hA1 := bt_tup HH b1 hA
    have hB1 := bt_tup HH b1 hB
    refine ⟨_, rfl, _, rfl, a, _, _, _, rfl, rfl, SqT.of hA1, atI_nat hb, ?_⟩
    refine ⟨_, rfl, h, l, 9, rfl, hh1, by decide, by decide, fun H2 kd b2 hh2 kd9 => ?_⟩
    have hA2 := bt_tup hh1 b2 hA1
    have hB2 := bt_tup hh1 b2 hB1
    have sh2 := sh1.kin (hh1.kin b2 hh2)
    have b12 := b1.trans b2
    have rl : RepL CS H2 (s.map dPart) xs := by
      obtain ⟨_, xs', e1, e2, e3⟩ := rep_tup.mp sh2
      cases e1
      rw [hA2] at e2
      cases e2
      exact e3
    have rp : RepL CS H2 [dOv p.up, dOv p.left, dOv p.right, .bl p.turned, .int p.added, .int p.value] (vPart p) := repL_part.mpr rfl
    clear hA1 hB1 sh1 hA hB
    -- what is put for the house
    have put : ∀ {σ : L2.St} {H3 : Hp} {tX : TE}, Bt h H2 H3 → Hand H3 h l → σ[1]? = some (some (.ref a)) → σ[2]? = some (some (.int (r : Int))) →
        (∀ H1 (Y : VK), L2.Same H3 H1 → (∀ x dx H2, Bt h H1 H2 → Hand H2 h l → Rep CS H2 dx x → Y x H2) → tX σ H1 Y) →
        tOp (rCatA K) (tOp (rCatA K) (tSl (rSlA K) (tVar 1) (fun _ H Q => Q none H) (tPart (tVar 2))) (tTup (tCons tX tNil))) (tSl (rSlA K) (tVar 1) (tPart (tOp (rI0 fun i j => .int (i + j)) (tVar 2) (tC (.int 1)))) (fun _ H Q => Q none H)) σ H3 Q := by
      intro σ H3 tX b3 hh3 e1 e2 hX
      exact spl_ok e1 e2 (bt_tup hh2 b3 hA2) (rl.kin (hh2.kin b3 hh3)) (by omega) (by omega) hh3 hX fun r H' dx b' hh' rr => k _ _ _ (b12.trans (b3.trans b')) hh' rr
    -- what is put for a part of its row
    have putr : ∀ {σ : L2.St} {H3 : Hp} {tX : TE} {at_ : Nat}, Bt h H2 H3 → Hand H3 h l → σ[1]? = some (some (.ref a)) → σ[2]? = some (some (.int (r : Int))) → σ[3]? = some (some (.ref b)) → σ[7]? = some (some (.int (at_ : Int))) → at_ < 6 →
        (∀ H1 (Y : VK), L2.Same H3 H1 → (∀ x dx H2, Bt h H1 H2 → Hand H2 h l → Rep CS H2 dx x → Y x H2) → tX σ H1 Y) →
        tOp (rCatA K) (tOp (rCatA K) (tSl (rSlA K) (tVar 1) (fun _ H Q => Q none H) (tPart (tVar 2))) (tTup (tCons (tOp (rCatA K) (tOp (rCatA K) (tSl (rSlA K) (tVar 3) (fun _ H Q => Q none H) (tPart (tVar 7))) (tTup (tCons tX tNil))) (tSl (rSlA K) (tVar 3) (tPart (tOp (rI0 fun i j => .int (i + j)) (tVar 7) (tC (.int 1)))) (fun _ H Q => Q none H))) tNil))) (tSl (rSlA K) (tVar 1) (tPart (tOp (rI0 fun i j => .int (i + j)) (tVar 2) (tC (.int 1)))) (fun _ H Q => Q none H)) σ H3 Q := by
      intro σ H3 tX at_ b3 hh3 e1 e2 e3 e7 l6 hX
      refine put b3 hh3 e1 e2 fun H4 Y s4 kY => ?_
      have hh4 := hh3.same s4
      have b4 := b3.trans (Bt.of s4)
      exact spl_ok e3 e7 (bt_tup hh2 b4 hB2) (rp.kin (hh2.kin b4 hh4)) l6 (by show 6 < 50000; decide) hh4 (fun H5 Y s5 kY => hX H5 Y (s4.trans s5) kY) fun r H' dx b' hh' rr => kY _ _ _ b' hh' rr
    refine ⟨_, rfl, rfl, _, rfl, iteB (fun _ => ?_) (fun _ => ?_)⟩
    · -- the whole otherwise
      refine fun d hd => ⟨small (by show 0 ≤ 100000; decide), fun e he => ?_⟩
      have s3 : L2.Same H2 (L2.upd (L2.upd H2 d (.dK [])) e (.tup [])) := (same_upd hd).trans (same_upd he)
      have ed : (L2.upd (L2.upd H2 d (.dK [])) e (.tup [])) d = some (.dK []) := ugetF he upd_same
      have ee : (L2.upd (L2.upd H2 d (.dK [])) e (.tup [])) e = some (.tup []) := upd_same
      generalize L2.upd (L2.upd H2 d (.dK [])) e (.tup []) = H3 at s3 ed ee
      refine ⟨_, rfl, a, _, rfl, .inr (SqT.of (s3 _ _ hA2)), fun q hq => ⟨_, rfl, 1, rfl, ?_⟩⟩
      have s4 := same_upd (o := .lst xs) hq
      have eq : (L2.upd H3 q (.lst xs)) q = some (.lst xs) := upd_same
      generalize L2.upd H3 q (.lst xs) = H4 at s4 eq
      show rSlA K (.ref a) (some 1) none H4 _
      refine slA_of (s4 _ _ (s3 _ _ hA2)) fun t1 H5 s5 e5 => ?_
      refine ⟨_, rfl, _, rfl, 1, rfl, ?_⟩
      show rSlA K (.ref a) none (some 1) H5 _
      refine slA_of (s5 _ _ (s4 _ _ (s3 _ _ hA2))) fun t2 H6 s6 e6 => ?_
      rw [show cutV xs (some 1) none = xs.drop 1 from cut_from xs 1 (by omega)] at e5
      rw [show cutV xs none (some 1) = xs.take 1 from cut_to xs 1 (by omega)] at e6
      refine catA_of (s6 _ _ (s5 _ _ (s4 _ _ (s3 _ _ hA2)))) e6 (by rw [List.length_take]; omega) fun t3 H7 s7 e7 => ?_
      refine ⟨_, rfl, small (by show 1 ≤ 100000; decide), fun t4 h4 => ⟨t4, 65, _, rfl, rfl, SqT.of upd_same, (fun z => nomatch z), by decide, by decide, by show 1 ≤ 1000; decide, fun t5 h5 => ?_⟩⟩
      have s8 : L2.Same H7 (L2.upd (L2.upd H7 t4 (.tup [V.ref b])) t5 (.tup (List.replicate (65 : Int).toNat [V.ref b]).flatten)) := (same_upd h4).trans (same_upd h5)
      have e8 : (L2.upd (L2.upd H7 t4 (.tup [V.ref b])) t5 (.tup (List.replicate (65 : Int).toNat [V.ref b]).flatten)) t5 = some (.tup (List.replicate (65 : Int).toNat [V.ref b]).flatten) := upd_same
      generalize L2.upd (L2.upd H7 t4 (.tup [V.ref b])) t5 (.tup (List.replicate (65 : Int).toNat [V.ref b]).flatten) = H8 at s8 e8
      have u78 := s8
      have u68 := s7.trans u78
      have u58 := s6.trans u68
      have u48 := s5.trans u58
      have u38 := s4.trans u48
      have u28 := s3.trans u38
      have hh8 := hh2.same u28
      refine ⟨_, rfl, h, l, rfl, hh8, fun H9 x dd b9 hh9 rx => ⟨small (by show 10 ≤ 100000; decide), fun L hL => ?_⟩⟩
      refine ⟨_, rfl, _, rfl, h, l, 10, rfl, hh9.upd hL, by decide, by decide, fun H10 r10 b10 hh10 rl10 => ?_⟩
      refine ixL_any (b10 _ _ (hh9.nn hL) upd_same) rl10 rfl fun v hv => ?_
      have k9 : Kin H9 H10 := (Kin.of (same_upd hL)).trans ((hh9.upd hL).kin b10 hh10)
      have k8 : Kin H8 H10 := (hh8.kin b9 hh9).trans k9
      have bb : Bt h H H10 := b12.trans ((Bt.of u28).trans (b9.trans ((Bt.of (same_upd hL)).trans b10)))
      simp only [List.mem_cons, List.not_mem_nil, or_false] at hv
      rcases hv with rfl | rfl | rfl | rfl | rfl | rfl | rfl | rfl | rfl | rfl
      · exact k _ _ .non bb hh10 (rep_non.mpr rfl)
      · exact k _ _ (.int 0) bb hh10 (rep_int.mpr rfl)
      · exact k _ _ (.str _) bb hh10 (rep_str.mpr rfl)
      · exact k _ _ .dic bb hh10 (Rep.kin k8 (rep_dic.mpr ⟨_, _, rfl, u38 _ _ ed⟩))
      · exact k _ _ (.tup []) bb hh10 (Rep.kin k8 (repT (u38 _ _ ee) (repL_nil.mpr rfl)))
      · exact k _ _ .lst bb hh10 (Rep.kin k8 (rep_lst.mpr ⟨_, _, rfl, u48 _ _ eq⟩))
      · exact k _ _ (.tup _) bb hh10 (Rep.kin k8 (repT (u58 _ _ e5) ((rl.same u28).drop 1)))
      · exact k _ _ (.tup _) bb hh10 (Rep.kin k8 (repT (u78 _ _ e7) ((rl.same u28).append ((rl.same u28).take 1))))
      · refine k _ _ (.tup (List.replicate 65 (dPart p))) bb hh10 (Rep.kin k8 (repT e8 ?_))
        rw [show (List.replicate (65 : Int).toNat [V.ref b]).flatten = List.replicate 65 (V.ref b) from rfl]
        exact repL_rep (rep_part.mpr ⟨b, rfl, u28 _ _ hB2⟩) 65
      · exact k _ _ dd bb hh10 (rx.kin k9)
    refine ⟨_, rfl, rfl, _, rfl, iteB (fun _ => ?_) (fun _ => ?_)⟩
    · -- a row otherwise
      refine ⟨_, rfl, b, _, rfl, .inr (SqT.of hB2), fun q hq => ⟨_, rfl, 5, rfl, ?_⟩⟩
      have s3 := same_upd (o := .lst (vPart p)) hq
      have eq : (L2.upd H2 q (.lst (vPart p))) q = some (.lst (vPart p)) := upd_same
      generalize L2.upd H2 q (.lst (vPart p)) = H3 at s3 eq
      show rSlA K (.ref b) none (some 5) H3 _
      refine slA_of (s3 _ _ hB2) fun t1 H4 s4 e4 => ?_
      rw [show cutV (vPart p) none (some 5) = (vPart p).take 5 from cut_to _ 5 (by show 5 ≤ 6; decide)] at e4
      refine ⟨_, rfl, small (by show 1 ≤ 100000; decide), fun t2 h2 => ?_⟩
      have s5 := same_upd (o := .tup [V.int 0]) h2
      have e5 : (L2.upd H4 t2 (.tup [V.int 0])) t2 = some (.tup [V.int 0]) := upd_same
      generalize L2.upd H4 t2 (.tup [V.int 0]) = H5 at s5 e5
      refine catA_of (s5 _ _ (s4 _ _ (s3 _ _ hB2))) e5 (by show 6 + 1 ≤ 100000; decide) fun t3 H6 s6 e6 => ?_
      refine ⟨small (by show 0 ≤ 100000; decide), fun t4 h4 => ⟨small (by show 6 ≤ 100000; decide), fun L hL => ?_⟩⟩
      have s7 := same_upd (o := .tup []) h4
      have e7 : (L2.upd H6 t4 (.tup [])) t4 = some (.tup []) := upd_same
      generalize L2.upd H6 t4 (.tup []) = H7 at s7 e7 hL
      have u67 := s7
      have u57 := s6.trans u67
      have u47 := s5.trans u57
      have u37 := s4.trans u47
      have u27 := s3.trans u37
      have hh7 := hh2.same u27
      refine ⟨_, rfl, h, l, 6, rfl, hh7.upd hL, by decide, by decide, fun H8 r8 b8 hh8 rl8 => ?_⟩
      refine ixL_any (b8 _ _ (hh7.nn hL) upd_same) rl8 rfl fun v hv => ?_
      have k7 : Kin H7 H8 := (Kin.of (same_upd hL)).trans ((hh7.upd hL).kin b8 hh8)
      have b28 : Bt h H2 H8 := (Bt.of u27).trans ((Bt.of (same_upd hL)).trans b8)
      obtain ⟨dv, rv⟩ : ∃ dv, Rep CS H8 dv v := by
        simp only [List.mem_cons, List.not_mem_nil, or_false] at hv
        rcases hv with rfl | rfl | rfl | rfl | rfl | rfl
        · exact ⟨.lst, Rep.kin k7 (rep_lst.mpr ⟨_, _, rfl, u37 _ _ eq⟩)⟩
        · exact ⟨.tup _, Rep.kin k7 (repT (u47 _ _ e4) ((rp.same u27).take 5))⟩
        · exact ⟨.tup _, Rep.kin k7 (repT (u67 _ _ e6) ((rp.same u27).append (repL_one (rep_int.mpr rfl))))⟩
        · exact ⟨.non, rep_non.mpr rfl⟩
        · exact ⟨.tup [], Rep.kin k7 (repT e7 (repL_nil.mpr rfl))⟩
        · exact ⟨.int 0, rep_int.mpr rfl⟩
      exact put b28 hh8 rfl rfl fun H9 Y s9 kY => ⟨_, rfl, kY v dv H9 (Bt.refl h H9) (hh8.same s9) (rv.same s9)⟩
    refine ⟨_, rfl, rfl, _, rfl, iteB (fun _ => ?_) (fun _ => ?_)⟩
    · -- turned, added, value otherwise
      refine ⟨_, rfl, h, l, 3, rfl, hh2, by decide, by decide, fun H3 r3 b3 hh3 rl3 => ⟨_, _, rfl, rfl, small (by show 1 ≤ 100000; decide), fun t1 h1 => ⟨1, rfl, 10, 19, rfl, rfl, ⟨by decide, by decide, by decide⟩, small (by show 9 ≤ 100000; decide), fun L hL => ?_⟩⟩⟩
      have s4 := same_upd (o := .tup [V.int 0]) h1
      have e4 : (L2.upd H3 t1 (.tup [V.int 0])) t1 = some (.tup [V.int 0]) := upd_same
      generalize L2.upd H3 t1 (.tup [V.int 0]) = H4 at s4 e4 hL
      have hh4 := hh3.same s4
      have nL := hh4.nn hL
      have hh5 := hh4.upd (o := .lst [V.non, V.bl true, V.bl false, V.int 0, V.int 1, V.str "0", V.ref t1, V.int (-1), V.int (10 ^ (19 : Int).toNat)]) hL
      have s5 := same_upd (o := .lst [V.non, V.bl true, V.bl false, V.int 0, V.int 1, V.str "0", V.ref t1, V.int (-1), V.int (10 ^ (19 : Int).toNat)]) hL
      have eL : (L2.upd H4 L (.lst [V.non, V.bl true, V.bl false, V.int 0, V.int 1, V.str "0", V.ref t1, V.int (-1), V.int (10 ^ (19 : Int).toNat)])) L = some (.lst [V.non, V.bl true, V.bl false, V.int 0, V.int 1, V.str "0", V.ref t1, V.int (-1), V.int (10 ^ (19 : Int).toNat)]) := upd_same
      generalize L2.upd H4 L (.lst [V.non, V.bl true, V.bl false, V.int 0, V.int 1, V.str "0", V.ref t1, V.int (-1), V.int (10 ^ (19 : Int).toNat)]) = H5 at hh5 s5 eL
      refine putr (at_ := 3 + r3) (b3.trans (Bt.of (s4.trans s5))) hh5 rfl rfl rfl rfl (by omega) fun H6 Y s6 kY => ?_
      refine ⟨_, rfl, _, rfl, h, l, 9, rfl, hh5.same s6, by decide, by decide, fun H7 r7 b7 hh7 rl7 => ?_⟩
      refine ixL_any (b7 _ _ nL (s6 _ _ eL)) rl7 rfl fun v hv => ?_
      have k7 : Kin H5 H7 := (Kin.of s6).trans ((hh5.same s6).kin b7 hh7)
      simp only [List.mem_cons, List.not_mem_nil, or_false] at hv
      rcases hv with rfl | rfl | rfl | rfl | rfl | rfl | rfl | rfl | rfl
      · exact kY _ .non _ b7 hh7 (rep_non.mpr rfl)
      · exact kY _ (.bl true) _ b7 hh7 (rep_bl.mpr rfl)
      · exact kY _ (.bl false) _ b7 hh7 (rep_bl.mpr rfl)
      · exact kY _ (.int 0) _ b7 hh7 (rep_int.mpr rfl)
      · exact kY _ (.int 1) _ b7 hh7 (rep_int.mpr rfl)
      · exact kY _ (.str _) _ b7 hh7 (rep_str.mpr rfl)
      · exact kY _ (.tup [.int 0]) _ b7 hh7 (Rep.kin k7 (repT (s5 _ _ e4) (repL_one (rep_int.mpr rfl))))
      · exact kY _ (.int (-1)) _ b7 hh7 (rep_int.mpr rfl)
      · exact kY _ (.int _) _ b7 hh7 (rep_int.mpr rfl)
    -- up, left, right otherwise
    refine ⟨_, rfl, h, l, 3, rfl, hh2, by decide, by decide, fun H3 r3 b3 hh3 rl3 => ⟨_, rfl, a, _, rfl, .inr (SqT.of (bt_tup hh2 b3 hA2)), ?_⟩⟩
    refine ⟨_, rfl, _, rfl, h, l, _, rfl, hh3, by omega, by omega, fun H4 r4 b4 hh4 rl4 => ⟨_, rfl, _, rfl, h, l, _, rfl, hh4, by omega, by omega, fun H5 r5 b5 hh5 rl5 => ?_⟩⟩
    refine ⟨_, rfl, _, rfl, 1, rfl, small (by show 1 ≤ 100000; decide), fun t1 h1 => ⟨10, 19, rfl, rfl, ⟨by decide, by decide, by decide⟩, small (by show 10 ≤ 100000; decide), fun L hL => ?_⟩⟩
    have s6 := same_upd (o := .tup [V.int 0]) h1
    have e6 : (L2.upd H5 t1 (.tup [V.int 0])) t1 = some (.tup [V.int 0]) := upd_same
    generalize L2.upd H5 t1 (.tup [V.int 0]) = H6 at s6 e6 hL
    have hh6 := hh5.same s6
    have nL := hh6.nn hL
    generalize hls : [V.int (r4 : Int), V.int (r5 : Int), V.int (r : Int), V.non, V.int (xs.length : Int), V.int (-1), V.bl true, V.str "0", V.ref t1, V.int (10 ^ (19 : Int).toNat)] = ls
    have hh7 := hh6.upd (o := .lst ls) hL
    have s7 := same_upd (o := .lst ls) hL
    have eL : (L2.upd H6 L (.lst ls)) L = some (.lst ls) := upd_same
    have lls : ls.length = 10 := by rw [← hls]; rfl
    have rls : ∀ v ∈ ls, ∃ dv, Rep CS (L2.upd H6 L (.lst ls)) dv v := fun v hv => by
      rw [← hls] at hv
      simp only [List.mem_cons, List.not_mem_nil, or_false] at hv
      rcases hv with rfl | rfl | rfl | rfl | rfl | rfl | rfl | rfl | rfl | rfl
      · exact ⟨.int _, rep_int.mpr rfl⟩
      · exact ⟨.int _, rep_int.mpr rfl⟩
      · exact ⟨.int _, rep_int.mpr rfl⟩
      · exact ⟨.non, rep_non.mpr rfl⟩
      · exact ⟨.int _, rep_int.mpr rfl⟩
      · exact ⟨.int _, rep_int.mpr rfl⟩
      · exact ⟨.bl true, rep_bl.mpr rfl⟩
      · exact ⟨.str _, rep_str.mpr rfl⟩
      · exact ⟨.tup [.int 0], repT (s7 _ _ e6) (repL_one (rep_int.mpr rfl))⟩
      · exact ⟨.int _, rep_int.mpr rfl⟩
    have b27 : Bt h H2 (L2.upd H6 L (.lst ls)) := b3.trans (b4.trans (b5.trans ((Bt.of s6).trans (Bt.of s7))))
    generalize L2.upd H6 L (.lst ls) = H7 at hh7 s7 eL rls b27
    refine ⟨_, rfl, _, rfl, small (by show 2 ≤ 100000; decide), fun L2 hL2 => ⟨_, rfl, h, l, 2, rfl, hh7.upd hL2, by decide, by decide, fun H8 r8 b8 hh8 rl8 => ?_⟩⟩
    refine ixL_any (b8 _ _ (hh7.nn hL2) upd_same) rl8 rfl fun c hc => ?_
    obtain ⟨c, rfl, c0, c10⟩ : ∃ i : Int, c = .int i ∧ 0 < i ∧ i ≤ 10 := by
      simp only [List.mem_cons, List.not_mem_nil, or_false] at hc
      rcases hc with rfl | rfl
      · exact ⟨_, rfl, by decide, by decide⟩
      · exact ⟨_, rfl, by decide, by decide⟩
    have b8' : Bt h H7 H8 := (Bt.of (same_upd hL2)).trans b8
    refine ⟨h, l, c, rfl, hh8, c0, by omega, fun H9 r9 b9 hh9 rl9 => ?_⟩
    have k9 : Kin H7 H9 := ((Kin.of (same_upd hL2)).trans ((hh7.upd hL2).kin b8 hh8)).trans (hh8.kin b9 hh9)
    have b29 := b27.trans (b8'.trans b9)
    refine rIxL_any (b9 _ _ nL (b8' _ _ nL eL)) (Int.natCast_nonneg _) (by omega) fun v hv => ?_
    obtain ⟨dv, rv⟩ := rls v hv
    have rv := rv.kin k9
    refine ⟨_, rfl, rfl, _, rfl, iteB (fun _ => ?_) (fun _ => iteF ?_)⟩
    · refine ⟨_, rfl, b, _, _, _, rfl, rfl, SqT.of (bt_tup hh2 b29 hB2), rfl, rfl, _, rfl, iteB (fun _ => ?_) (fun _ => ?_)⟩
      · refine ⟨_, rfl, b, _, _, _, rfl, rfl, SqT.of (bt_tup hh2 b29 hB2), rfl, ?_⟩
        exact putr (at_ := 2) b29 hh9 rfl rfl rfl rfl (by decide) fun H10 Y s10 kY => ⟨_, rfl, kY _ (dOv p.left) H10 (Bt.refl h H10) (hh9.same s10) (rep_ov.mpr rfl)⟩
      · exact putr (at_ := r3) b29 hh9 rfl rfl rfl rfl (by omega) fun H10 Y s10 kY => ⟨_, rfl, kY v dv H10 (Bt.refl h H10) (hh9.same s10) (rv.same s10)⟩
    · exact putr (at_ := r3) b29 hh9 rfl rfl rfl rfl (by omega) fun H10 Y s10 kY => ⟨_, rfl, kY v dv H10 (Bt.refl h H10) (hh9.same s10) (rv.same s10)⟩

end
end W2
namespace W2
open PySem PySem.Spec PyProof.Rows L2
section
variable {P : Program} {w : World} {K : PySem.W.Frag} {mg : Str → Option Value} {base : Heap} {CS : List Addr}
theorem ok_ispart (D : Def K mg "_is_part" s_ispart ["many", "thing"]) (T : Txt K mg) (C_ishouse : Cal P w K mg base 3 "is_house" ["many", "thing"] (spIsHouse CS)) (C_isint : Cal P w K mg base 1 "is_integer" ["thing"] (spIsInt CS)) (FC : Env K CS) : Cal P w K mg base 4 "_is_part" ["many", "thing"] (spIsPart CS) := by
  refine D.cal sc_ispart (fun vs H Q E h => ?_) (fun f cdv A outer s H vs Q E hr h => ?_)
  · obtain ⟨n, d, x, rfl, _⟩ := h
    rfl
  · obtain ⟨n, d, x, rfl, rp, k0⟩ := h
    have k := fun b (hb : b = true ↔ _) => ret_dec k0 hb
    refine ⟨_, (pss_cons (ps_if (PW.pt (pw_or (pt_not (pt_val (pe_callB (call_isiK1 (K := K) rfl) (by rfl) T.n_isinstance (by decide +kernel) (pa_cons (pv 1) (pa_cons (pe_bltn (v := .ty "tuple") (by rfl) T.n_tuple (by decide +kernel) rfl) pa_nil))))) (pw_or1 (pt_cmpR op_ne (pe_callB (call_lenK (K := K) rfl) (by rfl) T.n_len PySem.boot_len (pa_cons (pv 1) pa_nil)) pe_int (nomark _))))) (pss_one (ps_ret pe_bl)) pss_nil)
      (pss_cons (ps_if (pt_not (pt_val (pe_callB (cr_all rfl) (by rfl) T.n_all (by decide +kernel) (pa_cons (pe_lc (own := [("near", 2)]) (g := gName 2) (tt := tYes) (by rfl) sc_ispart.nd (pi_tup (pe_slice (sl_tupAK (K := K) rfl) (pv 1) po_none (po_some pe_int))) (blkOk_by (own := [("near", 2)]) (N := ["many", "thing", "near"]) (sc := defScope s_ispart) (by decide +kernel)) (fun _ _ _ _ _ => pg_name (i := 2) sc_ispart.nd rfl (Or.inl rfl)) (fun _ _ _ _ _ => pts_nil) (fun _ _ _ _ _ => (pe_or (pe_cmpR op_isN (pv 2) pe_non (nomark _)) (pe_one (pcal C_ishouse hr (by omega) rfl (pa_cons (pv 0) (pa_cons (pv 2) pa_nil))))))) pa_nil)))) (pss_one (ps_ret pe_bl)) pss_nil)
      (pss_one (ps_ret (pe_and (pe_callB (call_isiK1 (K := K) rfl) (by rfl) T.n_isinstance (by decide +kernel) (pa_cons (pe_ix (ix_tupK (K := K) rfl) (pv 1) pe_int (fun _ _ => rfl)) (pa_cons (pe_bltn (v := .ty "bool") (by rfl) T.n_bool (by decide +kernel) rfl) pa_nil))) (pe_and (pcal C_isint hr (by omega) rfl (pa_cons (pe_ix (ix_tupK (K := K) rfl) (pv 1) pe_int (fun _ _ => rfl)) pa_nil)) (pe_one (pcal C_isint hr (by omega) rfl (pa_cons (pe_ix (ix_tupK (K := K) rfl) (pv 1) pe_int (fun _ _ => rfl)) pa_nil))))))))), ?_⟩
    obtain ⟨t, ty, kt⟩ := rep_istup FC.ow rp
    refine ⟨_, rfl, _, _, _, _, _, rfl, .ty _, ty, kt, _, rfl, ?_⟩
    cases hT : d.isT with
    | false =>
      refine iteT (k false ⟨nft, fun ⟨p, e, _⟩ => ?_⟩ _ (L2.Same.refl _))
      rw [e] at hT
      cases hT
    | true =>
      obtain ⟨ds, rfl⟩ := isT_of hT
      obtain ⟨a, xs, rfl, hA, rl⟩ := rep_tup.mp rp
      refine iteF ⟨_, rfl, a, _, rfl, .inr (SqT.of hA), rfl, _, rfl, iteB (fun e1 => ?_) (fun e1 => ?_)⟩
      · refine k false ⟨nft, fun ⟨p, e, _⟩ => ?_⟩ _ (L2.Same.refl _)
        have e2 := rl.len
        rw [Dt.tup.inj e] at e2
        rw [e2] at e1
        exact nft e1
      have l6 : xs.length = 6 := by
        have e5 : decide (V.int ((xs.length : Nat) : Int) = V.int 6) = true := by simpa using e1
        have e6 := V.int.inj (of_decide_eq_true e5)
        omega
      have lds : ds.length = 6 := by rw [← rl.len]; exact l6
      obtain ⟨d0, d1, d2, d3, d4, d5, rfl⟩ : ∃ d0 d1 d2 d3 d4 d5, ds = [d0, d1, d2, d3, d4, d5] := by
        match ds, lds with
        | [d0, d1, d2, d3, d4, d5], _ => exact ⟨_, _, _, _, _, _, rfl⟩
      obtain ⟨x0, xs, rfl, r0, rl⟩ := repL_cons.mp rl
      obtain ⟨x1, xs, rfl, r1, rl⟩ := repL_cons.mp rl
      obtain ⟨x2, xs, rfl, r2, rl⟩ := repL_cons.mp rl
      obtain ⟨x3, xs, rfl, r3, rl⟩ := repL_cons.mp rl
      obtain ⟨x4, xs, rfl, r4, rl⟩ := repL_cons.mp rl
      obtain ⟨x5, xs, rfl, r5, rl⟩ := repL_cons.mp rl
      rw [repL_nil.mp rl] at hA
      unfold tNoPart
      refine ⟨_, rfl, _, rfl, ?_⟩
      show rSlA K (V.ref a) none (some 3) H _
      refine slA_of hA fun p H1 s1 ep => ?_
      rw [show cutV [x0, x1, x2, x3, x4, x5] none (some 3) = [x0, x1, x2] from rfl] at ep
      have an : ∀ x ∈ [x0, x1, x2], Any CS H1 x := fun x hx => by
        simp only [List.mem_cons, List.not_mem_nil, or_false] at hx
        rcases hx with rfl | rfl | rfl
        · exact r0.any.same s1
        · exact r1.any.same s1
        · exact r2.any.same s1
      refine ⟨p, rfl, ⟨_, SqT.of ep⟩, lcT (fun i => [x0, x1, x2][i]?.map fun x => .bl (okE n x)) ep (show 3 < 100000 by decide) (fun i x H2 hx s2 Y N kY _ => ⟨rfl, _, rfl, rfl, _, rfl, ?_⟩) (fun D H2 s2 nD hD => ?_)⟩
      · refine iteB (fun e => ?_) (fun e => ?_)
        · refine kY _ _ ?_ (L2.Same.refl _)
          show Option.map _ [x0, x1, x2][i]? = _
          rw [hx]
          show some (V.bl (okE n x)) = some (V.bl true)
          rw [okE, e, Bool.true_or]
        · refine ⟨_, rfl, _, rfl, (n : Int), x, rfl, (an x (List.mem_of_getElem? hx)).same s2, fun H3 s3 => kY _ _ ?_ s3⟩
          show Option.map _ [x0, x1, x2][i]? = _
          rw [hx]
          show some (V.bl (okE n x)) = _
          rw [okE, e, Bool.false_or, wiV_hsV]
      have e3 : fm 3 (fun i => [x0, x1, x2][i]?.map fun x => V.bl (okE n x)) = [okE n x0, okE n x1, okE n x2].map V.bl := rfl
      rw [show [x0, x1, x2].length = 3 from rfl, e3] at hD
      refine ⟨D, _, rfl, SqL.of hD, _, rfl, iteB (fun e => ?_) (fun e => ?_)⟩
      · refine k false ⟨nft, fun ⟨p, ep, q⟩ => ?_⟩ _ (s1.trans s2)
        obtain ⟨q0, q1, q2⟩ := q
        simp only [dPart, Dt.tup.injEq, List.cons.injEq, and_true] at ep
        obtain ⟨rfl, rfl, rfl, rfl, rfl, rfl⟩ := ep
        have f0 : okE n x0 = true := by rw [rep_ov.mp r0]; exact ov_okE q0
        have f1 : okE n x1 = true := by rw [rep_ov.mp r1]; exact ov_okE q1
        have f2 : okE n x2 = true := by rw [rep_ov.mp r2]; exact ov_okE q2
        rw [f0, f1, f2] at e
        cases e
      have e4 : okE n x0 = true ∧ okE n x1 = true ∧ okE n x2 = true := by
        have e5 : (okE n x0 && (okE n x1 && (okE n x2 && true))) = true := by simpa using e
        simpa using e5
      obtain ⟨f0, f1, f2⟩ := e4
      obtain ⟨o0, rfl, g0⟩ := okE_ov f0
      obtain ⟨o1, rfl, g1⟩ := okE_ov f1
      obtain ⟨o2, rfl, g2⟩ := okE_ov f2
      have s12 := s1.trans s2
      have hA2 := s12 _ _ hA
      obtain ⟨t3, ty3, k3⟩ := any_bool FC.ow (r3.any.same s12)
      refine ⟨_, rfl, a, _, _, _, rfl, rfl, SqT.of hA2, rfl, _, _, _, _, _, rfl, .ty _, ty3, k3, _, rfl, iteB (fun e3 => ?_) (fun e3 => ?_)⟩
      · obtain ⟨b3, rfl⟩ := isB_of e3
        refine ⟨_, rfl, a, _, _, _, rfl, rfl, SqT.of hA2, rfl, x4, rfl, r4.any.same s12, fun H3 s3 => ⟨_, rfl, iteB (fun e4 => ?_) (fun e4 => ?_)⟩⟩
        · obtain ⟨i4, rfl⟩ := isI_of e4
          refine ⟨_, rfl, a, _, _, _, rfl, rfl, SqT.of (s3 _ _ hA2), rfl, x5, rfl, (r5.any.same s12).same s3, fun H4 s4 => k _ ⟨fun e5 => ?_, fun ⟨p, ep, _⟩ => ?_⟩ _ ((s12.trans s3).trans s4)⟩
          · obtain ⟨i5, rfl⟩ := isI_of e5
            refine ⟨⟨o0, o1, o2, b3, i4, i5⟩, ?_, g0, g1, g2⟩
            rw [rep_ov_inv r0, rep_ov_inv r1, rep_ov_inv r2, rep_bl_inv r3, rep_int_inv r4, rep_int_inv r5]
            rfl
          · simp only [dPart, Dt.tup.injEq, List.cons.injEq, and_true] at ep
            obtain ⟨rfl, rfl, rfl, rfl, rfl, rfl⟩ := ep
            rw [rep_int.mp r5]
            rfl
        · refine k false ⟨nft, fun ⟨p, ep, _⟩ => ?_⟩ _ (s12.trans s3)
          simp only [dPart, Dt.tup.injEq, List.cons.injEq, and_true] at ep
          obtain ⟨rfl, rfl, rfl, rfl, rfl, rfl⟩ := ep
          rw [rep_int.mp r4] at e4
          cases e4
      · refine k false ⟨nft, fun ⟨p, ep, _⟩ => ?_⟩ _ s12
        simp only [dPart, Dt.tup.injEq, List.cons.injEq, and_true] at ep
        obtain ⟨rfl, rfl, rfl, rfl, rfl, rfl⟩ := ep
        rw [rep_bl.mp r3] at e3
        cases e3

end
end W2
namespace W2
open PySem PySem.Spec PyProof.Rows L2
section
variable {P : Program} {w : World} {K : PySem.W.Frag} {mg : Str → Option Value} {base : Heap} {CS : List Addr}
theorem ok_isshape (D : Def K mg "is_shape" s_isshape ["thing"]) (T : Txt K mg) (C_ismany : Cal P w K mg base 3 "is_many" ["thing"] (spIsMany CS)) (C_ispart : Cal P w K mg base 4 "_is_part" ["many", "thing"] (spIsPart CS)) (C_hassons : Cal P w K mg base 1 "_has_its_sons" ["parts", "house"] (spHasSons CS)) (C_come : Cal P w K mg base 1 "come_to_roots" ["parents"] spCome) (FC : Env K CS) : Cal P w K mg base 5 "is_shape" ["thing"] (spIsShape CS) := by
  refine D.cal sc_isshape (fun vs H Q E h => ?_) (fun f cdv A outer s H vs Q E hr h => ?_)
  · obtain ⟨d, x, rfl, _⟩ := h
    rfl
  · obtain ⟨d, x, rfl, rp, k⟩ := h
    refine ⟨_, (pss_cons (ps_if (PW.pt (pw_or (pt_not (pt_val (pe_callB (call_isiK1 (K := K) rfl) (by rfl) T.n_isinstance (by decide +kernel) (pa_cons (pv 0) (pa_cons (pe_bltn (v := .ty "tuple") (by rfl) T.n_tuple (by decide +kernel) rfl) pa_nil))))) (pw_or1 (pt_not (pt_val (pcal C_ismany hr (by omega) rfl (pa_cons (pe_callB (call_lenK (K := K) rfl) (by rfl) T.n_len PySem.boot_len (pa_cons (pv 0) pa_nil)) pa_nil))))))) (pss_one (ps_ret pe_bl)) pss_nil)
      (pss_cons (ps_if (pt_not (pt_val (pe_callB (cr_all rfl) (by rfl) T.n_all (by decide +kernel) (pa_cons (pe_lc (own := [("part", 1)]) (g := gName 1) (tt := tYes) (by rfl) sc_isshape.nd (pi_tup (pv 0)) (blkOk_by (own := [("part", 1)]) (N := ["thing", "part", "house"]) (sc := defScope s_isshape) (by decide +kernel)) (fun _ _ _ _ _ => pg_name (i := 1) sc_isshape.nd rfl (Or.inl rfl)) (fun _ _ _ _ _ => pts_nil) (fun _ _ _ _ _ => (pcal C_ispart hr (by omega) rfl (pa_cons (pe_callB (call_lenK (K := K) rfl) (by rfl) T.n_len PySem.boot_len (pa_cons (pv 0) pa_nil)) (pa_cons (pv 1) pa_nil))))) pa_nil)))) (pss_one (ps_ret pe_bl)) pss_nil)
      (pss_cons (ps_if (pt_not (pt_val (pe_callB (cr_all rfl) (by rfl) T.n_all (by decide +kernel) (pa_cons (pe_lc (own := [("house", 2)]) (g := gName 2) (tt := tYes) (by rfl) sc_isshape.nd (pi_range1 rfl T.n_range (pa_cons (pe_callB (call_lenK (K := K) rfl) (by rfl) T.n_len PySem.boot_len (pa_cons (pv 0) pa_nil)) pa_nil)) (blkOk_by (own := [("house", 2)]) (N := ["thing", "part", "house"]) (sc := defScope s_isshape) (by decide +kernel)) (fun _ _ _ _ _ => pg_name (i := 2) sc_isshape.nd rfl (Or.inl rfl)) (fun _ _ _ _ _ => pts_nil) (fun _ _ _ _ _ => (pcal C_hassons hr (by omega) rfl (pa_cons (pv 0) (pa_cons (pv 2) pa_nil))))) pa_nil)))) (pss_one (ps_ret pe_bl)) pss_nil)
      (pss_one (ps_ret (pcal C_come hr (by omega) rfl (pa_cons (pe_callTy (call_tuple_ofK (K := K) rfl) (by rfl) T.n_tuple (by decide +kernel) (pa_cons (pe_lc (own := [("part", 1)]) (g := gName 1) (tt := tYes) (by rfl) sc_isshape.nd (pi_tup (pv 0)) (blkOk_by (own := [("part", 1)]) (N := ["thing", "part", "house"]) (sc := defScope s_isshape) (by decide +kernel)) (fun _ _ _ _ _ => pg_name (i := 1) sc_isshape.nd rfl (Or.inl rfl)) (fun _ _ _ _ _ => pts_nil) (fun _ _ _ _ _ => (pe_ix (ix_tupK (K := K) rfl) (pv 1) pe_int (fun _ _ => rfl)))) pa_nil)) pa_nil))))))), ?_⟩
    obtain ⟨t, ty, kt⟩ := rep_istup FC.ow rp
    refine ⟨_, rfl, _, _, _, _, _, rfl, .ty _, ty, kt, _, rfl, ?_⟩
    cases hT : d.isT with
    | false =>
      refine iteT (ret_f k (fun ⟨s, e, _⟩ => ?_) _ (L2.Same.refl _))
      rw [e] at hT
      cases hT
    | true =>
      obtain ⟨ds, rfl⟩ := isT_of hT
      obtain ⟨a, xs, rfl, hA, rl⟩ := rep_tup.mp rp
      have ld := rl.len
      refine iteF ⟨_, rfl, a, _, rfl, .inr (SqT.of hA), _, rfl, .int _, fun H1 s1 => ⟨_, rfl, iteB (fun e1 => ?_) (fun e1 => ?_)⟩⟩
      · refine ret_f k (fun ⟨s, e, o⟩ => ?_) _ s1
        have e2 : ds.length = s.length := by rw [Dt.tup.inj e, List.length_map]
        have e3 : wiV 1 64 (.int (xs.length : Int)) = true := wiT (by have := o.n1; omega) (by have := o.n64; omega)
        rw [e3] at e1
        exact nft e1
      have e2 : 1 ≤ xs.length ∧ xs.length ≤ 64 := by
        have e3 : wiV 1 64 (.int (xs.length : Int)) = true := by simpa using e1
        obtain ⟨i, e4, e5, e6⟩ := wiV_of e3
        cases e4
        omega
      have hA1 := s1 _ _ hA
      have rl1 := rl.same s1
      refine ⟨_, rfl, a, rfl, ⟨_, SqT.of hA1⟩, lcT (fun i => (ds[i]?).map fun d => .bl (dec (∃ p, d = dPart p ∧ PIn xs.length p))) hA1 (by omega) (fun i x H2 hx s2 Y N kY kN => ?_) (fun D H2 s2 nD hD => ?_)⟩
      · obtain ⟨di, hdi, ri⟩ := rl1.at hx
        refine ⟨rfl, _, rfl, a, _, rfl, .inr (SqT.of (s2 _ _ hA1)), _, rfl, xs.length, di, x, rfl, ri.same s2, fun H3 s3 => kY _ _ ?_ s3⟩
        show Option.map _ ds[i]? = _
        rw [hdi]
        rfl
      have e4 : fm xs.length (fun i => (ds[i]?).map fun d => V.bl (dec (∃ p, d = dPart p ∧ PIn xs.length p))) = (ds.map fun d => dec (∃ p, d = dPart p ∧ PIn xs.length p)).map V.bl := by
        rw [List.map_map]
        refine fm_all (by rw [List.length_map, ld]) fun i _ => ?_
        rw [List.getElem?_map]
        rfl
      rw [e4] at hD
      refine ⟨D, _, rfl, SqL.of hD, _, rfl, iteB (fun e5 => ?_) (fun e5 => ?_)⟩
      · refine ret_f k (fun ⟨s, e, o⟩ => ?_) _ (s1.trans s2)
        have e6 : List.all (ds.map fun d => dec (∃ p, d = dPart p ∧ PIn xs.length p)) id = true := by
          rw [List.all_map, List.all_eq_true]
          intro d hd
          rw [Dt.tup.inj e] at hd
          obtain ⟨p, hp, rfl⟩ := List.mem_map.mp hd
          have := o.pin p hp
          rw [show s.length = xs.length by rw [ld, Dt.tup.inj e, List.length_map]] at this
          exact dec_t ⟨p, rfl, this⟩
        rw [e6] at e5
        exact nft e5
      obtain ⟨s, rfl, pin⟩ : ∃ s : Sh, ds = s.map dPart ∧ ∀ p ∈ s, PIn xs.length p := by
        refine parts_of fun d hd => ?_
        have e6 : List.all (ds.map fun d => dec (∃ p, d = dPart p ∧ PIn xs.length p)) id = true := by simpa using e5
        rw [List.all_map, List.all_eq_true] at e6
        exact dec_iff.mp (e6 d hd)
      rw [List.length_map] at ld
      rw [ld] at pin
      have s12 := s1.trans s2
      have sh : ShA CS H a s := rp
      have hA2 := s12 _ _ hA
      have k : Ret (.bl (dec (IsSh (dSh s)))) H Q := k
      rw [dec_congr (isSh_iff (s := s)), dec_congr (shOk_iff (by omega) (by omega) pin)] at k
      refine ⟨_, rfl, a, _, rfl, .inr (SqT.of hA2), _, rfl, by omega, by omega, ?_⟩
      rw [Int.toNat_natCast]
      refine lcR (fun i => some (.bl (dec (SOk s i)))) (by omega) (fun i H3 hi s3 Y N kY kN => ?_) (fun D3 H3 s3 nD3 hD3 => ?_)
      · rw [Int.zero_add]
        exact ⟨rfl, _, rfl, _, rfl, a, s, i, rfl, sh.same (s12.trans s3), by omega, pin, by omega, fun H4 s4 => kY _ _ rfl s4⟩
      rw [fm_map, ← Function.comp_def, ← List.map_map] at hD3
      have s13 := s12.trans s3
      have hA3 := s13 _ _ hA
      refine ⟨D3, _, rfl, SqL.of hD3, _, rfl, iteB (fun e6 => ?_) (fun e6 => ?_)⟩
      · refine ret_f k (fun z => ?_) _ s13
        have e7 : List.all ((List.range xs.length).map fun i => dec (SOk s i)) id = true := by
          rw [List.all_map, List.all_eq_true]
          exact fun i hi => dec_t (z.1 i (by rw [← ld]; exact List.mem_range.mp hi))
        have e8 : (!List.all ((List.range xs.length).map fun i => dec (SOk s i)) id) = true := e6
        rw [e7] at e8
        exact nft e8
      have sons : ∀ h, h < s.length → SOk s h := by
        have e7 : (!List.all ((List.range xs.length).map fun i => dec (SOk s i)) id) = false := e6
        have e8 : List.all ((List.range xs.length).map fun i => dec (SOk s i)) id = true := by simpa using e7
        rw [List.all_map, List.all_eq_true] at e8
        exact fun h hh => dec_iff.mp (e8 h (List.mem_range.mpr (by omega)))
      obtain ⟨xs', hA', lx', hat⟩ := sha_at (sh.same s13)
      rw [hA3] at hA'
      cases hA'
      refine ⟨_, rfl, a, rfl, ⟨_, SqT.of hA3⟩, lcT (fun i => (s[i]?).map fun p => ov p.up) hA3 (by omega) (fun i x H4 hx s4 Y N kY kN => ?_) (fun D4 H4 s4 nD4 hD4 => ?_)⟩
      · have hi : i < s.length := by rw [← ld]; exact (List.getElem?_eq_some_iff.mp hx).1
        have ep : s[i]? = some s[i] := List.getElem?_eq_getElem hi
        generalize s[i] = p at ep
        obtain ⟨b, hb, hB⟩ := hat i p ep
        rw [hx] at hb
        cases hb
        refine ⟨rfl, _, rfl, b, _, _, _, rfl, rfl, SqT.of (s4 _ _ hB), rfl, kY _ _ ?_ (L2.Same.refl _)⟩
        show Option.map _ s[i]? = _
        rw [ep]
        rfl
      have e7 : fm xs.length (fun i => (s[i]?).map fun p => ov p.up) = (s.map (·.up)).map ov := by
        rw [List.map_map]
        refine fm_all (by rw [List.length_map, ld]) fun i _ => ?_
        rw [List.getElem?_map]
        rfl
      rw [e7] at hD4
      refine ⟨D4, _, rfl, .inl ⟨SqL.of hD4, fun l hl => ?_⟩⟩
      have s14 := (s13.trans s4).trans (same_upd (o := .tup ((s.map (·.up)).map ov)) hl)
      refine ⟨l, _, rfl, upd_same, up_in pin, by rw [List.length_map]; omega, fun tr H5 s5 => ret_t k ⟨sons, tr⟩ _ (s14.trans s5), fun tr H5 s5 => ret_f k (fun z => tr z.2) _ (s14.trans s5)⟩

end
end W2
namespace W2
open PySem PySem.Spec PyProof.Rows L2
section
variable {P : Program} {w : World} {K : PySem.W.Frag} {mg : Str → Option Value} {base : Heap} {CS : List Addr}
theorem ok_lis (D : Def K mg "_law_is" s_lis ["_law_told", "_law_due"]) (T : Txt K mg)  : ∀ d : Nat, Cal P w K mg base (1 + d) "_law_is" ["_law_told", "_law_due"] (spIs d) := by
  intro d
  induction d with
  | zero =>
    obtain ⟨f, fd, F, hm, b⟩ := D.ex
    exact ⟨f, fd, ⟨fun vs H Q E h => (spIs_zero h).elim, fun A outer s H args us vs Q E _ _ _ _ h => (spIs_zero h).elim⟩, hm, F.kp, b⟩
  | succ d C_lis =>
    refine D.cal (k := 1 + d) sc_lis (fun vs H Q E h => ?_) (fun f cdv A outer s H vs Q E hr h => ?_)
    · obtain ⟨x, y, rfl, _⟩ := h
      rfl
    · obtain ⟨x, y, rfl, hxy, k⟩ := h
      refine ⟨_, (pss_cons (ps_if (pt_val (pe_callB (call_isiT1 (K := K) rfl) (by rfl) T.n_isinstance (by decide +kernel) (pa_cons (pv 1) (pa_cons (pe_tup (pa_cons (pe_bltn (v := .ty "tuple") (by rfl) T.n_tuple (by decide +kernel) rfl) (pa_cons (pe_bltn (v := .ty "list") (by rfl) T.n_list (by decide +kernel) rfl) pa_nil))) pa_nil)))) (pss_cons (ps_if (PW.pt (pw_or (pt_cmpR op_ne (pe_callB (call_isiK1 (K := K) rfl) (by rfl) T.n_isinstance (by decide +kernel) (pa_cons (pv 0) (pa_cons (pe_bltn (v := .ty "tuple") (by rfl) T.n_tuple (by decide +kernel) rfl) pa_nil))) (pe_callB (call_isiK1 (K := K) rfl) (by rfl) T.n_isinstance (by decide +kernel) (pa_cons (pv 1) (pa_cons (pe_bltn (v := .ty "tuple") (by rfl) T.n_tuple (by decide +kernel) rfl) pa_nil))) (nomark _)) (pw_or1 (pt_not (pt_val (pe_callB (call_isiT1 (K := K) rfl) (by rfl) T.n_isinstance (by decide +kernel) (pa_cons (pv 0) (pa_cons (pe_tup (pa_cons (pe_bltn (v := .ty "tuple") (by rfl) T.n_tuple (by decide +kernel) rfl) (pa_cons (pe_bltn (v := .ty "list") (by rfl) T.n_list (by decide +kernel) rfl) pa_nil))) pa_nil)))))))) (pss_one (ps_ret pe_bl)) pss_nil)
        (pss_one (ps_ret (pe_and (pe_cmpR op_eq (pe_callB (call_lenK (K := K) rfl) (by rfl) T.n_len PySem.boot_len (pa_cons (pv 0) pa_nil)) (pe_callB (call_lenK (K := K) rfl) (by rfl) T.n_len PySem.boot_len (pa_cons (pv 1) pa_nil)) (nomark _)) (pe_one (pe_callB (cr_all rfl) (by rfl) T.n_all (by decide +kernel) (pa_cons (pe_lc (own := [("_law_one", 2), ("_law_two", 3)]) (g := gTup K 2 (gCons (gName 2) (gCons (gName 3) gNil))) (tt := tYes) (by rfl) sc_lis.nd (RZ.pi_zipA (by rfl) T.n_zip (pa_cons (pv 0) (pa_cons (pv 1) pa_nil))) (blkOk_by (own := [("_law_one", 2), ("_law_two", 3)]) (N := ["_law_told", "_law_due", "_law_one", "_law_two"]) (sc := defScope s_lis) (by decide +kernel)) (fun _ _ _ _ _ => pg_tup rfl (pgs_cons (pg_name (i := 2) sc_lis.nd rfl (Or.inl rfl)) (pgs_cons (pg_name (i := 3) sc_lis.nd rfl (Or.inl rfl)) pgs_nil))) (fun _ _ _ _ _ => pts_nil) (fun _ _ _ _ _ => (pcal C_lis hr (by omega) rfl (pa_cons (pv 2) (pa_cons (pv 3) pa_nil))))) pa_nil))))))) pss_nil)
        (pss_one (ps_ret (pe_and (pe_cmpR op_eq (pe_callB (call_isiK1 (K := K) rfl) (by rfl) T.n_isinstance (by decide +kernel) (pa_cons (pv 0) (pa_cons (pe_bltn (v := .ty "bool") (by rfl) T.n_bool (by decide +kernel) rfl) pa_nil))) (pe_callB (call_isiK1 (K := K) rfl) (by rfl) T.n_isinstance (by decide +kernel) (pa_cons (pv 1) (pa_cons (pe_bltn (v := .ty "bool") (by rfl) T.n_bool (by decide +kernel) rfl) pa_nil))) (nomark _)) (pe_one (pe_cmpR op_eq (pv 0) (pv 1) (nomark _))))))), ?_⟩
      rcases hxy with ⟨rfl, fl⟩ | ⟨a, b, xs, ys, rfl, rfl, hh, ⟨hl, zz⟩, hk⟩
      · obtain ⟨t, ty, k1, k2, k3⟩ : ∃ t, (∀ H', TyX K H' x t) ∧ PySem.W.kitOne K t (.type "tuple") = some false ∧ PySem.W.kitOne K t (.type "list") = some false ∧ PySem.W.kitOne K t (.type "bool") = some (isB x) := by
          cases x with
          | non => exact ⟨_, fun _ => .base .non, kit_ty (by decide +kernel), kit_ty (by decide +kernel), kit_ty (by decide +kernel)⟩
          | bl b => exact ⟨_, fun _ => .base (.bl b), kit_ty (r := false) (by decide +kernel), kit_ty (r := false) (by decide +kernel), kit_ty (r := true) (by decide +kernel)⟩
          | int i => exact ⟨_, fun _ => .base (.int i), kit_ty (r := false) (by decide +kernel), kit_ty (r := false) (by decide +kernel), kit_ty (r := false) (by decide +kernel)⟩
          | str i => exact ⟨_, fun _ => .base (.str i), kit_ty (r := false) (by decide +kernel), kit_ty (r := false) (by decide +kernel), kit_ty (r := false) (by decide +kernel)⟩
          | _ => exact nft fl
        refine ⟨_, rfl, small (by show 2 ≤ 100000; decide), fun tp0 ht0 => ⟨_, tp0, _, _, _, _, rfl, upd_same, .cons (.ty _) (.cons (.ty _) .nil), ty _, any2 k1 k2, _, rfl, iteF ?_⟩⟩
        have s1 := same_upd (o := .tup [.ty "tuple", .ty "list"]) ht0
        generalize L2.upd H tp0 (.tup [.ty "tuple", .ty "list"]) = H1 at s1
        refine ⟨_, rfl, _, _, _, _, _, rfl, .ty _, ty _, k3, _, rfl, _, _, _, _, _, rfl, .ty _, ty _, k3, rfl, _, rfl, ?_⟩
        rw [decide_eq_true rfl]
        refine iteT ⟨_, rfl, _, rfl, ?_, ?_⟩
        · cases x <;> first | rfl | exact nft fl
        · rw [decide_eq_true rfl]
          exact k _ s1
      · -- the items
        have fin : ∀ H1 D, L2.Same H H1 → H1 D = some (.lst (fm xs.length fun _ => some (.bl true))) → ∃ (a0 : Addr) (bs : List Bool), [V.ref D] = [V.ref a0] ∧ SqL K H1 a0 (bs.map V.bl) ∧ Q (.bl (bs.all id)) H1 := fun H1 D s1 hD => by
          rw [show fm xs.length (fun _ => some (V.bl true)) = (List.replicate xs.length true).map V.bl from fm_all (by simp) fun i hi => by simp [hi]] at hD
          refine ⟨D, _, rfl, SqL.of hD, ?_⟩
          rw [show (List.replicate xs.length true).all id = true by simp]
          exact k _ s1
        rcases hh with ⟨hA, hB⟩ | ⟨hA, hB⟩
        · refine ⟨_, rfl, small (by show 2 ≤ 100000; decide), fun tp0 ht0 => ⟨_, tp0, _, _, _, _, rfl, upd_same, .cons (.ty _) (.cons (.ty _) .nil), .base (.tup (same_upd ht0 _ _ hB)), any2 (r := true) (s := false) (kit_ty (by decide +kernel)) (kit_ty (by decide +kernel)), _, rfl, iteT ?_⟩⟩
          have s1 := same_upd (o := .tup [.ty "tuple", .ty "list"]) ht0
          generalize L2.upd H tp0 (.tup [.ty "tuple", .ty "list"]) = H1 at s1
          have hA1 := s1 _ _ hA
          have hB1 := s1 _ _ hB
          refine ⟨_, rfl, _, _, _, _, true, rfl, .ty _, .base (.tup hA1), kit_ty (by decide +kernel), _, rfl, _, _, _, _, true, rfl, .ty _, .base (.tup hB1), kit_ty (by decide +kernel), rfl, _, rfl, iteF ?_⟩
          refine ⟨_, rfl, small (by show 2 ≤ 100000; decide), fun tp0 ht0 => ⟨_, tp0, _, _, _, _, rfl, upd_same, .cons (.ty _) (.cons (.ty _) .nil), .base (.tup (same_upd ht0 _ _ hA1)), any2 (r := true) (s := false) (kit_ty (by decide +kernel)) (kit_ty (by decide +kernel)), _, rfl, iteF ?_⟩⟩
          have s2 := same_upd (o := .tup [.ty "tuple", .ty "list"]) ht0
          generalize L2.upd H1 tp0 (.tup [.ty "tuple", .ty "list"]) = H2 at s2
          have hA2 := s2 _ _ hA1
          have hB2 := s2 _ _ hB1
          refine ⟨_, rfl, a, _, rfl, .inr (SqT.of hA2), _, rfl, b, _, rfl, .inr (SqT.of hB2), rfl, _, rfl, ?_⟩
          rw [hl, decide_eq_true rfl]
          refine iteT ⟨_, rfl, _, rfl, a, b, xs, ys, rfl, .inr ⟨SqT.of hA2, SqT.of hB2, ?_⟩⟩
          exact lcZT (fun _ => some (.bl true)) hA2 hB2 hl zz (fun i t x y H3 hx hy s3 et Y N kY kN => ⟨t, _, rfl, SqT.of et, rfl, _, _, rfl, _, _, rfl, rfl, rfl, _, rfl, _, rfl, x, y, rfl, (hk i x y hx hy).same ((s1.trans s2).trans s3), fun H4 s4 => kY _ _ rfl s4⟩) (fun D H3 s3 nD hD => fin _ D ((s1.trans s2).trans s3) hD)
        · refine ⟨_, rfl, small (by show 2 ≤ 100000; decide), fun tp0 ht0 => ⟨_, tp0, _, _, _, _, rfl, upd_same, .cons (.ty _) (.cons (.ty _) .nil), .base (.lst (same_upd ht0 _ _ hB)), any2 (r := false) (s := true) (kit_ty (by decide +kernel)) (kit_ty (by decide +kernel)), _, rfl, iteT ?_⟩⟩
          have s1 := same_upd (o := .tup [.ty "tuple", .ty "list"]) ht0
          generalize L2.upd H tp0 (.tup [.ty "tuple", .ty "list"]) = H1 at s1
          have hA1 := s1 _ _ hA
          have hB1 := s1 _ _ hB
          refine ⟨_, rfl, _, _, _, _, false, rfl, .ty _, .base (.lst hA1), kit_ty (by decide +kernel), _, rfl, _, _, _, _, false, rfl, .ty _, .base (.lst hB1), kit_ty (by decide +kernel), rfl, _, rfl, iteF ?_⟩
          refine ⟨_, rfl, small (by show 2 ≤ 100000; decide), fun tp0 ht0 => ⟨_, tp0, _, _, _, _, rfl, upd_same, .cons (.ty _) (.cons (.ty _) .nil), .base (.lst (same_upd ht0 _ _ hA1)), any2 (r := false) (s := true) (kit_ty (by decide +kernel)) (kit_ty (by decide +kernel)), _, rfl, iteF ?_⟩⟩
          have s2 := same_upd (o := .tup [.ty "tuple", .ty "list"]) ht0
          generalize L2.upd H1 tp0 (.tup [.ty "tuple", .ty "list"]) = H2 at s2
          have hA2 := s2 _ _ hA1
          have hB2 := s2 _ _ hB1
          refine ⟨_, rfl, a, _, rfl, .inl (SqL.of hA2), _, rfl, b, _, rfl, .inl (SqL.of hB2), rfl, _, rfl, ?_⟩
          rw [hl, decide_eq_true rfl]
          refine iteT ⟨_, rfl, _, rfl, a, b, xs, ys, rfl, .inl ⟨SqL.of hA2, SqL.of hB2, ?_⟩⟩
          exact lcZL (fun _ => some (.bl true)) hA2 hB2 hl zz (fun i t x y H3 hx hy s3 et Y N kY kN => ⟨t, _, rfl, SqT.of et, rfl, _, _, rfl, _, _, rfl, rfl, rfl, _, rfl, _, rfl, x, y, rfl, (hk i x y hx hy).same ((s1.trans s2).trans s3), fun H4 s4 => kY _ _ rfl s4⟩) (fun D H3 s3 nD hD => fin _ D ((s1.trans s2).trans s3) hD)
  
end
end W2
namespace W2
open PySem PySem.Spec PyProof.Rows L2
section
variable {P : Program} {w : World} {K : PySem.W.Frag} {mg : Str → Option Value} {base : Heap} {CS : List Addr}
theorem ok_law {f0 : Addr} {fd0 : FuncData} (F : Fun K "law" "law" s_law f0 fd0) (T : Txt K mg) (C_lhandI : Cal P w K mg base 1 "_law_hand" ["_law_script"] (spHand K)) (C_lshape : Cal P w K mg base 3 "_law_shape" ["_law_hand_here", "_law_many_here"] (spShape CS)) (C_lmany : Cal P w K mg base 2 "_law_many" ["_law_hand_here", "_law_most"] spMany) (C_lis : Cal P w K mg base 6 "_law_is" ["_law_told", "_law_due"] (spIs 5)) (C_isshape : Cal P w K mg base 5 "is_shape" ["thing"] (spIsShape CS)) (C_lisshape : Cal P w K mg base 2 "_law_is_shape" ["_law_thing"] (spIsShape CS)) (C_lbent7 : Cal P w K mg base 3 "_law_bent" ["_law_hand_here", "_law_shape_here"] (spBent7 CS)) (C_take16 : Cal P w K mg base 1 "_law_draw" ["_law_hand_here", "_law_many_here"] spTake) : FnOk P w K mg base CX0 7 f0 fd0 ["_law_script"] (spLaw K) := by
  refine F.ok sc_law (fun vs H Q E h => ?_) (fun cdv A outer s H vs Q E hr h => ?_)
  · obtain ⟨a, ns, rfl, _⟩ := h
    rfl
  · obtain ⟨sa, ns, rfl, hS, hlen, k⟩ := h
    refine ⟨_, (pss_cons (ps_set (i := 1) sc_law.nd rfl (Or.inl rfl) (pcal C_lhandI hr (by omega) rfl (pa_cons (pv 0) pa_nil)))
      (pss_cons (ps_set (i := 2) sc_law.nd rfl (Or.inl rfl) (pcal C_lshape hr (by omega) rfl (pa_cons (pv 1) (pa_cons (pcal C_lmany hr (by omega) rfl (pa_cons (pv 1) (pa_cons pe_int pa_nil))) pa_nil))))
      (pss_cons (ps_if (PW.pt (pw_or (pt_not (pt_val (pcal C_lis hr (by omega) rfl (pa_cons (pcal C_isshape hr (by omega) rfl (pa_cons (pv 2) pa_nil)) (pa_cons pe_bl pa_nil))))) (pw_or1 (pt_not (pt_val (pcal C_lisshape hr (by omega) rfl (pa_cons (pv 2) pa_nil))))))) (pss_one (ps_ret pe_bl)) pss_nil)
      (pss_cons (ps_for PassesOwn.never rfl (pi_range1 rfl T.n_range (pa_cons pe_int pa_nil)) (pg_name (i := 3) sc_law.nd rfl (Or.inl rfl)) (pss_cons (ps_set (i := 4) sc_law.nd rfl (Or.inl rfl) (pcal C_lbent7 hr (by omega) rfl (pa_cons (pv 1) (pa_cons (pv 2) pa_nil))))
      (pss_cons (ps_if (pt_not (pt_val (pcal C_lis hr (by omega) rfl (pa_cons (pcal C_isshape hr (by omega) rfl (pa_cons (pv 4) pa_nil)) (pa_cons (pcal C_lisshape hr (by omega) rfl (pa_cons (pv 4) pa_nil)) pa_nil))))) (pss_one (ps_ret pe_bl)) pss_nil)
      (pss_one (ps_if (PW.pt (pw_and (pt_cmpR op_eq (pcal C_take16 hr (by omega) rfl (pa_cons (pv 1) (pa_cons pe_int pa_nil))) pe_int (nomark _)) (pw_and1 (pt_val (pcal C_lisshape hr (by omega) rfl (pa_cons (pv 4) pa_nil)))))) (pss_one (ps_set (i := 2) sc_law.nd rfl (Or.inl rfl) (pv 4))) pss_nil)))))
      (pss_one (ps_ret (pe_cmpR op_isB (pcal C_isshape hr (by omega) rfl (pa_cons (pe_callTy (call_list_ofK (K := K) rfl) (by rfl) T.n_list (by decide +kernel) (pa_cons (pv 2) pa_nil)) pa_nil)) pe_bl (nomark _)))))))), ?_⟩
    refine ⟨_, rfl, sa, ns, rfl, hS, hlen, fun H1 h l s1 hh0 hand1 => ?_⟩
    refine ⟨_, rfl, _, rfl, h, l, 12, rfl, hand1, by decide, by decide, fun H2 n b2 hh2 n1 n64 => ⟨h, l, n, rfl, hh2, n1, n64, fun H3 a s b3 hh3 sh ok ls => ?_⟩⟩
    have T1 : ∀ {H : Hp} {a : Addr} {s : Sh}, ShA CS H a s → ShOk s → dec (IsSh (dSh s)) = true := fun _ ok => dec_t ⟨_, rfl, ok⟩
    refine ⟨_, rfl, dSh s, _, rfl, sh, fun H4 s4 => ⟨_, _, rfl, by rw [T1 sh ok]; exact eqD_bl true, fun H5 s5 => ⟨true, rfl, iteF ?_⟩⟩⟩
    refine ⟨_, rfl, dSh s, _, rfl, sh.same (s4.trans s5), fun H6 s6 => ⟨_, rfl, ?_⟩⟩
    rw [T1 sh ok]
    refine iteF ⟨_, rfl, by decide, by decide, ?_⟩
    refine for_range (lo := 0) (n := 10) (fun i σ H' => ∃ (v3 v4 : Option V) (a : Addr) (s : Sh), σ = [some (.ref sa), some (.ref h), some (.ref a), v3, v4] ∧ Hand H' h l ∧ ShA CS H' a s ∧ ShOk s) ⟨_, _, a, s, rfl, hh3.same ((s4.trans s5).trans s6), sh.same ((s4.trans s5).trans s6), ok⟩ ?_ ?_
    · rintro i σ H7 hi ⟨v3, v4, a, s, rfl, hh7, sh7, ok7⟩
      refine ⟨_, rfl, _, rfl, h, l, a, s, rfl, hh7, sh7, ok7, fun H8 x d b8 hh8 rx => ?_⟩
      refine ⟨_, rfl, d, x, rfl, rx, fun H9 s9 => ⟨_, rfl, d, x, rfl, rx.same s9, fun H10 s10 => ⟨_, _, rfl, eqD_bl _, fun H11 s11 => ⟨true, rfl, iteF ?_⟩⟩⟩⟩
      have u := (s9.trans s10).trans s11
      have hh11 := hh8.same u
      refine ⟨_, rfl, h, l, 4, rfl, hh11, by decide, by decide, fun H12 r12 b12 hh12 rl12 => ⟨rfl, _, rfl, ?_⟩⟩
      have kin : Kin H7 H12 := (hh7.kin b8 hh8).trans ((Kin.of u).trans (hh11.kin b12 hh12))
      have rx12 : Rep CS H12 d x := rx.kin ((Kin.of u).trans (hh11.kin b12 hh12))
      refine iteB (fun _ => ⟨_, rfl, d, x, rfl, rx12, fun H13 s13 => ⟨_, rfl, ?_⟩⟩) (fun _ => iteF ⟨_, _, a, s, rfl, hh12, sh7.kin kin, ok7⟩)
      refine iteB (fun e => ?_) (fun _ => ⟨_, _, a, s, rfl, hh12.same s13, (sh7.kin kin).same s13, ok7⟩)
      obtain ⟨t, rfl, okt⟩ := dec_iff.mp e
      obtain ⟨b, ys, rfl, _, _⟩ := rep_tup.mp rx12
      exact ⟨_, rfl, _, _, b, t, rfl, hh12.same s13, Rep.same rx12 s13, okt⟩
    · rintro σ H7 ⟨v3, v4, a, s, rfl, hh7, sh7, ok7⟩
      obtain ⟨xs, hA, lx, hat⟩ := sha_at sh7
      refine ⟨_, rfl, a, _, rfl, .inr (SqT.of hA), fun q hq => ⟨.lst, _, rfl, rep_lst.mpr ⟨q, _, rfl, upd_same⟩, fun H8 s8 => ⟨false, rfl, ?_⟩⟩⟩
      rw [dec_f (P := IsSh .lst) (fun ⟨s, e, _⟩ => nomatch e)]
      exact k _

end
end W2
namespace W2
open PySem PySem.Spec PyProof.Rows L2
theorem def_mk {K : PySem.W.Frag} {h : Heap} {mg : Str → Option Value} (X : K.In h) (G : h.Ns mainGlobals mg) {x : Str} {st : Stmt} {ps : List Str} {f : Addr} {oc : Value} {od an : Option Addr} {osl : Array (Option Value)} {kV doc pm cdv ct : Value}
    (a : PySem.W.nsIn K mainGlobals x = some (some (.ref f))) (l : K.lookup f = some ⟨oc, od, .func (PySem.W.fnOf x x (defArgs st) (defBody st) (defScope st) .none kV doc pm an cdv ct), osl⟩) (c : PySem.W.codeIn K cdv x = true) (k : PySem.W.keepIn K (.ref f) = true)
    (b : ∀ (kV doc pm : Value) (an : Option Addr) (cdv ct : Value) (us : List Value), us.length = ps.length → bindArgs (PySem.W.fnOf x x (defArgs st) (defBody st) (defScope st) .none kV doc pm an cdv ct) ⟨us, []⟩ = pure (ps.zip us)) : Def K mg x st ps :=
  ⟨f, _, fun_mk (st := st) l c k, PySem.W.mg_of X G a, (fun_mk (st := st) l c k).binds b⟩
theorem txt_mk {K : PySem.W.Frag} {h : Heap} {mg : Str → Option Value} (X : K.In h) (G : h.Ns mainGlobals mg) {t_MOST_HOUSES : Tok} (n_len : PySem.W.nsIn K mainGlobals "len" = some none) (n_isinstance : PySem.W.nsIn K mainGlobals "isinstance" = some none) (n_int : PySem.W.nsIn K mainGlobals "int" = some none) (n_bool : PySem.W.nsIn K mainGlobals "bool" = some none) (n_tuple : PySem.W.nsIn K mainGlobals "tuple" = some none) (n_list : PySem.W.nsIn K mainGlobals "list" = some none) (n_range : PySem.W.nsIn K mainGlobals "range" = some none) (n_all : PySem.W.nsIn K mainGlobals "all" = some none) (n_min : PySem.W.nsIn K mainGlobals "min" = some none) (n_zip : PySem.W.nsIn K mainGlobals "zip" = some none) (g_MOST_HOUSES : PySem.W.nsIn K mainGlobals "MOST_HOUSES" = some (some (.int 64 t_MOST_HOUSES))) : Txt K mg :=
  ⟨PySem.W.mg_none_of X G n_len, PySem.W.mg_none_of X G n_isinstance, PySem.W.mg_none_of X G n_int, PySem.W.mg_none_of X G n_bool, PySem.W.mg_none_of X G n_tuple, PySem.W.mg_none_of X G n_list, PySem.W.mg_none_of X G n_range, PySem.W.mg_none_of X G n_all, PySem.W.mg_none_of X G n_min, PySem.W.mg_none_of X G n_zip, ⟨t_MOST_HOUSES, PySem.W.mg_of X G g_MOST_HOUSES⟩⟩
section
variable {P : Program} {w : World} {K : PySem.W.Frag} {mg : Str → Option Value} {base : Heap} {CS : List Addr}

theorem ok_all (T : Txt K mg) (FC : Env K CS)  {f0 : Addr} {fd0 : FuncData} (FL : Fun K "law" "law" s_law f0 fd0) (D_isint : Def K mg "is_integer" s_isint ["thing"]) (D_between : Def K mg "is_between" s_between ["least", "most", "thing"]) (D_ishouse : Def K mg "is_house" s_ishouse ["many", "thing"]) (D_ismany : Def K mg "is_many" s_ismany ["thing"]) (D_come : Def K mg "come_to_roots" s_come ["parents"]) (D_isshape : Def K mg "is_shape" s_isshape ["thing"]) (D_ispart : Def K mg "_is_part" s_ispart ["many", "thing"]) (D_hassons : Def K mg "_has_its_sons" s_hassons ["parts", "house"]) (D_lhandI : Def K mg "_law_hand" s_lhandI ["_law_script"]) (D_take16 : Def K mg "_law_draw" s_take16 ["_law_hand_here", "_law_many_here"]) (D_lis : Def K mg "_law_is" s_lis ["_law_told", "_law_due"]) (D_ldeep : Def K mg "_law_deep" s_ldeep ["_law_hand_here"]) (D_lnumber : Def K mg "_law_number" s_lnumber ["_law_thing", "_law_least", "_law_most"]) (D_lisint : Def K mg "_law_is_integer" s_lisint ["_law_thing"]) (D_lvalue : Def K mg "_law_value" s_lvalue ["_law_hand_here"]) (D_lmany : Def K mg "_law_many" s_lmany ["_law_hand_here", "_law_most"]) (D_lshuf : Def K mg "_law_shuffled" s_lshuf ["_law_hand_here", "_law_many_here"]) (D_lhouse : Def K mg "_law_house" s_lhouse ["_law_up", "_law_value_here"]) (D_lshape : Def K mg "_law_shape" s_lshape ["_law_hand_here", "_law_many_here"]) (D_lisshape : Def K mg "_law_is_shape" s_lisshape ["_law_thing"]) (D_lbent7 : Def K mg "_law_bent" s_lbent7 ["_law_hand_here", "_law_shape_here"]) : FnOk P w K mg base CX0 7 f0 fd0 ["_law_script"] (spLaw K) := by
  have C_isint : Cal P w K mg base 1 "is_integer" ["thing"] (spIsInt CS) := ok_isint D_isint T FC
  have C_come : Cal P w K mg base 1 "come_to_roots" ["parents"] spCome := ok_come D_come T
  have C_hassons : Cal P w K mg base 1 "_has_its_sons" ["parts", "house"] (spHasSons CS) := ok_hassons D_hassons T
  have C_lhandI : Cal P w K mg base 1 "_law_hand" ["_law_script"] (spHand K) := ok_lhandI D_lhandI T
  have C_take16 : Cal P w K mg base 1 "_law_draw" ["_law_hand_here", "_law_many_here"] spTake := ok_take16 D_take16 T
  have C_lnumber : Cal P w K mg base 1 "_law_number" ["_law_thing", "_law_least", "_law_most"] (spWithin CS) := ok_lnumber D_lnumber T FC
  have C_lisint : Cal P w K mg base 1 "_law_is_integer" ["_law_thing"] (spIsInt CS) := ok_lisint D_lisint T FC
  have C_lhouse : Cal P w K mg base 1 "_law_house" ["_law_up", "_law_value_here"] spHouse := ok_lhouse D_lhouse T
  have C_between : Cal P w K mg base 2 "is_between" ["least", "most", "thing"] (spBetween CS) := ok_between D_between T C_isint
  have C_ldeep : Cal P w K mg base 2 "_law_deep" ["_law_hand_here"] (spDeep CS) := ok_ldeep D_ldeep T C_take16
  have C_lvalue : Cal P w K mg base 2 "_law_value" ["_law_hand_here"] spValue := ok_lvalue D_lvalue T C_take16
  have C_lmany : Cal P w K mg base 2 "_law_many" ["_law_hand_here", "_law_most"] spMany := ok_lmany D_lmany T C_take16
  have C_lshuf : Cal P w K mg base 2 "_law_shuffled" ["_law_hand_here", "_law_many_here"] (spShuf K) := ok_lshuf D_lshuf T C_take16
  have C_lisshape : Cal P w K mg base 2 "_law_is_shape" ["_law_thing"] (spIsShape CS) := ok_lisshape D_lisshape T C_lnumber C_lisint FC
  have C_ishouse : Cal P w K mg base 3 "is_house" ["many", "thing"] (spIsHouse CS) := ok_ishouse D_ishouse T C_between
  have C_ismany : Cal P w K mg base 3 "is_many" ["thing"] (spIsMany CS) := ok_ismany D_ismany T C_between
  have C_lshape : Cal P w K mg base 3 "_law_shape" ["_law_hand_here", "_law_many_here"] (spShape CS) := ok_lshape D_lshape T C_lshuf C_lhouse C_lvalue C_take16
  have C_lbent7 : Cal P w K mg base 3 "_law_bent" ["_law_hand_here", "_law_shape_here"] (spBent7 CS) := ok_lbent7 D_lbent7 T C_take16 C_ldeep
  have C_ispart : Cal P w K mg base 4 "_is_part" ["many", "thing"] (spIsPart CS) := ok_ispart D_ispart T C_ishouse C_isint FC
  have C_isshape : Cal P w K mg base 5 "is_shape" ["thing"] (spIsShape CS) := ok_isshape D_isshape T C_ismany C_ispart C_hassons C_come FC
  have C_lis : Cal P w K mg base 6 "_law_is" ["_law_told", "_law_due"] (spIs 5) := ok_lis D_lis T 5
  exact ok_law FL T C_lhandI C_lshape C_lmany C_lis C_isshape C_lisshape C_lbent7 C_take16
end
theorem walk {l : PySem.W.OpenLaw} {q : Program} {loose : List Str} {XP : (Str → Option Value) → Heap → Prop} {YP : World → Heap → Prop} {d : DefRec} {K : Params → PySem.W.Frag} (hn : l.most = some 63) (hdf : d.params.defaults = [])
    (hY : ∀ (w : World) (h : Heap), YP w h → (K w.params).In h)
    (F : ∀ (w : World) (mg : Str → Option Value) (fa : Addr) (h : Heap), (K w.params).In h → h.Ns mainGlobals mg → mg d.name = some (.ref fa) →
      ∃ fd : FuncData, (∀ (s : Shared) (u : Value), BindsTo s fd ⟨[u], []⟩ [("_law_script", u)]) ∧ ∀ base : Heap, (K w.params).In base → base.Ns mainGlobals mg → FnOk l.prog w (K w.params) mg base CX0 7 fa fd ["_law_script"] (spLaw (K w.params))) :
    PySem.W.WalkO q loose XP YP l.row.toRowW d [] (fun f vs => PySem.call f vs) :=
  L2.walk_of (n := 63) (k := 7) (x := "_law_script") (CX := fun _ => CX0) (sp := fun w => spLaw (K w.params)) hn (by decide) hdf ⟨rfl, by decide, by decide⟩ hY F (fun _ _ a ns hl _ hS => ⟨a, ns, rfl, hS, hl, fun _ => rfl⟩) fun _ _ _ _ _ z => z
theorem all_mk {P : Program} {w : World} {K : PySem.W.Frag} {h : Heap} {mg : Str → Option Value} {fa f_isint f_between f_ishouse f_ismany f_come f_isshape f_ispart f_hassons f_lhandI f_take16 f_lis f_ldeep f_lnumber f_lisint f_lvalue f_lmany f_lshuf f_lhouse f_lshape f_lisshape f_lbent7 f_law : Addr} (X : K.In h) (G : h.Ns mainGlobals mg) (hfa : mg "law" = some (.ref fa))
    {od_isint an_isint : Option Addr} {sl_isint : Array (Option Value)} {oc_isint kV_isint dc_isint pm_isint cd_isint ct_isint : Value} (a_isint : PySem.W.nsIn K mainGlobals "is_integer" = some (some (.ref f_isint)))
    (l_isint : K.lookup f_isint = some ⟨oc_isint, od_isint, .func (PySem.W.fnOf "is_integer" "is_integer" (defArgs s_isint) (defBody s_isint) (defScope s_isint) .none kV_isint dc_isint pm_isint an_isint cd_isint ct_isint), sl_isint⟩) (c_isint : PySem.W.codeIn K cd_isint "is_integer" = true) (k_isint : PySem.W.keepIn K (.ref f_isint) = true)
    {od_between an_between : Option Addr} {sl_between : Array (Option Value)} {oc_between kV_between dc_between pm_between cd_between ct_between : Value} (a_between : PySem.W.nsIn K mainGlobals "is_between" = some (some (.ref f_between)))
    (l_between : K.lookup f_between = some ⟨oc_between, od_between, .func (PySem.W.fnOf "is_between" "is_between" (defArgs s_between) (defBody s_between) (defScope s_between) .none kV_between dc_between pm_between an_between cd_between ct_between), sl_between⟩) (c_between : PySem.W.codeIn K cd_between "is_between" = true) (k_between : PySem.W.keepIn K (.ref f_between) = true)
    {od_ishouse an_ishouse : Option Addr} {sl_ishouse : Array (Option Value)} {oc_ishouse kV_ishouse dc_ishouse pm_ishouse cd_ishouse ct_ishouse : Value} (a_ishouse : PySem.W.nsIn K mainGlobals "is_house" = some (some (.ref f_ishouse)))
    (l_ishouse : K.lookup f_ishouse = some ⟨oc_ishouse, od_ishouse, .func (PySem.W.fnOf "is_house" "is_house" (defArgs s_ishouse) (defBody s_ishouse) (defScope s_ishouse) .none kV_ishouse dc_ishouse pm_ishouse an_ishouse cd_ishouse ct_ishouse), sl_ishouse⟩) (c_ishouse : PySem.W.codeIn K cd_ishouse "is_house" = true) (k_ishouse : PySem.W.keepIn K (.ref f_ishouse) = true)
    {od_ismany an_ismany : Option Addr} {sl_ismany : Array (Option Value)} {oc_ismany kV_ismany dc_ismany pm_ismany cd_ismany ct_ismany : Value} (a_ismany : PySem.W.nsIn K mainGlobals "is_many" = some (some (.ref f_ismany)))
    (l_ismany : K.lookup f_ismany = some ⟨oc_ismany, od_ismany, .func (PySem.W.fnOf "is_many" "is_many" (defArgs s_ismany) (defBody s_ismany) (defScope s_ismany) .none kV_ismany dc_ismany pm_ismany an_ismany cd_ismany ct_ismany), sl_ismany⟩) (c_ismany : PySem.W.codeIn K cd_ismany "is_many" = true) (k_ismany : PySem.W.keepIn K (.ref f_ismany) = true)
    {od_come an_come : Option Addr} {sl_come : Array (Option Value)} {oc_come kV_come dc_come pm_come cd_come ct_come : Value} (a_come : PySem.W.nsIn K mainGlobals "come_to_roots" = some (some (.ref f_come)))
    (l_come : K.lookup f_come = some ⟨oc_come, od_come, .func (PySem.W.fnOf "come_to_roots" "come_to_roots" (defArgs s_come) (defBody s_come) (defScope s_come) .none kV_come dc_come pm_come an_come cd_come ct_come), sl_come⟩) (c_come : PySem.W.codeIn K cd_come "come_to_roots" = true) (k_come : PySem.W.keepIn K (.ref f_come) = true)
    {od_isshape an_isshape : Option Addr} {sl_isshape : Array (Option Value)} {oc_isshape kV_isshape dc_isshape pm_isshape cd_isshape ct_isshape : Value} (a_isshape : PySem.W.nsIn K mainGlobals "is_shape" = some (some (.ref f_isshape)))
    (l_isshape : K.lookup f_isshape = some ⟨oc_isshape, od_isshape, .func (PySem.W.fnOf "is_shape" "is_shape" (defArgs s_isshape) (defBody s_isshape) (defScope s_isshape) .none kV_isshape dc_isshape pm_isshape an_isshape cd_isshape ct_isshape), sl_isshape⟩) (c_isshape : PySem.W.codeIn K cd_isshape "is_shape" = true) (k_isshape : PySem.W.keepIn K (.ref f_isshape) = true)
    {od_ispart an_ispart : Option Addr} {sl_ispart : Array (Option Value)} {oc_ispart kV_ispart dc_ispart pm_ispart cd_ispart ct_ispart : Value} (a_ispart : PySem.W.nsIn K mainGlobals "_is_part" = some (some (.ref f_ispart)))
    (l_ispart : K.lookup f_ispart = some ⟨oc_ispart, od_ispart, .func (PySem.W.fnOf "_is_part" "_is_part" (defArgs s_ispart) (defBody s_ispart) (defScope s_ispart) .none kV_ispart dc_ispart pm_ispart an_ispart cd_ispart ct_ispart), sl_ispart⟩) (c_ispart : PySem.W.codeIn K cd_ispart "_is_part" = true) (k_ispart : PySem.W.keepIn K (.ref f_ispart) = true)
    {od_hassons an_hassons : Option Addr} {sl_hassons : Array (Option Value)} {oc_hassons kV_hassons dc_hassons pm_hassons cd_hassons ct_hassons : Value} (a_hassons : PySem.W.nsIn K mainGlobals "_has_its_sons" = some (some (.ref f_hassons)))
    (l_hassons : K.lookup f_hassons = some ⟨oc_hassons, od_hassons, .func (PySem.W.fnOf "_has_its_sons" "_has_its_sons" (defArgs s_hassons) (defBody s_hassons) (defScope s_hassons) .none kV_hassons dc_hassons pm_hassons an_hassons cd_hassons ct_hassons), sl_hassons⟩) (c_hassons : PySem.W.codeIn K cd_hassons "_has_its_sons" = true) (k_hassons : PySem.W.keepIn K (.ref f_hassons) = true)
    {od_lhandI an_lhandI : Option Addr} {sl_lhandI : Array (Option Value)} {oc_lhandI kV_lhandI dc_lhandI pm_lhandI cd_lhandI ct_lhandI : Value} (a_lhandI : PySem.W.nsIn K mainGlobals "_law_hand" = some (some (.ref f_lhandI)))
    (l_lhandI : K.lookup f_lhandI = some ⟨oc_lhandI, od_lhandI, .func (PySem.W.fnOf "_law_hand" "_law_hand" (defArgs s_lhandI) (defBody s_lhandI) (defScope s_lhandI) .none kV_lhandI dc_lhandI pm_lhandI an_lhandI cd_lhandI ct_lhandI), sl_lhandI⟩) (c_lhandI : PySem.W.codeIn K cd_lhandI "_law_hand" = true) (k_lhandI : PySem.W.keepIn K (.ref f_lhandI) = true)
    {od_take16 an_take16 : Option Addr} {sl_take16 : Array (Option Value)} {oc_take16 kV_take16 dc_take16 pm_take16 cd_take16 ct_take16 : Value} (a_take16 : PySem.W.nsIn K mainGlobals "_law_draw" = some (some (.ref f_take16)))
    (l_take16 : K.lookup f_take16 = some ⟨oc_take16, od_take16, .func (PySem.W.fnOf "_law_draw" "_law_draw" (defArgs s_take16) (defBody s_take16) (defScope s_take16) .none kV_take16 dc_take16 pm_take16 an_take16 cd_take16 ct_take16), sl_take16⟩) (c_take16 : PySem.W.codeIn K cd_take16 "_law_draw" = true) (k_take16 : PySem.W.keepIn K (.ref f_take16) = true)
    {od_lis an_lis : Option Addr} {sl_lis : Array (Option Value)} {oc_lis kV_lis dc_lis pm_lis cd_lis ct_lis : Value} (a_lis : PySem.W.nsIn K mainGlobals "_law_is" = some (some (.ref f_lis)))
    (l_lis : K.lookup f_lis = some ⟨oc_lis, od_lis, .func (PySem.W.fnOf "_law_is" "_law_is" (defArgs s_lis) (defBody s_lis) (defScope s_lis) .none kV_lis dc_lis pm_lis an_lis cd_lis ct_lis), sl_lis⟩) (c_lis : PySem.W.codeIn K cd_lis "_law_is" = true) (k_lis : PySem.W.keepIn K (.ref f_lis) = true)
    {od_ldeep an_ldeep : Option Addr} {sl_ldeep : Array (Option Value)} {oc_ldeep kV_ldeep dc_ldeep pm_ldeep cd_ldeep ct_ldeep : Value} (a_ldeep : PySem.W.nsIn K mainGlobals "_law_deep" = some (some (.ref f_ldeep)))
    (l_ldeep : K.lookup f_ldeep = some ⟨oc_ldeep, od_ldeep, .func (PySem.W.fnOf "_law_deep" "_law_deep" (defArgs s_ldeep) (defBody s_ldeep) (defScope s_ldeep) .none kV_ldeep dc_ldeep pm_ldeep an_ldeep cd_ldeep ct_ldeep), sl_ldeep⟩) (c_ldeep : PySem.W.codeIn K cd_ldeep "_law_deep" = true) (k_ldeep : PySem.W.keepIn K (.ref f_ldeep) = true)
    {od_lnumber an_lnumber : Option Addr} {sl_lnumber : Array (Option Value)} {oc_lnumber kV_lnumber dc_lnumber pm_lnumber cd_lnumber ct_lnumber : Value} (a_lnumber : PySem.W.nsIn K mainGlobals "_law_number" = some (some (.ref f_lnumber)))
    (l_lnumber : K.lookup f_lnumber = some ⟨oc_lnumber, od_lnumber, .func (PySem.W.fnOf "_law_number" "_law_number" (defArgs s_lnumber) (defBody s_lnumber) (defScope s_lnumber) .none kV_lnumber dc_lnumber pm_lnumber an_lnumber cd_lnumber ct_lnumber), sl_lnumber⟩) (c_lnumber : PySem.W.codeIn K cd_lnumber "_law_number" = true) (k_lnumber : PySem.W.keepIn K (.ref f_lnumber) = true)
    {od_lisint an_lisint : Option Addr} {sl_lisint : Array (Option Value)} {oc_lisint kV_lisint dc_lisint pm_lisint cd_lisint ct_lisint : Value} (a_lisint : PySem.W.nsIn K mainGlobals "_law_is_integer" = some (some (.ref f_lisint)))
    (l_lisint : K.lookup f_lisint = some ⟨oc_lisint, od_lisint, .func (PySem.W.fnOf "_law_is_integer" "_law_is_integer" (defArgs s_lisint) (defBody s_lisint) (defScope s_lisint) .none kV_lisint dc_lisint pm_lisint an_lisint cd_lisint ct_lisint), sl_lisint⟩) (c_lisint : PySem.W.codeIn K cd_lisint "_law_is_integer" = true) (k_lisint : PySem.W.keepIn K (.ref f_lisint) = true)
    {od_lvalue an_lvalue : Option Addr} {sl_lvalue : Array (Option Value)} {oc_lvalue kV_lvalue dc_lvalue pm_lvalue cd_lvalue ct_lvalue : Value} (a_lvalue : PySem.W.nsIn K mainGlobals "_law_value" = some (some (.ref f_lvalue)))
    (l_lvalue : K.lookup f_lvalue = some ⟨oc_lvalue, od_lvalue, .func (PySem.W.fnOf "_law_value" "_law_value" (defArgs s_lvalue) (defBody s_lvalue) (defScope s_lvalue) .none kV_lvalue dc_lvalue pm_lvalue an_lvalue cd_lvalue ct_lvalue), sl_lvalue⟩) (c_lvalue : PySem.W.codeIn K cd_lvalue "_law_value" = true) (k_lvalue : PySem.W.keepIn K (.ref f_lvalue) = true)
    {od_lmany an_lmany : Option Addr} {sl_lmany : Array (Option Value)} {oc_lmany kV_lmany dc_lmany pm_lmany cd_lmany ct_lmany : Value} (a_lmany : PySem.W.nsIn K mainGlobals "_law_many" = some (some (.ref f_lmany)))
    (l_lmany : K.lookup f_lmany = some ⟨oc_lmany, od_lmany, .func (PySem.W.fnOf "_law_many" "_law_many" (defArgs s_lmany) (defBody s_lmany) (defScope s_lmany) .none kV_lmany dc_lmany pm_lmany an_lmany cd_lmany ct_lmany), sl_lmany⟩) (c_lmany : PySem.W.codeIn K cd_lmany "_law_many" = true) (k_lmany : PySem.W.keepIn K (.ref f_lmany) = true)
    {od_lshuf an_lshuf : Option Addr} {sl_lshuf : Array (Option Value)} {oc_lshuf kV_lshuf dc_lshuf pm_lshuf cd_lshuf ct_lshuf : Value} (a_lshuf : PySem.W.nsIn K mainGlobals "_law_shuffled" = some (some (.ref f_lshuf)))
    (l_lshuf : K.lookup f_lshuf = some ⟨oc_lshuf, od_lshuf, .func (PySem.W.fnOf "_law_shuffled" "_law_shuffled" (defArgs s_lshuf) (defBody s_lshuf) (defScope s_lshuf) .none kV_lshuf dc_lshuf pm_lshuf an_lshuf cd_lshuf ct_lshuf), sl_lshuf⟩) (c_lshuf : PySem.W.codeIn K cd_lshuf "_law_shuffled" = true) (k_lshuf : PySem.W.keepIn K (.ref f_lshuf) = true)
    {od_lhouse an_lhouse : Option Addr} {sl_lhouse : Array (Option Value)} {oc_lhouse kV_lhouse dc_lhouse pm_lhouse cd_lhouse ct_lhouse : Value} (a_lhouse : PySem.W.nsIn K mainGlobals "_law_house" = some (some (.ref f_lhouse)))
    (l_lhouse : K.lookup f_lhouse = some ⟨oc_lhouse, od_lhouse, .func (PySem.W.fnOf "_law_house" "_law_house" (defArgs s_lhouse) (defBody s_lhouse) (defScope s_lhouse) .none kV_lhouse dc_lhouse pm_lhouse an_lhouse cd_lhouse ct_lhouse), sl_lhouse⟩) (c_lhouse : PySem.W.codeIn K cd_lhouse "_law_house" = true) (k_lhouse : PySem.W.keepIn K (.ref f_lhouse) = true)
    {od_lshape an_lshape : Option Addr} {sl_lshape : Array (Option Value)} {oc_lshape kV_lshape dc_lshape pm_lshape cd_lshape ct_lshape : Value} (a_lshape : PySem.W.nsIn K mainGlobals "_law_shape" = some (some (.ref f_lshape)))
    (l_lshape : K.lookup f_lshape = some ⟨oc_lshape, od_lshape, .func (PySem.W.fnOf "_law_shape" "_law_shape" (defArgs s_lshape) (defBody s_lshape) (defScope s_lshape) .none kV_lshape dc_lshape pm_lshape an_lshape cd_lshape ct_lshape), sl_lshape⟩) (c_lshape : PySem.W.codeIn K cd_lshape "_law_shape" = true) (k_lshape : PySem.W.keepIn K (.ref f_lshape) = true)
    {od_lisshape an_lisshape : Option Addr} {sl_lisshape : Array (Option Value)} {oc_lisshape kV_lisshape dc_lisshape pm_lisshape cd_lisshape ct_lisshape : Value} (a_lisshape : PySem.W.nsIn K mainGlobals "_law_is_shape" = some (some (.ref f_lisshape)))
    (l_lisshape : K.lookup f_lisshape = some ⟨oc_lisshape, od_lisshape, .func (PySem.W.fnOf "_law_is_shape" "_law_is_shape" (defArgs s_lisshape) (defBody s_lisshape) (defScope s_lisshape) .none kV_lisshape dc_lisshape pm_lisshape an_lisshape cd_lisshape ct_lisshape), sl_lisshape⟩) (c_lisshape : PySem.W.codeIn K cd_lisshape "_law_is_shape" = true) (k_lisshape : PySem.W.keepIn K (.ref f_lisshape) = true)
    {od_lbent7 an_lbent7 : Option Addr} {sl_lbent7 : Array (Option Value)} {oc_lbent7 kV_lbent7 dc_lbent7 pm_lbent7 cd_lbent7 ct_lbent7 : Value} (a_lbent7 : PySem.W.nsIn K mainGlobals "_law_bent" = some (some (.ref f_lbent7)))
    (l_lbent7 : K.lookup f_lbent7 = some ⟨oc_lbent7, od_lbent7, .func (PySem.W.fnOf "_law_bent" "_law_bent" (defArgs s_lbent7) (defBody s_lbent7) (defScope s_lbent7) .none kV_lbent7 dc_lbent7 pm_lbent7 an_lbent7 cd_lbent7 ct_lbent7), sl_lbent7⟩) (c_lbent7 : PySem.W.codeIn K cd_lbent7 "_law_bent" = true) (k_lbent7 : PySem.W.keepIn K (.ref f_lbent7) = true)
    {od_law an_law : Option Addr} {sl_law : Array (Option Value)} {oc_law kV_law dc_law pm_law cd_law ct_law : Value} (a_law : PySem.W.nsIn K mainGlobals "law" = some (some (.ref f_law)))
    (l_law : K.lookup f_law = some ⟨oc_law, od_law, .func (PySem.W.fnOf "law" "law" (defArgs s_law) (defBody s_law) (defScope s_law) .none kV_law dc_law pm_law an_law cd_law ct_law), sl_law⟩) (c_law : PySem.W.codeIn K cd_law "law" = true) (k_law : PySem.W.keepIn K (.ref f_law) = true)
     
    {t_MOST_HOUSES : Tok} (n_len : PySem.W.nsIn K mainGlobals "len" = some none) (n_isinstance : PySem.W.nsIn K mainGlobals "isinstance" = some none) (n_int : PySem.W.nsIn K mainGlobals "int" = some none) (n_bool : PySem.W.nsIn K mainGlobals "bool" = some none) (n_tuple : PySem.W.nsIn K mainGlobals "tuple" = some none) (n_list : PySem.W.nsIn K mainGlobals "list" = some none) (n_range : PySem.W.nsIn K mainGlobals "range" = some none) (n_all : PySem.W.nsIn K mainGlobals "all" = some none) (n_min : PySem.W.nsIn K mainGlobals "min" = some none) (n_zip : PySem.W.nsIn K mainGlobals "zip" = some none) (g_MOST_HOUSES : PySem.W.nsIn K mainGlobals "MOST_HOUSES" = some (some (.int 64 t_MOST_HOUSES))) :
    ∃ fd : FuncData, (∀ (s : Shared) (v : Value), BindsTo s fd ⟨[v], []⟩ [("_law_script", v)]) ∧ ∀ base : Heap, K.In base → base.Ns mainGlobals mg → FnOk P w K mg base CX0 7 fa fd ["_law_script"] (spLaw K) := by
  have D_isint := def_mk (st := s_isint) (ps := ["thing"]) X G a_isint l_isint c_isint k_isint fun _ _ _ _ _ _ us hl => match us, hl with | [_], _ => rfl
  have D_between := def_mk (st := s_between) (ps := ["least", "most", "thing"]) X G a_between l_between c_between k_between fun _ _ _ _ _ _ us hl => match us, hl with | [_, _, _], _ => rfl
  have D_ishouse := def_mk (st := s_ishouse) (ps := ["many", "thing"]) X G a_ishouse l_ishouse c_ishouse k_ishouse fun _ _ _ _ _ _ us hl => match us, hl with | [_, _], _ => rfl
  have D_ismany := def_mk (st := s_ismany) (ps := ["thing"]) X G a_ismany l_ismany c_ismany k_ismany fun _ _ _ _ _ _ us hl => match us, hl with | [_], _ => rfl
  have D_come := def_mk (st := s_come) (ps := ["parents"]) X G a_come l_come c_come k_come fun _ _ _ _ _ _ us hl => match us, hl with | [_], _ => rfl
  have D_isshape := def_mk (st := s_isshape) (ps := ["thing"]) X G a_isshape l_isshape c_isshape k_isshape fun _ _ _ _ _ _ us hl => match us, hl with | [_], _ => rfl
  have D_ispart := def_mk (st := s_ispart) (ps := ["many", "thing"]) X G a_ispart l_ispart c_ispart k_ispart fun _ _ _ _ _ _ us hl => match us, hl with | [_, _], _ => rfl
  have D_hassons := def_mk (st := s_hassons) (ps := ["parts", "house"]) X G a_hassons l_hassons c_hassons k_hassons fun _ _ _ _ _ _ us hl => match us, hl with | [_, _], _ => rfl
  have D_lhandI := def_mk (st := s_lhandI) (ps := ["_law_script"]) X G a_lhandI l_lhandI c_lhandI k_lhandI fun _ _ _ _ _ _ us hl => match us, hl with | [_], _ => rfl
  have D_take16 := def_mk (st := s_take16) (ps := ["_law_hand_here", "_law_many_here"]) X G a_take16 l_take16 c_take16 k_take16 fun _ _ _ _ _ _ us hl => match us, hl with | [_, _], _ => rfl
  have D_lis := def_mk (st := s_lis) (ps := ["_law_told", "_law_due"]) X G a_lis l_lis c_lis k_lis fun _ _ _ _ _ _ us hl => match us, hl with | [_, _], _ => rfl
  have D_ldeep := def_mk (st := s_ldeep) (ps := ["_law_hand_here"]) X G a_ldeep l_ldeep c_ldeep k_ldeep fun _ _ _ _ _ _ us hl => match us, hl with | [_], _ => rfl
  have D_lnumber := def_mk (st := s_lnumber) (ps := ["_law_thing", "_law_least", "_law_most"]) X G a_lnumber l_lnumber c_lnumber k_lnumber fun _ _ _ _ _ _ us hl => match us, hl with | [_, _, _], _ => rfl
  have D_lisint := def_mk (st := s_lisint) (ps := ["_law_thing"]) X G a_lisint l_lisint c_lisint k_lisint fun _ _ _ _ _ _ us hl => match us, hl with | [_], _ => rfl
  have D_lvalue := def_mk (st := s_lvalue) (ps := ["_law_hand_here"]) X G a_lvalue l_lvalue c_lvalue k_lvalue fun _ _ _ _ _ _ us hl => match us, hl with | [_], _ => rfl
  have D_lmany := def_mk (st := s_lmany) (ps := ["_law_hand_here", "_law_most"]) X G a_lmany l_lmany c_lmany k_lmany fun _ _ _ _ _ _ us hl => match us, hl with | [_, _], _ => rfl
  have D_lshuf := def_mk (st := s_lshuf) (ps := ["_law_hand_here", "_law_many_here"]) X G a_lshuf l_lshuf c_lshuf k_lshuf fun _ _ _ _ _ _ us hl => match us, hl with | [_, _], _ => rfl
  have D_lhouse := def_mk (st := s_lhouse) (ps := ["_law_up", "_law_value_here"]) X G a_lhouse l_lhouse c_lhouse k_lhouse fun _ _ _ _ _ _ us hl => match us, hl with | [_, _], _ => rfl
  have D_lshape := def_mk (st := s_lshape) (ps := ["_law_hand_here", "_law_many_here"]) X G a_lshape l_lshape c_lshape k_lshape fun _ _ _ _ _ _ us hl => match us, hl with | [_, _], _ => rfl
  have D_lisshape := def_mk (st := s_lisshape) (ps := ["_law_thing"]) X G a_lisshape l_lisshape c_lisshape k_lisshape fun _ _ _ _ _ _ us hl => match us, hl with | [_], _ => rfl
  have D_lbent7 := def_mk (st := s_lbent7) (ps := ["_law_hand_here", "_law_shape_here"]) X G a_lbent7 l_lbent7 c_lbent7 k_lbent7 fun _ _ _ _ _ _ us hl => match us, hl with | [_, _], _ => rfl
  have T : Txt K mg := txt_mk X G n_len n_isinstance n_int n_bool n_tuple n_list n_range n_all n_min n_zip g_MOST_HOUSES
  have FC : Env K [] := ⟨Owns.nil⟩
  have e := hfa.symm.trans (PySem.W.mg_of X G a_law)
  cases e
  refine ⟨PySem.W.fnOf "law" "law" (defArgs s_law) (defBody s_law) (defScope s_law) .none kV_law dc_law pm_law an_law cd_law ct_law, fun s v => .of_eq rfl, fun base _ _ => ?_⟩
  exact ok_all (P := P) (w := w) (base := base) T FC  (fun_mk (st := s_law) l_law c_law k_law) D_isint D_between D_ishouse D_ismany D_come D_isshape D_ispart D_hassons D_lhandI D_take16 D_lis D_ldeep D_lnumber D_lisint D_lvalue D_lmany D_lshuf D_lhouse D_lshape D_lisshape D_lbent7
end W2
open PySem PySem.W PyProof.Rows in
set_option maxRecDepth 100000 in
set_option maxHeartbeats 0 in
theorem PySem.Challenge.cw_cutlinked_k07_whole_shapes_judged_holds : PySem.Challenge.rw_cutlinked_k07_whole_shapes_judged.Holds := by
  w_on; o_law; k_head; (case hw => w_witness2)
  k_fill
  refine W2.walk (l := PySem.Challenge.rw_cutlinked_k07_whole_shapes_judged) rfl rfl (fun w h Y => PySem.W.kIn_of Y) ?F
  case F =>
    intro w mg fa h KX G hmg
    refine' W2.all_mk KX G hmg ?a_isint ?l_isint ?c_isint ?k_isint ?a_between ?l_between ?c_between ?k_between ?a_ishouse ?l_ishouse ?c_ishouse ?k_ishouse ?a_ismany ?l_ismany ?c_ismany ?k_ismany ?a_come ?l_come ?c_come ?k_come ?a_isshape ?l_isshape ?c_isshape ?k_isshape ?a_ispart ?l_ispart ?c_ispart ?k_ispart ?a_hassons ?l_hassons ?c_hassons ?k_hassons ?a_lhandI ?l_lhandI ?c_lhandI ?k_lhandI ?a_take16 ?l_take16 ?c_take16 ?k_take16 ?a_lis ?l_lis ?c_lis ?k_lis ?a_ldeep ?l_ldeep ?c_ldeep ?k_ldeep ?a_lnumber ?l_lnumber ?c_lnumber ?k_lnumber ?a_lisint ?l_lisint ?c_lisint ?k_lisint ?a_lvalue ?l_lvalue ?c_lvalue ?k_lvalue ?a_lmany ?l_lmany ?c_lmany ?k_lmany ?a_lshuf ?l_lshuf ?c_lshuf ?k_lshuf ?a_lhouse ?l_lhouse ?c_lhouse ?k_lhouse ?a_lshape ?l_lshape ?c_lshape ?k_lshape ?a_lisshape ?l_lisshape ?c_lisshape ?k_lisshape ?a_lbent7 ?l_lbent7 ?c_lbent7 ?k_lbent7 ?a_law ?l_law ?c_law ?k_law ?n_len ?n_isinstance ?n_int ?n_bool ?n_tuple ?n_list ?n_range ?n_all ?n_min ?n_zip ?g_MOST_HOUSES
    (case a_isint => k_is)
    (case l_isint => k_is)
    (case c_isint => k_is)
    (case k_isint => k_is)
    (case a_between => k_is)
    (case l_between => k_is)
    (case c_between => k_is)
    (case k_between => k_is)
    (case a_ishouse => k_is)
    (case l_ishouse => k_is)
    (case c_ishouse => k_is)
    (case k_ishouse => k_is)
    (case a_ismany => k_is)
    (case l_ismany => k_is)
    (case c_ismany => k_is)
    (case k_ismany => k_is)
    (case a_come => k_is)
    (case l_come => k_is)
    (case c_come => k_is)
    (case k_come => k_is)
    (case a_isshape => k_is)
    (case l_isshape => k_is)
    (case c_isshape => k_is)
    (case k_isshape => k_is)
    (case a_ispart => k_is)
    (case l_ispart => k_is)
    (case c_ispart => k_is)
    (case k_ispart => k_is)
    (case a_hassons => k_is)
    (case l_hassons => k_is)
    (case c_hassons => k_is)
    (case k_hassons => k_is)
    (case a_lhandI => k_is)
    (case l_lhandI => k_is)
    (case c_lhandI => k_is)
    (case k_lhandI => k_is)
    (case a_take16 => k_is)
    (case l_take16 => k_is)
    (case c_take16 => k_is)
    (case k_take16 => k_is)
    (case a_lis => k_is)
    (case l_lis => k_is)
    (case c_lis => k_is)
    (case k_lis => k_is)
    (case a_ldeep => k_is)
    (case l_ldeep => k_is)
    (case c_ldeep => k_is)
    (case k_ldeep => k_is)
    (case a_lnumber => k_is)
    (case l_lnumber => k_is)
    (case c_lnumber => k_is)
    (case k_lnumber => k_is)
    (case a_lisint => k_is)
    (case l_lisint => k_is)
    (case c_lisint => k_is)
    (case k_lisint => k_is)
    (case a_lvalue => k_is)
    (case l_lvalue => k_is)
    (case c_lvalue => k_is)
    (case k_lvalue => k_is)
    (case a_lmany => k_is)
    (case l_lmany => k_is)
    (case c_lmany => k_is)
    (case k_lmany => k_is)
    (case a_lshuf => k_is)
    (case l_lshuf => k_is)
    (case c_lshuf => k_is)
    (case k_lshuf => k_is)
    (case a_lhouse => k_is)
    (case l_lhouse => k_is)
    (case c_lhouse => k_is)
    (case k_lhouse => k_is)
    (case a_lshape => k_is)
    (case l_lshape => k_is)
    (case c_lshape => k_is)
    (case k_lshape => k_is)
    (case a_lisshape => k_is)
    (case l_lisshape => k_is)
    (case c_lisshape => k_is)
    (case k_lisshape => k_is)
    (case a_lbent7 => k_is)
    (case l_lbent7 => k_is)
    (case c_lbent7 => k_is)
    (case k_lbent7 => k_is)
    (case a_law => k_is)
    (case l_law => k_is)
    (case c_law => k_is)
    (case k_law => k_is)
    (case n_len => k_is)
    (case n_isinstance => k_is)
    (case n_int => k_is)
    (case n_bool => k_is)
    (case n_tuple => k_is)
    (case n_list => k_is)
    (case n_range => k_is)
    (case n_all => k_is)
    (case n_min => k_is)
    (case n_zip => k_is)
    (case g_MOST_HOUSES => k_is)
