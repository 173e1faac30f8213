import PyProof.Rows.All
import Wide.All
import OpenK.AllK
import Wide.FinOn
import HandS.ForMost
import HandS.IsInst
import HandS.Conv
import HandS.Zip
import HandS.Style
import HandS.Wide
import HandS.Codes
import HandS.TupAny
import HandS.TupMul
import HandS.SlotsOwn
import HandS.ForExc
import PyProof.EqLayable
import HandS.Walk
import HandS.TryOnly
import KE.GoesMore
import PySem.Challenge.RW_cutlinked_k03_whole_deeds_on_plain_fores
set_option Elab.async false
set_option linter.all false
set_option maxRecDepth 100000
set_option maxHeartbeats 4000000
namespace W2
open PySem PySem.Spec PyProof.Rows L2
/-! ### x is True, x is False, whatever x is -/
def rIsBo : R2 := fun x y H Q => ∃ b : Bool, y = .bl b ∧ Q (.bl (decide (x = .bl b))) H
theorem op_isB {X : Cx} : OpR X (compareOp .Is) rIsBo := by
  intro pins s σ H x y v u Q I rx ry h
  obtain ⟨b, rfl, q⟩ := h
  cases (show u = Value.bool b from ry)
  by_cases e : x = .bl b
  · subst e
    cases (show v = Value.bool b from rx)
    exact wpAny_is_self rfl ⟨.bl true, H, I, rfl, by simpa using q⟩
  · have nv : v ≠ Value.bool b := fun z => e (rx.inj (show RelV (.bl b) v from z))
    have q' : Q (.bl false) H := by rw [decide_eq_false e] at q; exact q
    cases x with
    | non => cases (show v = Value.none from rx); exact wpAny_is_other rfl (fun z => nomatch z) ⟨.bl false, H, I, rfl, q'⟩
    | bl a => cases (show v = Value.bool a from rx); exact wpAny_is_other rfl nv ⟨.bl false, H, I, rfl, q'⟩
    | int i => obtain ⟨t, rfl⟩ := rx; exact wpAny_is_other rfl nv ⟨.bl false, H, I, rfl, q'⟩
    | str i => obtain ⟨t, rfl⟩ := rx; exact wpAny_is_other rfl nv ⟨.bl false, H, I, rfl, q'⟩
    | byt i => obtain ⟨t, rfl⟩ := rx; exact wpAny_is_other rfl nv ⟨.bl false, H, I, rfl, q'⟩
    | flt i => obtain ⟨t, rfl⟩ := rx; exact wpAny_is_other rfl nv ⟨.bl false, H, I, rfl, q'⟩
    | ref a => cases (show v = Value.ref a from rx); exact wpAny_is_other rfl nv ⟨.bl false, H, I, rfl, q'⟩
    | ty n => cases (show v = Value.type n from rx); exact wpAny_is_other rfl nv ⟨.bl false, H, I, rfl, q'⟩
/-! ### a def to be called -/
structure Cal (P : Program) (w : World) (K : PySem.W.Frag) (mg : Str → Option Value) (base : Heap) (k : Nat) (x : Str) (ps : List Str) (sp : Sp) : Prop where
  ex : ∃ f fd, FnOk P w K mg base CX0 k f fd ps sp ∧ mg x = some (.ref f) ∧ PySem.W.keepIn K (.ref f) = true ∧ Binds K fd ps []
/-- a def as the top has left it -/
structure Def (K : PySem.W.Frag) (mg : Str → Option Value) (x : Str) (st : Stmt) (ps : List Str) : Prop where
  ex : ∃ f fd, Fun K x x st f fd ∧ mg x = some (.ref f) ∧ Binds K fd ps []
section
variable {X : Cx} {k j : Nat} {x : Str} {ps : List Str} {sp : Sp} {e : Expr} {es : List Expr} {t : TA} {p pos : Pos}
theorem pcal (C : Cal X.prog X.w X.K X.mg X.base k x ps sp) (hr : Room j X.A) (hk : k ≤ j) (hg : Gl X x) (ha : PA X (e :: es) t) (hdb : (x == ("__debug__" : Str)) = false := by decide) (he : starEach (e :: es) X.env = (false, eval e X.env) :: starEach es X.env := by rfl) (hpl : (backTo pos (starEach es X.env)).any (·.1) = false := by rfl) :
    PE X (.Call (.Name x p) (e :: es) [] pos) (tCall sp [] E0 t) := by
  obtain ⟨f, fd, F, hm, kp, b⟩ := C.ex
  exact pe_call F (hr.mono hk) hg hm kp b .nil pass0 ha hdb he hpl
end
theorem Def.cal {P : Program} {w : World} {K : PySem.W.Frag} {mg : Str → Option Value} {base : Heap} {k : Nat} {x : Str} {st : Stmt} {N ps : List Str} {sp : Sp} (D : Def K mg x st ps) (S : FnScope N ps (defScope st)) (len : ∀ vs H Q E, sp vs H Q E → vs.length = ps.length)
    (hbody : ∀ (f : Addr) (cdv : Value) (A : Around) (outer : List Env) (s : Shared) (H : Hp) (vs : List V) (Q : VK) (E : XK), Room k (A.deeper (envOfC x (defScope st) s.heap.objs.size f cdv)) → sp vs H Q E →
      ∃ t, PSs (cxOf CX0 P w K mg base N x (defScope st) f cdv A outer s H E).nox (defBody st) t ∧ t { nx := fun _ H' => Q .non H', rt := Q } (start N vs) H) : Cal P w K mg base (k + 1) x ps sp := by
  obtain ⟨f, fd, F, hm, b⟩ := D.ex
  exact ⟨f, fd, F.ok S len (hbody f), hm, F.kp, b⟩
/-! ### rules whose reading names K itself (within a comprehension's block) -/
section
variable {X : Cx} {K : PySem.W.Frag}
theorem call_lenK (h : X.K = K) : CallR X (.builtin "len") (fun xs H Q => ∃ p ys, xs = [.ref p] ∧ (SqL K H p ys ∨ SqT K H p ys) ∧ Q (.int ys.length) H) := h ▸ call_len_seq
theorem call_isiK1 (h : X.K = K) : CallR X (.builtin "isinstance") (rIsi K) := h ▸ call_isi
theorem op_inK (h : X.K = K) : OpR X (compareOp .In) (rIn K false) := h ▸ op_in_seq
theorem ix_listK (h : X.K = K) : IxR X (rIxL K) := h ▸ ix_list
theorem ix_tupK (h : X.K = K) : IxR X (rIxT K) := h ▸ ix_tup
end
/-! ### heaps -/
/-- all but h stays -/
def Bt (h : Addr) (H H' : Hp) : Prop := ∀ b o, b ≠ h → H b = some o → H' b = some o
theorem Bt.refl (h : Addr) (H : Hp) : Bt h H H := fun _ _ _ e => e
theorem Bt.trans {h : Addr} {H H1 H2 : Hp} (a : Bt h H H1) (b : Bt h H1 H2) : Bt h H H2 := fun c o n e => b c o n (a c o n e)
theorem Bt.of {h : Addr} {H H' : Hp} (a : Same H H') : Bt h H H' := fun c o _ e => a c o e
theorem Bt.upd {h : Addr} {H H' : Hp} {o : HO} (a : Bt h H H') : Bt h H (upd H' h o) := fun c u n e => by rw [upd_ne n]; exact a c u n e
theorem same_upd {H : Hp} {p : Addr} {o : HO} (h : H p = none) : Same H (upd H p o) := fun b x e => by rw [upd_ne (ne_of_none e h)]; exact e
theorem Same.upd {H H' : Hp} {p : Addr} {o : HO} (a : Same H H') (h : H p = none) : Same H (upd H' p o) := fun b x e => by rw [upd_ne (ne_of_none e h)]; exact a b x e
theorem Same.new {H H' : Hp} {p : Addr} {o : HO} (a : Same H H') (h : H' p = none) : Same H (L2.upd H' p o) := a.trans (same_upd h)
theorem Bt.new {h : Addr} {H H' : Hp} {p : Addr} {o : HO} (a : Bt h H H') (hp : H' p = none) : Bt h H (L2.upd H' p o) := a.trans (Bt.of (same_upd hp))
theorem Bt.free {h p : Addr} {H H' : Hp} (a : Bt h H H') (n : p ≠ h) (hp : H' p = none) : H p = none := by
  cases e : H p with
  | none => rfl
  | some o => rw [a p o n e] at hp; cases hp
def Ret (v : V) (H : Hp) (Q : VK) : Prop := ∀ H', Same H H' → Q v H'
def RetL (xs : List V) (H : Hp) (Q : VK) : Prop := ∀ (H' : Hp) (p : Addr), Same H H' → H p = none → H' p = some (.lst xs) → Q (.ref p) H'
def RetT (xs : List V) (H : Hp) (Q : VK) : Prop := ∀ (H' : Hp) (p : Addr), Same H H' → H p = none → H' p = some (.tup xs) → Q (.ref p) H'
theorem small {n : Nat} (h : n ≤ 100000) : n ≤ sizeLine := Nat.le_trans h (by decide)
theorem smalls {n : Nat} (h : n < 100000) : n < sizeLine := Nat.lt_of_lt_of_le h (by decide)
end W2
namespace W2
open PySem PySem.Spec PyProof.Rows L2
theorem M31 : (0 : Int) < 2147483647 := by decide
theorem M30 : (0 : Int) < 2147483399 := by decide
theorem iteB {c : Bool} {A B : Prop} (h1 : c = true → A) (h2 : c = false → B) : if c = true then A else B := by
  cases c with
  | true => exact h1 rfl
  | false => exact h2 rfl
theorem atI_last {α : Type} {xs : List α} {v : α} (h : xs.getLast? = some v) : atI xs (-1) = some v := by
  rw [List.getLast?_eq_getElem?] at h
  have hn := (List.getElem?_eq_some_iff.mp h).1
  unfold atI ixN
  rw [if_neg (by decide), if_pos (by omega)]
  show xs[((-1 : Int) + (xs.length : Int)).toNat]? = some v
  rw [show ((-1 : Int) + (xs.length : Int)).toNat = xs.length - 1 by omega]
  exact h
theorem cut_to (xs : List V) (k : Nat) (h : k ≤ xs.length) : cutV xs none (some (k : Int)) = xs.take k := by
  unfold cutV
  rw [HT.sIx_none, show HT.sIx xs.length xs.length (some (k : Int)) = min k xs.length from HT.sIx_nat xs.length xs.length k, Nat.min_eq_left h]
  rfl
/-- a list whose items are ints: kinds -/
theorem isi_int {K : PySem.W.Frag} {H : Hp} {i : Int} : TyX K H (.int i) (.type "int") := .base (.int i)
end W2
namespace W2
open PySem PySem.Spec PyProof.Rows L2
theorem ixN_nat {n y : Nat} (h : y < n) : ixN n (y : Int) = some y := by
  unfold ixN
  rw [if_pos (by omega), if_pos (by omega), Int.toNat_natCast]
end W2
namespace W2
inductive Ch (ps : List (Option Nat)) : Nat → List Nat → Prop
  | root {h : Nat} : ps[h]? = some none → Ch ps h [h]
  | step {h p : Nat} {l : List Nat} : ps[h]? = some (some p) → Ch ps p l → Ch ps h (h :: l)
theorem Ch.head {ps : List (Option Nat)} {h : Nat} {l : List Nat} (c : Ch ps h l) : ∃ r, l = h :: r := by
  cases c with
  | root _ => exact ⟨[], rfl⟩
  | step _ _ => exact ⟨_, rfl⟩
theorem Ch.det {ps : List (Option Nat)} {h : Nat} {l : List Nat} (c : Ch ps h l) : ∀ {m : List Nat}, Ch ps h m → l = m := by
  induction c with
  | root e =>
    intro m d
    cases d with
    | root _ => rfl
    | step e2 _ => rw [e] at e2; cases e2
  | step e c ih =>
    intro m d
    cases d with
    | root e2 => rw [e] at e2; cases e2
    | step e2 d2 =>
      rw [e] at e2
      cases e2
      rw [ih d2]
theorem Ch.tail {ps : List (Option Nat)} : ∀ {pre : List Nat} {h x : Nat} {post : List Nat}, Ch ps h (pre ++ x :: post) → Ch ps x (x :: post)
  | [], h, x, post, c => by
    obtain ⟨r, e⟩ := c.head
    have e1 : x = h := by simpa using (List.cons.inj e).1
    subst e1
    exact c
  | a :: pre, h, x, post, c => by
    have go : ∀ m, Ch ps h m → m = a :: (pre ++ x :: post) → Ch ps x (x :: post) := by
      intro m d e
      cases d with
      | root _ =>
        have := (List.cons.inj e).2
        cases pre <;> simp at this
      | step _ d2 =>
        have e2 := (List.cons.inj e).2
        subst e2
        exact Ch.tail d2
    exact go _ c rfl
theorem Ch.lt {ps : List (Option Nat)} {h : Nat} {l : List Nat} (c : Ch ps h l) : ∀ x ∈ l, x < ps.length := by
  induction c with
  | @root h e =>
    intro x hx
    have q : x = h := by simpa using hx
    subst q
    exact (List.getElem?_eq_some_iff.mp e).1
  | step e c ih =>
    intro x hx
    rcases List.mem_cons.mp hx with rfl | hx
    · exact (List.getElem?_eq_some_iff.mp e).1
    · exact ih x hx
theorem Ch.nodup {ps : List (Option Nat)} {h : Nat} {l : List Nat} (c : Ch ps h l) : l.Nodup := by
  induction c with
  | root e => simp
  | @step h p l e c ih =>
    refine List.nodup_cons.mpr ⟨fun hm => ?_, ih⟩
    obtain ⟨pre, post, e2⟩ := List.append_of_mem hm
    subst e2
    have d := Ch.tail c
    have d2 : Ch ps h (h :: (pre ++ h :: post)) := .step e c
    have q := congrArg List.length (d.det d2)
    simp at q
    omega
theorem Ch.last {ps : List (Option Nat)} {h : Nat} {l : List Nat} (c : Ch ps h l) : ∃ r, l.getLast? = some r ∧ ps[r]? = some none := by
  induction c with
  | root e => exact ⟨_, rfl, e⟩
  | @step h p l e c ih =>
    obtain ⟨r, e1, e2⟩ := ih
    refine ⟨r, ?_, e2⟩
    obtain ⟨z, rfl⟩ := c.head
    rw [List.getLast?_cons_cons]
    exact e1
/-- at place i of the way up: the parent -/
theorem Ch.next {ps : List (Option Nat)} {h : Nat} {l : List Nat} (c : Ch ps h l) {i : Nat} {x : Nat} (hx : l[i]? = some x) : (ps[x]? = some none ∧ i + 1 = l.length) ∨ (∃ y, ps[x]? = some (some y) ∧ l[i + 1]? = some y) := by
  have hi := (List.getElem?_eq_some_iff.mp hx).1
  have hs : l = l.take i ++ x :: l.drop (i + 1) := by
    have e : l.drop i = x :: l.drop (i + 1) := by
      rw [List.drop_eq_getElem_cons hi]
      congr 1
      exact (List.getElem?_eq_some_iff.mp hx).2
    rw [← e, List.take_append_drop]
  rw [hs] at c
  have d := Ch.tail c
  generalize hq : l.drop (i + 1) = q at d
  cases d with
  | root e =>
    have := congrArg List.length hq
    simp at this
    exact .inl ⟨e, by omega⟩
  | @step _ y _ e d2 =>
    obtain ⟨r, rfl⟩ := d2.head
    refine .inr ⟨y, e, ?_⟩
    have := congrArg (fun z => z[0]?) hq
    simpa [List.getElem?_drop] using this
theorem Ch.par_lt {ps : List (Option Nat)} {h p : Nat} {l : List Nat} (c : Ch ps h l) (e : ps[h]? = some (some p)) : p < ps.length := by
  cases c with
  | root e2 => rw [e] at e2; cases e2
  | step e2 c2 =>
    rw [e] at e2
    cases e2
    obtain ⟨r, e3⟩ := c2.head
    exact c2.lt _ (by rw [e3]; simp)
open Classical in
noncomputable def up (ps : List (Option Nat)) (h : Nat) : List Nat := if e : ∃ l, Ch ps h l then e.choose else []
theorem up_of {ps : List (Option Nat)} {h : Nat} {l : List Nat} (c : Ch ps h l) : up ps h = l := by
  unfold up
  rw [dif_pos ⟨l, c⟩]
  exact (Exists.choose_spec (⟨l, c⟩ : ∃ l, Ch ps h l)).det c
/-- a right forest -/
def Tree (ps : List (Option Nat)) : Prop := ∀ h, h < ps.length → Ch ps h (up ps h) ∧ (up ps h).length ≤ ps.length
theorem tree_of {ps : List (Option Nat)} (h : ∀ h, h < ps.length → ∃ l, Ch ps h l ∧ l.length ≤ ps.length) : Tree ps := fun x hx => by
  obtain ⟨l, c, z⟩ := h x hx
  rw [up_of c]
  exact ⟨c, z⟩
/-- by an order: each house's parent stands ahead -/
theorem tree_ord {ps : List (Option Nat)} {o : List Nat} (hl : o.length = ps.length) (sur : ∀ h, h < ps.length → ∃ k : Nat, o[k]? = some h)
    (hp : ∀ (k : Nat) h, o[k]? = some h → ps[h]? = some none ∨ ∃ j p, j < k ∧ o[j]? = some p ∧ ps[h]? = some (some p)) : Tree ps := by
  have go : ∀ (k : Nat), ∀ (m : Nat), m ≤ k → ∀ h, o[m]? = some h → ∃ l, Ch ps h l ∧ l.length ≤ m + 1 := by
    intro k
    induction k with
    | zero =>
      intro m hm h e
      rcases hp m h e with q | ⟨j, p, hj, _, _⟩
      · exact ⟨[h], .root q, by simp⟩
      · omega
    | succ k ih =>
      intro m hm h e
      rcases hp m h e with q | ⟨j, p, hj, ej, q⟩
      · exact ⟨[h], .root q, by simp⟩
      · obtain ⟨l, c, z⟩ := ih j (by omega) p ej
        exact ⟨h :: l, .step q c, by simp; omega⟩
  refine tree_of fun h hh => ?_
  obtain ⟨k, ek⟩ := sur h hh
  obtain ⟨l, c, z⟩ := go k k (Nat.le_refl _) h ek
  have := (List.getElem?_eq_some_iff.mp ek).1
  exact ⟨l, c, by omega⟩
/-! ### the deepest common house -/
def fnd (l m : List Nat) : Option Nat := l.find? fun x => decide (x ∈ m)
theorem find_first {p : Nat → Bool} : ∀ {l : List Nat} {i : Nat} {x : Nat}, l[i]? = some x → p x = true → (∀ (j : Nat) y, j < i → l[j]? = some y → p y = false) → l.find? p = some x
  | [], i, x, h, _, _ => by simp at h
  | a :: l, 0, x, h, hp, _ => by
    have e : a = x := by simpa using h
    subst e
    rw [List.find?_cons, hp]
  | a :: l, i + 1, x, h, hp, hn => by
    have ha : p a = false := hn 0 a (by omega) rfl
    rw [List.find?_cons, ha]
    exact find_first (l := l) (i := i) (by simpa using h) hp fun j y hj e => hn (j + 1) y (by omega) (by simpa using e)
theorem fnd_some {l m : List Nat} {i x : Nat} (h : l[i]? = some x) (hm : x ∈ m) (hn : ∀ (j : Nat) y, j < i → l[j]? = some y → y ∉ m) : fnd l m = some x :=
  find_first h (decide_eq_true hm) fun j y hj e => decide_eq_false (hn j y hj e)
theorem fnd_none {l m : List Nat} (hn : ∀ (j : Nat) y, l[j]? = some y → y ∉ m) : fnd l m = none := by
  unfold fnd
  rw [List.find?_eq_none]
  intro x hx
  obtain ⟨j, hj, e⟩ := List.getElem_of_mem hx
  have := hn j x (List.getElem?_eq_some_iff.mpr ⟨hj, e⟩)
  simpa using this
theorem fnd_split {l m : List Nat} {x : Nat} (h : fnd l m = some x) : x ∈ m ∧ ∃ pre post, l = pre ++ x :: post ∧ ∀ y ∈ pre, y ∉ m := by
  unfold fnd at h
  rw [List.find?_eq_some_iff_append] at h
  obtain ⟨h1, as, bs, e, h2⟩ := h
  exact ⟨by simpa using h1, as, bs, e, fun y hy => by simpa using h2 y hy⟩
theorem fnd_comm {ps : List (Option Nat)} {a b : Nat} {l m : List Nat} (ca : Ch ps a l) (cb : Ch ps b m) : fnd l m = fnd m l := by
  cases e : fnd l m with
  | none =>
    symm
    refine fnd_none fun j y hy hm => ?_
    have ym : y ∈ m := List.mem_of_getElem? hy
    unfold fnd at e
    rw [List.find?_eq_none] at e
    have := e y hm
    simp [ym] at this
  | some x =>
    obtain ⟨xm, pre, post, el, hpre⟩ := fnd_split e
    obtain ⟨pre2, post2, em⟩ := List.append_of_mem xm
    rw [el] at ca
    rw [em] at cb
    have nb := cb.nodup
    have e2 : x :: post = x :: post2 := (Ch.tail ca).det (Ch.tail cb)
    symm
    refine fnd_some (i := pre2.length) (by rw [em]; simp) (by rw [el]; simp) fun j y hj hy yl => ?_
    have yp : y ∈ pre2 := by
      rw [em, List.getElem?_append_left hj] at hy
      exact List.mem_of_getElem? hy
    rw [el] at yl
    rcases List.mem_append.mp yl with h1 | h1
    · exact hpre y h1 (by rw [em]; exact List.mem_append_left _ yp)
    · rw [e2] at h1
      exact (List.nodup_append.mp nb).2.2 y yp y h1 rfl
/-! ### the way -/
def wayOf (l m : List Nat) (x : Nat) : List Nat := l.take (l.idxOf x) ++ [x] ++ (m.take (m.idxOf x)).reverse
theorem take_idx {l : List Nat} {x : Nat} (h : x ∈ l) : l.take (l.idxOf x + 1) = l.take (l.idxOf x) ++ [x] := by
  have hl : l.idxOf x < l.length := List.idxOf_lt_length_of_mem h
  rw [List.take_add_one, List.getElem?_eq_getElem hl, List.getElem_idxOf hl]
  rfl
theorem rev_idx (l : List Nat) : (List.range l.length).map (fun k => l.getD (l.length - 1 - k) 0) = l.reverse := by
  apply List.ext_getElem?
  intro i
  by_cases hi : i < l.length
  · rw [List.getElem?_map, List.getElem?_range hi, List.getElem?_reverse hi]
    simp only [Option.map_some]
    have h2 : l.length - 1 - i < l.length := by omega
    rw [List.getD_eq_getElem?_getD, List.getElem?_eq_getElem h2]
    rfl
  · rw [List.getElem?_eq_none (by simpa using hi), List.getElem?_eq_none (by simpa using hi)]
theorem nodup_len : ∀ {n : Nat} {l : List Nat}, l.Nodup → (∀ x ∈ l, x < n) → l.length ≤ n
  | 0, l, _, h => by
    cases l with
    | nil => exact Nat.le_refl _
    | cons a r => exact absurd (h a (by simp)) (by omega)
  | n + 1, l, nd, h => by
    by_cases hm : n ∈ l
    · have nd2 : (l.erase n).Nodup := nd.erase n
      have h2 : ∀ x ∈ l.erase n, x < n := fun x hx => by
        have h3 := h x (List.mem_of_mem_erase hx)
        have h4 : x ≠ n := fun e => by
          subst e
          exact (List.Nodup.mem_erase_iff nd).mp hx |>.1 rfl
        omega
      have h5 := nodup_len nd2 h2
      rw [List.length_erase_of_mem hm] at h5
      omega
    · have h2 : ∀ x ∈ l, x < n := fun x hx => by
        have h3 := h x hx
        have h4 : x ≠ n := fun e => hm (e ▸ hx)
        omega
      exact Nat.le_succ_of_le (nodup_len nd h2)
theorem Ch.len {ps : List (Option Nat)} {h : Nat} {l : List Nat} (c : Ch ps h l) : l.length ≤ ps.length := nodup_len c.nodup c.lt
/-- each parent is a house -/
def Inr (ps : List (Option Nat)) : Prop := ∀ (k q : Nat), ps[k]? = some (some q) → q < ps.length
theorem Tree.inr {ps : List (Option Nat)} (t : Tree ps) : Inr ps := fun k q e => (t k (List.getElem?_eq_some_iff.mp e).1).1.par_lt e
theorem tree_iff {ps : List (Option Nat)} : Tree ps ↔ ∀ h, h < ps.length → ∃ l, Ch ps h l :=
  ⟨fun t h hh => ⟨_, (t h hh).1⟩, fun t => tree_of fun h hh => let ⟨l, c⟩ := t h hh; ⟨l, c, c.len⟩⟩
theorem no_next {ps : List (Option Nat)} (ir : Inr ps) {h : Nat} (hh : h < ps.length) (n : ¬ ∃ l, Ch ps h l) : ∃ q, ps[h]? = some (some q) ∧ q < ps.length ∧ ¬ ∃ l, Ch ps q l := by
  have e : ps[h]? = some ps[h] := List.getElem?_eq_getElem hh
  cases q : ps[h] with
  | none => rw [q] at e; exact absurd ⟨_, .root e⟩ n
  | some q' =>
    rw [q] at e
    exact ⟨q', e, ir _ _ e, fun ⟨l, c⟩ => n ⟨_, .step e c⟩⟩
end W2
namespace W2
open PySem PySem.Spec PyProof.Rows L2
/-! ### kinds of things -/
structure Own (K : PySem.W.Frag) (C : Addr) : Prop where
  cl : Cls K C
  ha : PySem.W.findIn K (.ref C) "__class__" = some (some (.builtin "object.__class__"))
  hn : PySem.W.specialIn K (.builtin "object.__class__") "__get__" = some (some (.builtin "getset_descriptor.__get__"))
  htk : PySem.W.takesIn K (.builtin "object.__class__") = some true
  hm : PySem.W.mroIn K C (.type "object") = some true
  kI : PySem.W.kitOne K (.ref C) (.type "int") = some false
  kB : PySem.W.kitOne K (.ref C) (.type "bool") = some false
  kT : PySem.W.kitOne K (.ref C) (.type "tuple") = some false
  kL : PySem.W.kitOne K (.ref C) (.type "list") = some false
  kS : PySem.W.kitOne K (.ref C) (.type "str") = some false
  kC : PySem.W.kitOne K (.ref C) (.ref C) = some true
  tC : PySem.W.kitOne K (.type "tuple") (.ref C) = some false
  nC : PySem.W.notFirst K C (.ref C) = true
  nT : PySem.W.notFirst K C (.type "tuple") = true
/-- a thing of a known kind; a list is not the hand at h -/
inductive Any (C h : Addr) (H : Hp) : V → Prop
  | non : Any C h H .non
  | bl (b : Bool) : Any C h H (.bl b)
  | int (i : Int) : Any C h H (.int i)
  | str (s : Str) : Any C h H (.str s)
  | lst {a : Addr} {xs : List V} (n : a ≠ h) (e : H a = some (.lst xs)) : Any C h H (.ref a)
  | tup {a : Addr} {xs : List V} (e : H a = some (.tup xs)) : Any C h H (.ref a)
  | dic {a : Addr} {kvs : List (Key × V)} (n : a ≠ h) (e : H a = some (.dK kvs)) : Any C h H (.ref a)
  | ins {a dx : Addr} {fs : List (Str × V)} (n : a ≠ h) (e : H a = some (.ins C dx fs)) : Any C h H (.ref a)
theorem Any.bt {C h : Addr} {H H' : Hp} {x : V} {l : List V} (a : Any C h H x) (hh : H h = some (.lst l)) (s : Bt h H H') : Any C h H' x := by
  cases a with
  | non => exact .non
  | bl b => exact .bl b
  | int i => exact .int i
  | str i => exact .str i
  | lst n e => exact .lst n (s _ _ n e)
  | tup e => exact .tup (s _ _ (ne_of e hh (fun z => nomatch z)) e)
  | dic n e => exact .dic n (s _ _ n e)
  | ins n e => exact .ins n (s _ _ n e)
theorem Any.same {C h : Addr} {H H' : Hp} {x : V} (a : Any C h H x) (s : Same H H') : Any C h H' x := by
  cases a with
  | non => exact .non
  | bl b => exact .bl b
  | int i => exact .int i
  | str i => exact .str i
  | lst n e => exact .lst n (s _ _ e)
  | tup e => exact .tup (s _ _ e)
  | dic n e => exact .dic n (s _ _ e)
  | ins n e => exact .ins n (s _ _ e)
/-- and its items too, if it is a tuple -/
structure Thing (C h : Addr) (H : Hp) (x : V) : Prop where
  any : Any C h H x
  items : ∀ a xs, x = .ref a → H a = some (.tup xs) → ∀ y ∈ xs, Any C h H y
theorem Any.tup_back {C h : Addr} {H H' : Hp} {a : Addr} {xs : List V} (x : Any C h H (.ref a)) (k : ∀ b o, b ≠ h → H b = some o → H' b = some o) (k2 : ∀ ys, H a = some (.tup ys) → H' a = some (.tup ys)) (e : H' a = some (.tup xs)) : H a = some (.tup xs) := by
  cases x with
  | lst n e2 => rw [k _ _ n e2] at e; cases e
  | tup e2 => rw [k2 _ e2] at e; rw [e2, e]
  | dic n e2 => rw [k _ _ n e2] at e; cases e
  | ins n e2 => rw [k _ _ n e2] at e; cases e
theorem Thing.bt {C h : Addr} {H H' : Hp} {x : V} {l : List V} (t : Thing C h H x) (hh : H h = some (.lst l)) (s : Bt h H H') : Thing C h H' x := by
  refine ⟨t.any.bt hh s, fun a xs e hx y hy => ?_⟩
  subst e
  exact (t.items a xs rfl (t.any.tup_back s (fun ys e2 => s _ _ (ne_of e2 hh (fun z => nomatch z)) e2) hx) y hy).bt hh s
theorem Thing.same {C h : Addr} {H H' : Hp} {x : V} (t : Thing C h H x) (s : Same H H') : Thing C h H' x := by
  refine ⟨t.any.same s, fun a xs e hx y hy => ?_⟩
  subst e
  exact (t.items a xs rfl (t.any.tup_back (fun b o _ e => s b o e) (fun ys e2 => s _ _ e2) hx) y hy).same s
theorem Thing.flat {C h : Addr} {H : Hp} {x : V} (a : Any C h H x) (n : ∀ b, x ≠ .ref b) : Thing C h H x := ⟨a, fun b _ e => (n b e).elim⟩
theorem Thing.tup {C h : Addr} {H : Hp} {a : Addr} {xs : List V} (e : H a = some (.tup xs)) (k : ∀ y ∈ xs, Any C h H y) : Thing C h H (.ref a) := ⟨.tup e, fun b ys q hy => by
  cases q
  rw [e] at hy
  cases hy
  exact k⟩
theorem Thing.lst {C h : Addr} {H : Hp} {a : Addr} {xs : List V} (n : a ≠ h) (e : H a = some (.lst xs)) : Thing C h H (.ref a) := ⟨.lst n e, fun b ys q hy => by
  cases q
  rw [e] at hy
  cases hy⟩
theorem Thing.dic {C h : Addr} {H : Hp} {a : Addr} {kvs : List (Key × V)} (n : a ≠ h) (e : H a = some (.dK kvs)) : Thing C h H (.ref a) := ⟨.dic n e, fun b ys q hy => by
  cases q
  rw [e] at hy
  cases hy⟩
theorem Thing.ins {C h : Addr} {H : Hp} {a dx : Addr} {fs : List (Str × V)} (n : a ≠ h) (e : H a = some (.ins C dx fs)) : Thing C h H (.ref a) := ⟨.ins n e, fun b ys q hy => by
  cases q
  rw [e] at hy
  cases hy⟩
def isI : V → Bool
  | .int _ => true
  | _ => false
def isB : V → Bool
  | .bl _ => true
  | _ => false
theorem isI_of {x : V} (h : isI x = true) : ∃ i, x = .int i := by
  cases x <;> first | exact ⟨_, rfl⟩ | cases h
/-- isinstance of such a thing: int, bool, tuple, str -/
theorem any_kit {K : PySem.W.Frag} {C h : Addr} {H : Hp} {x : V} (O : Own K C) (a : Any C h H x) : ∃ t, TyX K H x t ∧ PySem.W.kitOne K t (.type "int") = some (isI x || isB x) ∧ PySem.W.kitOne K t (.type "bool") = some (isB x) := by
  cases a with
  | non => exact ⟨_, .base .non, kit_ty (by decide +kernel), kit_ty (by decide +kernel)⟩
  | bl b => exact ⟨_, .base (.bl b), kit_ty (r := true) (by decide +kernel), kit_ty (r := true) (by decide +kernel)⟩
  | int i => exact ⟨_, .base (.int i), kit_ty (r := true) (by decide +kernel), kit_ty (r := false) (by decide +kernel)⟩
  | str i => exact ⟨_, .base (.str i), kit_ty (r := false) (by decide +kernel), kit_ty (r := false) (by decide +kernel)⟩
  | lst n e => exact ⟨_, .base (.lst e), kit_ty (r := false) (by decide +kernel), kit_ty (r := false) (by decide +kernel)⟩
  | tup e => exact ⟨_, .base (.tup e), kit_ty (r := false) (by decide +kernel), kit_ty (r := false) (by decide +kernel)⟩
  | dic n e => exact ⟨_, .base (.dK e), kit_ty (r := false) (by decide +kernel), kit_ty (r := false) (by decide +kernel)⟩
  | ins n e => exact ⟨_, .base (.ins e O.cl O.ha O.hn O.htk O.hm), O.kI, O.kB⟩
theorem any_tup {K : PySem.W.Frag} {C h : Addr} {H : Hp} {x : V} (O : Own K C) (a : Any C h H x) : ∃ (t : Value) (b : Bool), TyX K H x t ∧ PySem.W.kitOne K t (.type "tuple") = some b ∧ (b = true → ∃ p xs, x = .ref p ∧ H p = some (.tup xs)) ∧ (b = false → ∀ p xs, x = .ref p → H p ≠ some (.tup xs)) := by
  cases a with
  | non => exact ⟨_, false, .base .non, kit_ty (by decide +kernel), (fun z => nomatch z), fun _ p xs z => nomatch z⟩
  | bl b => exact ⟨_, false, .base (.bl b), kit_ty (by decide +kernel), (fun z => nomatch z), fun _ p xs z => nomatch z⟩
  | int i => exact ⟨_, false, .base (.int i), kit_ty (by decide +kernel), (fun z => nomatch z), fun _ p xs z => nomatch z⟩
  | str i => exact ⟨_, false, .base (.str i), kit_ty (by decide +kernel), (fun z => nomatch z), fun _ p xs z => nomatch z⟩
  | lst n e => exact ⟨_, false, .base (.lst e), kit_ty (by decide +kernel), (fun z => nomatch z), fun _ p xs z q => by cases z; rw [e] at q; cases q⟩
  | tup e => exact ⟨_, true, .base (.tup e), kit_ty (by decide +kernel), (fun _ => ⟨_, _, rfl, e⟩), fun z => nomatch z⟩
  | dic n e => exact ⟨_, false, .base (.dK e), kit_ty (by decide +kernel), (fun z => nomatch z), fun _ p xs z q => by cases z; rw [e] at q; cases q⟩
  | ins n e => exact ⟨_, false, .base (.ins e O.cl O.ha O.hn O.htk O.hm), O.kT, (fun z => nomatch z), fun _ p xs z q => by cases z; rw [e] at q; cases q⟩
/-! ### == by an own __eq__ -/
def rEqI (K : PySem.W.Frag) (C : Addr) (sp : Sp) : R2 := fun x y H Q => ∃ a dx fs t, x = .ref a ∧ H a = some (.ins C dx fs) ∧ TyX K H y t ∧ PySem.W.notFirst K C t = true ∧ sp [x, y] H Q E0
theorem op_eqI {X : Cx} {C g : Addr} {n j : Nat} {fd : FuncData} {ps : List Str} {sp : Sp} (hs : PySem.W.findIn X.K (.ref C) "__eq__" = some (some (.ref g))) (hf : PySem.W.isFn X.K (.ref g) = true) (F : FnOk X.prog X.w X.K X.mg X.base CX0 n g fd ps sp) (hb : Binds X.K fd ps [])
    (hr : Room j X.A) (hj : n ≤ j) : OpR X (compareOp .Eq) (rEqI X.K C sp) := by
  intro pins s σ H x y v u Q I rx ry h
  obtain ⟨a, dx, fs, t, rfl, ea, ty, hn, q⟩ := h
  cases (show v = Value.ref a from rx)
  obtain ⟨mA, O, _⟩ := ins_get I.hok ea
  obtain ⟨od, J, _⟩ := O.look
  obtain ⟨P, Z, p, hx⟩ := kit_of I ry ty
  obtain ⟨m, hF⟩ := I.fr
  refine PySem.W.cmp_K (op := .Eq) (tb := t) hr.units0 hF I.ok.mod.kin J (Z.ty _ _ I.kIn p) hn hs hf ?_
  refine wpAny_mono (run_fn (us := [.ref a, u]) (vs := [.ref a, y]) F (hr.mono hj) hb .nil pass0 I (.cons rfl (.cons ry .nil)) q) (fun w s' z => ?_) fun _ _ x => x
  obtain ⟨z', H', I', rz, qz⟩ := z
  exact SlX.cmpback rz ⟨z', H', I', rz, qz⟩
/-! ### a new instance, what is raised wished for at the slots -/
def tMakeS (C : Addr) (sp : Sp) (E : L2.St → XK) (t : TA) : TE := fun σ H Q => t σ H fun vs H1 => ∀ x dx, H1 x = none → H1 dx = none → dx ≠ x → sp (.ref x :: vs) (upd (upd H1 dx (.own x)) x (.ins C dx [])) (fun v H2 => v = .non ∧ Q (.ref x) H2) (E σ)
section
variable {X : Cx} {C f : Addr} {k : Nat} {fd : FuncData} {ps : List Str} {sp : Sp} {CX : CXT} {x : Str} {e : Expr} {es : List Expr} {t : TA} {p pos : Pos} {E : L2.St → XK}
theorem pe_makeS (M : Mk X.K C f) (F : FnOk X.prog X.w X.K X.mg X.base CX k f fd ps sp) (hr : Room (k + 1) X.A) (hg : Gl X x) (hm : X.mg x = some (.ref C)) (hb : Binds X.K fd ps []) (hx : ∀ σ, PassesAt CX X σ (E σ))
    (ha : PA X (e :: es) t) (hdb : (x == ("__debug__" : Str)) = false := by decide) (he : starEach (e :: es) X.env = (false, eval e X.env) :: starEach es X.env := by rfl) (hpl : (backTo pos (starEach es X.env)).any (·.1) = false := by rfl) :
    PE X (.Call (.Name x p) (e :: es) [] pos) (tMakeS C sp E t) := by
  refine ⟨fun pins s σ H Q I h => ?_⟩
  refine wpAny_Call_Name_kw (ld_glob I hg hm ?_ hdb)
  refine PySem.W.callWith_K (h₀ := X.base) I.ok.mod.kin M.kp (thn (ha.run pos pins s σ H _ I h) fun us s1 ⟨vs, H1, I1, r, q⟩ => ⟨I1.kIn, ?_⟩) he hpl
  have hq := q (s1.heap.objs.size + 1) s1.heap.objs.size (I1.hok.fresh (Nat.le_succ _)) (I1.hok.fresh (Nat.le_refl _)) (Nat.ne_of_lt (Nat.lt_succ_self _))
  have I2 := Inv.made (C := C) I1
  have r2 : Vals (V.ref (s1.heap.objs.size + 1) :: vs) (Value.ref (s1.heap.objs.size + 1) :: us) := .cons rfl r
  have hl : (Value.ref (s1.heap.objs.size + 1) :: us ++ []).length = ps.length := by
    have e := r2.length
    rw [F.len _ _ _ _ hq] at e
    rw [List.append_nil]
    exact e.symm
  have b := hb _ (Value.ref (s1.heap.objs.size + 1) :: us) I2.kIn hl
  rw [List.append_nil] at b
  refine wpAny_call (make_map (f := f) I1.kIn M.makes M.init (beq_iff_eq.mp M.fn) (codeAny_mono (F.run _ X.stack _ _ ⟨Value.ref (s1.heap.objs.size + 1) :: us, []⟩ (Value.ref (s1.heap.objs.size + 1) :: us) _ _ (E σ) (hr.make C us [])
    (I2.env0.make C us []) b r2 hq) fun r s' hq' => ?_))
  cases r with
  | error e => exact hx σ pins _ _ e s' I2 hq'
  | ok fl =>
    cases fl with
    | ret u =>
      obtain ⟨v, H', I3, rv, ev, q3⟩ := I2.after hq'
      subst ev
      exact ⟨rv, ⟨V.ref (s1.heap.objs.size + 1), H', I3, rfl, q3⟩⟩
    | next => exact False.elim hq'
    | brk => exact False.elim hq'
    | cont => exact False.elim hq'
end
/-! ### tuples cut and joined -/
theorem catA_of {K : PySem.W.Frag} {a b : Addr} {xs ys : List V} {H : Hp} {Q : VK} (ha : H a = some (.tup xs)) (hb : H b = some (.tup ys)) (hz : xs.length + ys.length ≤ 100000) (k : ∀ r H', Same H H' → H' r = some (.tup (xs ++ ys)) → Q (.ref r) H') : rCatA K (.ref a) (.ref b) H Q := by
  refine ⟨a, b, xs, ys, rfl, rfl, SqT.of ha, SqT.of hb, small hz, fun e => k b H (L2.Same.refl _) ?_, fun _ e => k a H (L2.Same.refl _) ?_, fun _ _ p hp => k p _ (same_upd hp) upd_same⟩
  · rw [e, List.nil_append]
    exact hb
  · rw [e, List.append_nil]
    exact ha
theorem slT_of {K : PySem.W.Frag} {a : Addr} {xs : List V} {lo hi : Option Int} {H : Hp} {Q : VK} (ha : H a = some (.tup xs)) (hn : ¬ (HT.sIx xs.length 0 lo = 0 ∧ HT.sIx xs.length xs.length hi = xs.length)) (k : ∀ p, H p = none → Q (.ref p) (L2.upd H p (.tup (cutV xs lo hi)))) : rSlT K (.ref a) lo hi H Q := ⟨a, xs, rfl, SqT.of ha, hn, k⟩
theorem cut_from (xs : List V) (k : Nat) (h : k ≤ xs.length) : cutV xs (some (k : Int)) none = xs.drop k := by
  unfold cutV
  rw [HT.sIx_none, show HT.sIx xs.length 0 (some (k : Int)) = min k xs.length from HT.sIx_nat xs.length 0 k, Nat.min_eq_left h, ← List.length_drop]
  exact List.take_length
theorem six_to (n k : Nat) (h : k < n) : ¬ (HT.sIx n 0 none = 0 ∧ HT.sIx n n (some (k : Int)) = n) := fun z => by
  have := z.2
  rw [HT.sIx_nat] at this
  omega
theorem six_from (n k : Nat) (h : k < n) : ¬ (HT.sIx n 0 (some ((k + 1 : Nat) : Int)) = 0 ∧ HT.sIx n n none = n) := fun z => by
  have := z.1
  rw [HT.sIx_nat] at this
  omega
end W2
namespace PySem
open Sem (wp)
open AutoSeq1 (wpAny_loadPart')
theorem meets_enumerate_newT (l : Addr) (items : Array Value) (n : Nat) (dct : Option Addr) (sl : Array (Option Value)) :
    Meets (Builtin.«enumerate.__new__» ⟨[.type "enumerate", .ref l], []⟩) (fun _ R s => s.heap.get? l = some { cls := .type "tuple", dict := dct, data := .seq items n, slots := sl } ∧
      R (.ok (.ret (.ref (s.heap.push { cls := .type "tuple_iterator", data := .fields #[.ref l, .int 0 0] }).objs.size)))
        { s with heap := (s.heap.push { cls := .type "tuple_iterator", data := .fields #[.ref l, .int 0 0] }).push { cls := .type "enumerate", data := .fields #[.none, .bool false, .ref s.heap.objs.size, rawInt 0, .none, .none] } }) :=
  .of_wp fun prog w A R s h => by
    obtain ⟨hp, g, d, tk, os⟩ := s; obtain ⟨hl, h⟩ := h
    have hsub := sub_enumerate
    have hL : Heap.IsTuple (Shared.heap ⟨hp, g, d, tk, os⟩) l items := ⟨_, hl, rfl, n, rfl⟩
    wp_walk using wpAny_loadPart' hl
    refine wpAny_stack_any fun st => wpAny_pure ?_
    split
    · rename_i c _ _ _ _ _
      cases (c == Value.type "enumerate")
      · wp_walk using wpAny_loadPart' hl, wpAny_pyIter_tuple hL
        exact ⟨_, rfl, h⟩
      · wp_walk using wpAny_loadPart' hl, wpAny_pyIter_tuple hL
        exact ⟨_, rfl, h⟩
    · wp_walk using wpAny_loadPart' hl, wpAny_pyIter_tuple hL
      exact ⟨_, rfl, h⟩
section
variable {prog : Program} {w : World} {A : Around} {E : Value → Shared → Prop} {s : Shared}
theorem call_enumerate_tup {l : Addr} {items : Array Value} {Q : Value → Shared → Prop} (hL : s.heap.IsTuple l items)
    (h : ∀ h', IsEnum h' (s.heap.objs.size + 1) s.heap.objs.size 0 .none → h'.IsTupleIter s.heap.objs.size l 0 → h'.objs.size = s.heap.objs.size + 2 →
      (∀ b o, s.heap.get? b = some o → h'.get? b = some o) → Q (.ref (s.heap.objs.size + 1)) { s with heap := h' }) :
    wpAny (model prog w) A (call (.type "enumerate") [.ref l]) Q E s := by
  obtain ⟨⟨c, dct, dt, sl⟩, hl, hc, n, hd⟩ := hL
  replace hc : c = .type "tuple" := hc
  replace hd : dt = .seq items n := hd
  subst hc hd
  refine callType_new F.called_enumerate (by decide) (F.typeCall_enumerate_1 _) (F.newCall_enumerate_1 _) (fun obj => F.args_object_init_2 obj _) F.entry_enumerate_new
    (meets_enumerate_newT l items n dct sl) ⟨hl, ?_⟩
  have hz : (s.heap.push { cls := .type "tuple_iterator", data := .fields #[.ref l, .int 0 0] }).objs.size = s.heap.objs.size + 1 := Heap.size_push ..
  show _ ∧ _
  rw [hz]
  have he : IsEnum ((s.heap.push { cls := .type "tuple_iterator", data := .fields #[.ref l, .int 0 0] }).push
      { cls := .type "enumerate", data := .fields #[.none, .bool false, .ref s.heap.objs.size, rawInt 0, .none, .none] }) (s.heap.objs.size + 1) s.heap.objs.size 0 .none := by
    have := Heap.get?_push_size (s.heap.push { cls := .type "tuple_iterator", data := .fields #[.ref l, .int 0 0] })
      (o := { cls := .type "enumerate", data := .fields #[.none, .bool false, .ref s.heap.objs.size, rawInt 0, .none, .none] }) rfl
    rw [hz] at this; exact this
  refine ⟨⟨_, he, rfl⟩, h _ he ⟨_, Heap.get?_push_of_some _ (Heap.get?_push_size _ rfl), rfl, rfl⟩ (by rw [Heap.size_push, hz]) fun b o x => Heap.get?_push_of_some _ (Heap.get?_push_of_some _ x)⟩
theorem enum_endT {e it l : Addr} {i : Nat} {items : Array Value} {old : Value} {Q : Option Value → Shared → Prop} (hh : A.handled = none)
    (he : IsEnum s.heap e it i old) (hit : s.heap.IsTupleIter it l i) (hl : s.heap.IsTuple l items) (hx : items[i]? = none)
    (hQ : ∀ h', Heap.ExtBut it s.heap h' → Q none { s with heap := h' }) : wpAny (model prog w) A (pyNext (.ref e)) Q E s := by
  have hT : s.TypeIs (.ref e) "enumerate" := ⟨_, he, rfl⟩
  unfold pyNext
  refine wpAny_bind (wpAny_attempt (wpAny_callSpecial?_slot (name := Str.ofString "__next__") hT F.slot_enumerate_next
    (wpAny_call_entry F.slot_enumerate_next hT F.entry_enumerate_next ?_ (F.args_enumerate_next_1 _))))
  show wpAny _ _ (field (.ref e) 2 >>= _) _ _ _
  refine wpAny_bind (wpAny_field he rfl (x := .ref it) rfl ?_)
  refine wpAny_bind (RZ.nextOf_tuple_end hh hit hl hx fun h' x he' hx' => ?_)
  obtain ⟨o, ho, hc⟩ := hx'
  refine wpAny_bind (wpAny_isInstance (T := "StopIteration") (b := true) ⟨o, ho, hc⟩ isSubtype_stop ?_)
  exact wpAny_pure (hQ _ he')
end
end PySem
namespace W2
open PySem PySem.Spec PyProof.Rows L2
/-- the tuple at a as it stands at each turn, each item in a new pair -/
def IteT (K : PySem.W.Frag) (a : Addr) : It :=
  ⟨fun i H => ∃ (xs : List V) (x : V), SqT K H a xs ∧ xs[i]? = some x, fun i H v H' => ∃ T x, v = .ref T ∧ H T = none ∧ H' = upd H T (.tup [.int (i : Nat), x]) ∧ ∀ xs, SqT K H a xs → xs[i]? = some x, fun i H => ∃ xs : List V, SqT K H a xs ∧ xs.length ≤ i⟩
theorem turn_enumT {P : Program} {w : World} {K : PySem.W.Frag} {elts : List Expr} {kk : Nat} {tpos : Pos} (a e it : Addr) (hia : a ≠ it) :
    Turn P w K (.Tuple elts kk tpos) (IteT K a) [e, it] e (fun i h => (∃ old, IsEnum h e it ((i : Nat) : Int) old) ∧ h.IsTupleIter it a i ∧ e ≠ it ∧ e ≠ a) where
  mem := by simp
  obj := fun i h st b hb => by
    obtain ⟨⟨old, he⟩, ⟨o, ho, hc, hd⟩, _⟩ := st
    have e' : b = e ∨ b = it := by simpa using hb
    rcases e' with z | z
    · rw [z]; exact ⟨_, he, fun v q => nomatch q⟩
    · rw [z]; exact ⟨o, ho, fun v q => by rw [hd] at q; cases q⟩
  keep := fun i h h' st k => let ⟨⟨old, he⟩, hi, hne⟩ := st; ⟨⟨old, k e (by simp) _ he⟩, hi.at fun o q => k it (by simp) o q, hne⟩
  item := by
    intro X hP hw hK hc i pins s σ H E I hf st hg
    subst hP hw hK
    obtain ⟨⟨old, he⟩, hit, hne, hea⟩ := st
    obtain ⟨xs, x, hq, hx⟩ := hg
    obtain ⟨its, rv, p, hz⟩ := I.tuple hq
    obtain ⟨u, hu, ru⟩ := rv.get hx
    have hel : e < s.heap.objs.size := Heap.lt_size he
    have hil : it < s.heap.objs.size := by obtain ⟨_, q, _⟩ := hit; exact Heap.lt_size q
    have hi : i < its.toArray.size := by
      have := (List.getElem?_eq_some_iff.mp hu).1
      simpa using this
    refine wpAny_pyNext_enum_itemD (Draws.tuple (prog := X.prog) (w := X.w) (A := X.A.in1) (show X.A.in1.handled = none from I.ok.hd hc) it a hia its.toArray) he ⟨hit, p⟩ hi hne (by simp [hne, hea]) fun u' h' tk hP ho hit' hT hsz hk => ?_
    have eu : u' = u := by
      have h1 : its.toArray[i]? = some u := by simpa using hu
      rw [h1] at hP
      exact (Option.some.inj hP).symm
    subst eu
    refine ⟨_, rfl, wpAny_letOwnedTupleGo_enum (s := { s with heap := h', toks := tk + 1 }) ho fun h'' he' sb => ?_⟩
    have hT2 : h''.get? s.heap.objs.size = some { cls := .type "tuple", data := .seq #[.int i tk, u'] } := (sb.2 _ (Nat.ne_of_gt hel)).trans hT
    have new : ObjOk X.prog X.w (upd H s.heap.objs.size (.tup [.int (i : Nat), x])) h'' s.heap.objs.size (.tup [.int (i : Nat), x]) :=
      ⟨by show 2 ≤ sizeLine; decide, [.int i tk, u'], .cons ⟨_, rfl⟩ (.cons ru .nil), ⟨_, hT2, rfl, _, rfl⟩⟩
    have I1 : Inv X pins σ (upd H s.heap.objs.size (.tup [.int (i : Nat), x])) { s with heap := h'', toks := tk + 1 } :=
      I.turnedNew (ch := [e, it]) (fun b ob hb q => (sb.2 b (fun z => hb (by simp [z]))).trans (hk b ob (fun z => hb (by simp [z])) (fun z => hb (by simp [z])) q)) hf (Nat.le_refl _) new
    refine ⟨.ref s.heap.objs.size, _, I1, rfl, ⟨_, x, rfl, I.hok.fresh (Nat.le_refl _), rfl, fun ys hy => by rw [I.tuple_inj hy hq]; exact hx⟩, ⟨⟨u', ?_⟩, hit'.1.at fun o q => (sb.2 it (Ne.symm hne)).trans q, hne, hea⟩, fun b hb => ?_⟩
    · have e1 : ((i + 1 : Nat) : Int) = (i : Int) + 1 := by omega
      rw [e1]; exact he'
    · have hb' : b < s.heap.objs.size := by
        have e' : b = e ∨ b = it := by simpa using hb
        rcases e' with z | z
        · rw [z]; exact hel
        · rw [z]; exact hil
      rw [upd_ne (Nat.ne_of_lt hb')]
      exact (hf b hb).1
  done := by
    intro X hP hw hK hc i pins s σ H E I hf st hg
    subst hP hw hK
    obtain ⟨⟨old, he⟩, hit, hne, hea⟩ := st
    obtain ⟨xs, hq, hx⟩ := hg
    obtain ⟨its, rv, p, hz⟩ := I.tuple hq
    obtain ⟨f0, f1, f2, f3, f4, f5⟩ := hf it (by simp)
    have hl := rv.length
    exact enum_endT (I.ok.hd hc) he hit p (by simp; omega) fun h' eb => ⟨rfl, I.turned (t' := s.toks) (fun b o hb q => eb b o hb q) f0 f1 f3 f4 f5⟩
  self := fun A i s Q E st h => let ⟨⟨_, he⟩, _⟩ := st; wpAny_pyIter_enum he h
def iEnumA (K : PySem.W.Frag) (ta : TA) : TI := fun σ H R => ta σ H fun vs H1 => ∃ a xs, vs = [.ref a] ∧ ((SqL K H1 a xs ∧ R (Ite K a) H1) ∨ (SqT K H1 a xs ∧ R (IteT K a) H1))
theorem pi_enumA {X : Cx} {e : Expr} {ta : TA} {p pos tpos : Pos} {elts : List Expr} {kk : Nat} (hg : Gl X "enumerate") (hm : X.mg "enumerate" = none) (ha : PA X [e] ta) (hs : starEach [e] X.env = [(false, eval e X.env)] := by rfl) :
    PI X (.Tuple elts kk tpos) (.Call (.Name "enumerate" p) [e] [] pos) (iEnumA X.K ta) := by
  refine ⟨fun pins s σ H R I h => ?_⟩
  refine Call_ (ld_blt I hg hm boot_enumerate (PyProof.Rows.callWith_type1 (thn (ha.run pos pins s σ H _ I h) fun us s1 ⟨vs, H1, I1, r1, q1⟩ => ?_) hs rfl))
  obtain ⟨a, xs, ex, hq⟩ := q1
  subst ex
  cases r1 with
  | cons r rr =>
    cases rr
    cases r
    have fp : ∀ b, b ∈ [s1.heap.objs.size + 1, s1.heap.objs.size] → FpOk X pins H1 b := fun b hb => by
      have e' : b = s1.heap.objs.size + 1 ∨ b = s1.heap.objs.size := by simpa using hb
      have hle : s1.heap.objs.size ≤ b := by
        rcases e' with z | z
        · rw [z]; exact Nat.le_add_right _ _
        · rw [z]; exact Nat.le_refl _
      exact I1.fpOk hle (I1.hok.fresh hle)
    rcases hq with ⟨hq, q⟩ | ⟨hq, q⟩
    · obtain ⟨its, rv, p', hz⟩ := I1.list hq
      refine call_enumerate_list p'.isList fun h' he hit hsz hk => wpAny_pyIter_enum he ?_
      have I2 : Inv X pins σ H1 { s1 with heap := h' } := I1.kept (t' := s1.toks) hk
      exact ⟨s1.heap.objs.size + 1, [s1.heap.objs.size + 1, s1.heap.objs.size], _, _, H1, rfl, I2, turn_enum a (s1.heap.objs.size + 1) s1.heap.objs.size, ⟨⟨.none, he⟩, hit, Nat.succ_ne_self _⟩, fp, q⟩
    · obtain ⟨its, rv, p', hz⟩ := I1.tuple hq
      have hal : a < s1.heap.objs.size := by obtain ⟨o, ho, _⟩ := id p'; exact Heap.lt_size ho
      refine call_enumerate_tup (show s1.heap.IsTuple a its.toArray from p') fun h' he hit hsz hk => wpAny_pyIter_enum he ?_
      have I2 : Inv X pins σ H1 { s1 with heap := h' } := I1.kept (t' := s1.toks) hk
      exact ⟨s1.heap.objs.size + 1, [s1.heap.objs.size + 1, s1.heap.objs.size], _, _, H1, rfl, I2, turn_enumT a (s1.heap.objs.size + 1) s1.heap.objs.size (Nat.ne_of_lt hal), ⟨⟨.none, he⟩, hit, Nat.succ_ne_self _, Nat.ne_of_gt (Nat.lt_succ_of_lt hal)⟩, fp, q⟩
theorem walk_enumT {K : PySem.W.Frag} {a : Addr} {xs : List V} : Walk (IteT K a) xs.length (fun H => SqT K H a xs) (YPair (fun i => some (.int (i : Nat))) (fun i => xs[i]?)) := by
  refine ⟨fun i _ hi q => ⟨xs, xs[i], q, by simp [hi]⟩, fun _ q => ⟨xs, q, Nat.le_refl _⟩, fun i H v H' _ q y => ?_⟩
  obtain ⟨T, x, h1, h2, h3, h4⟩ := y
  exact ⟨T, .int (i : Nat), x, h1, h2, h3, rfl, h4 xs q⟩
theorem walk_zipT {K : PySem.W.Frag} {a b : Addr} {xs ys : List V} {n : Nat} (hn : n = min xs.length ys.length) : Walk (RZ.ItzT K a b) n (fun H => SqT K H a xs ∧ SqT K H b ys) (YPair (fun i => xs[i]?) (fun i => ys[i]?)) := by
  subst hn
  refine ⟨fun i _ hi q => ?_, fun _ q => ⟨xs, ys, q.1, q.2, by omega⟩, fun i H v H' _ q y => ?_⟩
  · have h1 : i < xs.length := by omega
    have h2 : i < ys.length := by omega
    exact ⟨xs, ys, xs[i], ys[i], q.1, q.2, by simp [h1], by simp [h2]⟩
  · obtain ⟨T, x, z, h1, h2, h3, h4, h5⟩ := y
    exact ⟨T, x, z, h1, h2, h3, h4 xs q.1, h5 ys q.2⟩
/-! ### xs[i], by values -/
theorem get_listK {X : Cx} {K : PySem.W.Frag} (h : X.K = K) : PGet X (fun x y H Q => ∃ (p : Addr) (xs : List V) (i : Nat) (v : V), x = .ref p ∧ y = .int (i : Int) ∧ SqL K H p xs ∧ xs[i]? = some v ∧ Q v H) := by
  subst h
  intro pins s σ H x y v u Q I rx ry h
  obtain ⟨p, xs, i, z, rfl, rfl, hq, he, q⟩ := h
  cases rx
  obtain ⟨t, rfl⟩ := ry
  obtain ⟨its, r, pl, hz⟩ := I.list hq
  obtain ⟨w, ew, rw'⟩ := r.get he
  have hl := (List.getElem?_eq_some_iff.mp ew).1
  have hrl := r.length
  have hn := line63
  exact wpAny_getItem_list pl.isList (by omega) (by omega) (by simpa using ew) ⟨z, H, I, rw', q⟩
/-! ### a dict of the top: text keys, any text asked for -/
/-- the written dict at d: its pairs, each value by what is read of it -/
structure KD (K : PySem.W.Frag) (w : World) (d : Addr) (kvs : List (Str × V)) : Prop where
  ex : ∃ es n, KDict K w d es n
  hit : ∀ z v, kvs.lookup z = some v → ∃ u, PySem.W.nsIn K d z = some (some u) ∧ RelV v u
  miss : ∀ z, kvs.lookup z = none → PySem.W.nsIn K d z = some none
theorem op_notInKD {X : Cx} {d : Addr} {kvs : List (Str × V)} (D : KD X.K X.w d kvs) : OpR X (compareOp .NotIn) (fun x y H Q => ∃ z : Str, x = .str z ∧ y = .ref d ∧ Q (.bl (!(kvs.lookup z).isSome)) H) := by
  obtain ⟨es, n, KDc⟩ := D.ex
  intro pins s σ H x y v u Q I rx ry h
  obtain ⟨z, hx, hy, q⟩ := h
  refine op_notIn_kd KDc pins s σ H x y v u Q I rx ry ?_
  cases e : kvs.lookup z with
  | none =>
    rw [e] at q
    exact ⟨z, none, hx, hy, D.miss z e, q⟩
  | some v0 =>
    rw [e] at q
    obtain ⟨u0, e2, _⟩ := D.hit z v0 e
    exact ⟨z, some u0, hx, hy, e2, q⟩
theorem ix_KD {X : Cx} {d : Addr} {kvs : List (Str × V)} (D : KD X.K X.w d kvs) : IxR X (fun x y H Q => ∃ (z : Str) (v : V), x = .ref d ∧ y = .str z ∧ kvs.lookup z = some v ∧ Q v H) := by
  obtain ⟨es, n, KDc⟩ := D.ex
  intro value slice pins s σ H x y v u Q I rx ry h hs
  obtain ⟨z, v0, hx, hy, e, q⟩ := h
  obtain ⟨u0, e2, r⟩ := D.hit z v0 e
  exact ix_kdict value slice pins s σ H x y v u Q I rx ry ⟨d, z, v0, hx, hy, ⟨es, n, u0, KDc.at_, KDc.lit, e2, r⟩, q⟩ hs
end W2
namespace PySem
namespace XBadDeeds
open PySem.W PySem.Calls PyProof.Rows PySem.HandSPX
/-! ### the text of __init__ -/
def iA (p1 p2 : Pos) : Arguments := { posonlyargs := [], args := [{ arg := "self", annotation := none, pos := p1 }, { arg := "index", annotation := none, pos := p2 }], vararg := none, kwonlyargs := [], kw_defaults := [], kwarg := none, defaults := [] }
def iB (q1 q2 q3 q4 : Pos) : List Stmt := [.Assign [.Attribute (.Name "self" q1) "index" q2] (.Name "index" q3) q4]
def iS : Scope := { kind := .function, names := [(PySem.Str.ofString "self", .local), (PySem.Str.ofString "index", .local)], isGenerator := false, isCoroutine := false, more := [] }
/-- what the written part says of Low, at C, and of its __init__, at fI -/
structure TxtBadDeeds (K : Frag) (mg : Str → Option Value) (C fI : Addr) : Prop where
  gC : mg "BadDeeds" = some (.ref C)
  cls : ∃ nm q N bs bm sn sub ab col dd k0 k1 k2 k3 k5, K.lookup C = some (excClassObj nm q C N bs bm true sn sub ab col dd k0 k1 k2 k3 k5 "ValueError.__new__") ∧ refsVE bm = true
  sa : findIn K (.ref C) "__setattr__" = some (some (.builtin "object.__setattr__"))
  ga : findIn K (.ref C) "__getattribute__" = some (some (.builtin "BaseException.__getattribute__"))
  gg : findIn K (.ref C) "__getattr__" = some none
  noN : findIn K (.ref C) "index" = some none
  iC : findIn K (.ref C) "__init__" = some (some (.ref fI))
  tC : typeIn K (.ref fI) = some (.type "function")
  kC : keepIn K (.ref C) = true
  exC : subIn K (.ref C) (.type "BaseException") = some true
  tyC : typeIn K (.ref C) = some (.type "type")
  hdC : hasDictIn K C = true
  te : exmOne K (.ref C) (.ref C) = some true
  fn : ∃ (oc : Value) (od : Option Addr) (doc pm : Value) (an : Option Addr) (cdv ct : Value) (osl : Array (Option Value)) (p1 p2 q1 q2 q3 q4 : Pos),
    K.lookup fI = some ⟨oc, od, .func (fnOf "__init__" "BadDeeds.__init__" (iA p1 p2) (iB q1 q2 q3 q4) iS .none .none doc pm an cdv ct), osl⟩ ∧ codeIn K cdv "BadDeeds.__init__" = true
theorem one_size (v : Value) : [v].length ≤ sizeLine := by
  rw [sizeLine_eq]
  exact (by decide : 1 ≤ 16777216)
theorem kept_but {K : Frag} {h h' : Heap} {x : Addr} (X : K.In h) (hx : K.lookup x = none) (k : ∀ b o, b ≠ x → h.get? b = some o → h'.get? b = some o) : K.In h' := fun a o e =>
  k a o (fun z => by rw [z, hx] at e; cases e) (X a o e)
theorem ldC {M : Model} {s : Shared} {name : Str} {scope : Scope} {L a : Addr} {cd : Value} {m : Str → Option Value} {x : Str} {pos : Pos} {v : Value} {Q : Value → Shared → Prop} {A : Around} {E : Value → Shared → Prop} (hn : s.heap.Ns L m) (hv : m x = some v) (h : Q v s)
    (hk : scope.kind = .function := by rfl) (hl : (envOfC name scope L a cd).kindOf x = some .local := by rfl) (hd : (x == ("__debug__" : Str)) = false := by decide) :
    wpAny M A (eval (.Name x pos) (envOfC name scope L a cd)) Q E s := wpAny_Name (wpAny_loadName_local hk hl hn hv h) hd
/-- what __init__ leaves of a fresh exception at x -/
structure InitEnd (h h' : Heap) (x C dx t1 : Addr) (v : Value) : Prop where
  keep : ∀ b o, b ≠ x → h.get? b = some o → h'.get? b = some o
  obj : h'.get? x = some { cls := .ref C, dict := some dx, data := .fields #[.ref t1, .none, .none, .none, .bool false, .none] }
  dbig : h.objs.size ≤ dx
  dne : dx ≠ x
  ns : h'.Ns1 dx (fun y => if y = "index" then some v else none)
/-- a made Low -/
structure OwnMade (h h' : Heap) (e C d : Addr) (v : Value) : Prop where
  keep : ∀ b o, h.get? b = some o → h'.get? b = some o
  new : h.objs.size ≤ e
  obj : ∃ oe vs, h'.get? e = some oe ∧ oe.cls = .ref C ∧ oe.dict = some d ∧ oe.data = .fields vs ∧ vs[1]? = some .none
  dbig : h.objs.size ≤ d
  dne : d ≠ e
  ns : h'.Ns1 d (fun y => if y = "index" then some v else none)
section
variable {prog : Program} {w : World} {A : Around} {E : Value → Shared → Prop} {R : Result → Shared → Prop} {s : Shared} {K : Frag} {mg : Str → Option Value} {C fI : Addr}
theorem low_init (T : TxtBadDeeds K mg C fI) {x t0 : Addr} {v : Value} (X : K.In s.heap) (hlim : s.heap.NoLimit) (hx : s.heap.get? x = some (excO C t0)) (hnx : K.lookup x = none) (hroom : A.depth < recursionLimit)
    (hq : ∀ h' tk dx, InitEnd s.heap h' x C dx t0 v → R (.ok (.ret .none)) { s with heap := h', toks := tk }) :
    codeAny (model prog w) A (.call (.ref fI) ⟨[.ref x, v], []⟩) R s := by
  obtain ⟨oc, od, doc, pm, an, cdv, ct, osl, p1, p2, q1, q2, q3, q4, ho, hcd⟩ := T.fn
  obtain ⟨nm, q, N, bs, bm, sn, sub, ab, col, dd, k0, k1, k2, k3, k5, hC, hbm⟩ := T.cls
  have hcl : clsIn K C = some { name := nm, bases := bs, mro := .ref C :: bm, ns := N, qualname := q, hasDict := true, slotNames := sn, subclasses := sub, abstract := ab, collection := col, hasDel := false } := by unfold clsIn; rw [hC] <;> rfl
  refine Att.call_fn (binds := [("self", .ref x), ("index", v)]) X hlim ho hcd hroom (BindsTo.of_eq (by first | rfl | with_unfolding_all rfl)) (by first | rfl | decide | with_unfolding_all rfl) (fun s₁ IC => ?_) rfl rfl rfl
  obtain ⟨h₁, tk₁, rfl⟩ := IC.toInCall.same
  have k : ∀ b o, s.heap.get? b = some o → h₁.get? b = some o := IC.toInCall.keep
  have hn := IC.toInCall.ns
  have hxL : s.heap.objs.size ≠ x := Nat.ne_of_gt (Heap.lt_size hx)
  have X₁ : K.In h₁ := X.keeps k
  have hx₁ := k _ _ hx
  -- self.by = by
  show wpAny _ _ (execs _ _) _ _ _
  refine wpAny_execs_cons (plainObj_wpAny_Assign_Attribute ?_)
  refine ldC (v := v) hn (by first | rfl | with_unfolding_all rfl | kernel_rfl) (ldC (v := .ref x) hn (by first | rfl | with_unfolding_all rfl | kernel_rfl) ?_)
  refine set_plain X₁ (ox := excO C t0) (od := none) ⟨hx₁, rfl, rfl, trivial⟩ T.sa ?_
  refine exc_osa X₁ hx₁ hcl (show refsVE (.ref C :: bm) = true from hbm) rfl T.noN (fun h₃ tk₃ dx k₃ dn dne hx₃ hn₃ => ?_)
  show wpAny _ _ (execs _ _) _ _ _
  have z : s.heap.objs.size < h₁.objs.size := hn.lt
  exact wpAny_execs_nil (hq h₃ tk₃ dx ⟨fun b o hb e => k₃ b o hb (k b o e), hx₃, Nat.le_of_lt (Nat.lt_of_lt_of_le z dn), dne, hn₃⟩)
theorem low_made (T : TxtBadDeeds K mg C fI) {v : Value} (X : K.In s.heap) (hlim : s.heap.NoLimit) (hroom : A.depth + 1 < recursionLimit)
    (hq : ∀ h' tk e d, OwnMade s.heap h' e C d v → R (.ok (.ret (.ref e))) { s with heap := h', toks := tk }) :
    codeAny (model prog w) A (.call (.ref C) ⟨[v], []⟩) R s := by
  obtain ⟨nm, q, N, bs, bm, sn, sub, ab, col, dd, k0, k1, k2, k3, k5, hC, hbm⟩ := T.cls
  obtain ⟨hp, g, dr, tk, os⟩ := s
  have k : ∀ b o, hp.get? b = some o → ((hp.push (kdv_tup [v])).push (excO C hp.objs.size)).get? b = some o := fun b o e => Heap.get?_push_of_some _ (Heap.get?_push_of_some _ e)
  have hget : ((hp.push (kdv_tup [v])).push (excO C hp.objs.size)).get? (hp.objs.size + 1) = some (excO C hp.objs.size) := by heap_get
  have hnx : K.lookup (hp.objs.size + 1) = none := by
    cases e : K.lookup (hp.objs.size + 1) with
    | none => rfl
    | some o =>
      have z : hp.get? (hp.objs.size + 1) = some o := X _ _ e
      exact absurd (Nat.lt_of_succ_lt (Heap.lt_size z)) (Nat.lt_irrefl _)
  refine call_own F.excBase_ValueError (fun X => refsVE_contains X bm hbm) (X _ _ hC) (looks_findIn X T.iC) (fun self => bind_fn X self T.tC) (one_size v) ?_
  refine low_init (s := ⟨(hp.push (kdv_tup [v])).push (excO C hp.objs.size), g, dr, tk, os⟩) T (X.keeps k) (hlim.keeps k) hget hnx ?_ fun h' tk' dx ⟨k', hx, dn, dne, hns⟩ => ?_
  · show A.depth + 1 < recursionLimit
    exact hroom
  · have old : ∀ b o, hp.get? b = some o → h'.get? b = some o := fun b o e => k' b o (Nat.ne_of_lt (Nat.lt_succ_of_lt (Heap.lt_size e))) (k b o e)
    have z : hp.objs.size + 1 + 1 ≤ dx := by
      first
        | (simpa only [Heap.size_push] using dn)
        | exact dn
        | (have q := dn; rw [Heap.size_push, Heap.size_push] at q; exact q)
    exact ⟨rfl, hq h' tk' (hp.objs.size + 1) dx ⟨old, Nat.le_succ _, ⟨_, _, hx, rfl, rfl, rfl, rfl⟩, Nat.le_trans (Nat.le_trans (Nat.le_succ _) (Nat.le_succ _)) z, dne, hns⟩⟩
end
end XBadDeeds
end PySem
namespace L2
open PySem PySem.Spec PyProof.Rows
theorem relO__BadDeeds {v : V} {v' : Value} (r : RelV v v') (f : Str) : RelO (List.lookup f [(("index" : Str), v)]) (if f = "index" then some v' else none) := by
  by_cases hw : f = "index"
  · subst hw
    rw [if_pos rfl]
    have q : List.lookup ("index" : Str) [(("index" : Str), v)] = some v := by simp [List.lookup]
    rw [q]
    exact r
  · rw [if_neg hw]
    have qw : (f == ("index" : Str)) = false := by simpa using hw
    have q2 : List.lookup f [(("index" : Str), v)] = none := by simp [List.lookup, qw]
    rw [q2]
    trivial
section
variable {X : Cx} {C fI : Addr}
/-- Low(e) -/
def tMk_BadDeeds (C : Addr) (ta : TA) : St → Hp → XK → Prop := fun σ H Q => ta σ H fun vs H1 => ∃ v, vs = [v] ∧ ∀ d, H1 d = none → Q (.ref C) (some d) (upd H1 d (.xd [(("index" : Str), v)]))
theorem pmk__BadDeeds {a : Expr} {ta : TA} {p pos : Pos} {k : Nat} (T : PySem.XBadDeeds.TxtBadDeeds X.K X.mg C fI) (hr : Room k X.A) (ha : PA X [a] ta) (hg : Gl X "BadDeeds" := by rfl)
    (he : starEach (a :: []) X.env = (false, eval a X.env) :: starEach [] X.env := by rfl) (hpl : (backTo pos (starEach [] X.env)).any (·.1) = false := by rfl) :
    PMk X (.Call (.Name "BadDeeds" p) [a] [] pos) (tMk_BadDeeds C ta) := by
  intro pins s σ H Q I h
  refine wpAny_Call_Name_kw (ld_glob I hg T.gC ?_)
  refine PySem.W.callWith_K (h₀ := X.base) I.ok.mod.kin T.kC (thn (ha.run pos pins s σ H _ I h) fun us s1 hh => ?_) he hpl
  obtain ⟨vs, H1, I1, r1, v, ev, q1⟩ := hh
  subst ev
  refine ⟨I1.kIn, ?_⟩
  cases r1 with
  | cons rv rn =>
    rename_i v' us'
    cases rn
    show wpAny _ _ (call (.ref C) [v']) _ _ _
    have hlim := I1.nolimit
    obtain ⟨hp, g, dr, tk, os⟩ := s1
    refine wpAny_call (PySem.XBadDeeds.low_made T I1.kIn hlim (by have := hr.dp; omega) fun h' tk' e d M => ?_)
    show MkP X pins σ Q (.ref e) ⟨h', g, dr, tk', os⟩
    obtain ⟨oe, fv, hoe, hc, hd, hdat, h1⟩ := M.obj
    have hns := M.ns
    obtain ⟨G', g1, g2⟩ := restrict h' fun b => decide (b ≠ e)
    have gk : ∀ b, b ≠ e → G'.get? b = h'.get? b := fun b hb => g1 b (decide_eq_true hb)
    have ge : G'.get? e = none := g2 e (by simp)
    have old : ∀ b o, hp.get? b = some o → G'.get? b = some o := fun b o q => (gk b (Nat.ne_of_lt (Nat.lt_of_lt_of_le (Heap.lt_size q) M.new))).trans (M.keep b o q)
    have ob : ObjOk X.prog X.w (upd H1 d (.xd [(("index" : Str), v)])) G' d (.xd [(("index" : Str), v)]) :=
      ⟨_, hns.at (fun o q => (gk d M.dne).trans q), fun f => relO__BadDeeds rv f⟩
    have J : Inv X pins σ (upd H1 d (.xd [(("index" : Str), v)])) ⟨G', g, dr, tk', os⟩ := I1.laid (t' := tk') old M.dbig ob
    refine ⟨e, oe, fv, ⟨G', g, dr, tk', os⟩, _, .ref C, some d, rfl, J, fun b o q => ?_, ge, hoe, ⟨hc, hd⟩, hdat, h1, ?_, rfl, I1.bare, raises_own T.exC T.tyC, q1 d (I1.hok.fresh M.dbig)⟩
    · by_cases hb : b = e
      · have q' : G'.get? b = some o := q
        rw [hb, ge] at q'; cases q'
      · exact (gk b hb).symm.trans q
    · rw [upd_ne (Ne.symm M.dne)]
      exact I1.hok.fresh M.new
/-- raise Low(e) -/
def tRaise_BadDeeds (C : Addr) (W : WX) (ta : TA) : TS := fun _ σ H => tMk_BadDeeds C ta σ H fun cls d H' => W cls d σ H'
theorem ps_raise_BadDeeds {a : Expr} {ta : TA} {W : WX} {p pos pos2 : Pos} {k : Nat} (hc : X.calm = true) (T : PySem.XBadDeeds.TxtBadDeeds X.K X.mg C fI) (hr : Room k X.A) (tk : Takes X W) (ha : PA X [a] ta) (hg : Gl X "BadDeeds" := by rfl)
    (he : starEach (a :: []) X.env = (false, eval a X.env) :: starEach [] X.env := by rfl) (hpl : (backTo pos (starEach [] X.env)).any (·.1) = false := by rfl) :
    PS X (.Raise (some (.Call (.Name "BadDeeds" p) [a] [] pos)) none pos2) (tRaise_BadDeeds C W ta) := ps_raise hc tk (pmk__BadDeeds T hr ha hg he hpl)
/-- low.by, low the exception that the suite holds (at a; its class cls, its dict d) -/
def tBy_BadDeeds (C : Addr) (a : Addr) (cls : Value) (d : Option Addr) (te : TE) : TE := fun σ H Q => te σ H fun x H1 => x = .ref a ∧ cls = .ref C ∧ ∃ (dd : Addr) (v : V), d = some dd ∧ H1 dd = some (.xd [(("index" : Str), v)]) ∧ Q v H1
theorem pe_by_BadDeeds {a : Addr} {oe : Obj} {cls : Value} {d : Option Addr} {pn : List (Addr × Obj)} {e : Expr} {te : TE} {pos : Pos} (T : PySem.XBadDeeds.TxtBadDeeds X.K X.mg C fI) (hz : Zc cls d oe) (hf : ∃ vs, oe.data = .fields vs) (he : PE (X.suite a ((a, oe) :: pn)) e te)
    (hb : attributeBase e "index" X.env (eval e X.env) = eval e X.env := by rfl) :
    PE (X.suite a ((a, oe) :: pn)) (.Attribute e "index" pos) (tBy_BadDeeds C a cls d te) := by
  refine ⟨fun pins s σ H Q I h => ?_⟩
  refine attr_of hb (thn (he.run pins s σ H _ I h) fun u s1 hh => ?_)
  obtain ⟨x, H1, I1, rx, ex, ec, dd, v, ed, ea, q⟩ := hh
  subst ex
  obtain rfl : u = Value.ref a := rx
  subst ec
  subst ed
  obtain ⟨ha, _⟩ := I1.pin (a, oe) (List.mem_append_left _ List.mem_cons_self)
  obtain ⟨vs, hd⟩ := hf
  have hx : ObjOk X.prog X.w H1 s1.heap dd (.xd [(("index" : Str), v)]) := I1.hok dd _ ea
  obtain ⟨mA, hns, hr⟩ := hx
  obtain ⟨od, ho, hl⟩ := lookIn_ns hns
  have l : List.lookup ("index" : Str) [(("index" : Str), v)] = some v := by simp [List.lookup]
  obtain ⟨u, hu, ru⟩ := RelO.some_of (v := v) (o := mA "index") (by rw [← l]; exact hr "index")
  have J : PySem.W.InstAt s1.heap a oe C (some od) := ⟨ha, hz.1, by unfold PySem.W.notCls; rw [hd] <;> rfl, by rw [hz.2]; exact ho⟩
  exact HandSPX.exc_get I1.kIn J T.ga T.gg T.exC (PySem.W.findObj_own T.hdC T.noN rfl (by rw [hl, hu])) (handed_of ru) ⟨v, H1, I1.tok _, ru, q⟩
end
end L2
namespace PySem
namespace XNoDeed
open PySem.W PySem.Calls PyProof.Rows PySem.HandSPX
def iA (p1 : Pos) : Arguments := { posonlyargs := [], args := [{ arg := "self", annotation := none, pos := p1 }], vararg := none, kwonlyargs := [], kw_defaults := [], kwarg := none, defaults := [] }
def iB (q1 : Pos) : List Stmt := [.Pass q1]
def iS : Scope := { kind := .function, names := [(PySem.Str.ofString "self", .local)], isGenerator := false, isCoroutine := false, more := [] }
structure TxtNoDeed (K : Frag) (mg : Str → Option Value) (C fI : Addr) : Prop where
  gC : mg "NoDeed" = some (.ref C)
  cls : ∃ nm q N bs bm sn sub ab col dd k0 k1 k2 k3 k5, K.lookup C = some (excClassObj nm q C N bs bm true sn sub ab col dd k0 k1 k2 k3 k5 "ValueError.__new__") ∧ refsVE bm = true
  iC : findIn K (.ref C) "__init__" = some (some (.ref fI))
  tC : typeIn K (.ref fI) = some (.type "function")
  kC : keepIn K (.ref C) = true
  exC : subIn K (.ref C) (.type "BaseException") = some true
  tyC : typeIn K (.ref C) = some (.type "type")
  te : exmOne K (.ref C) (.ref C) = some true
  fn : ∃ (oc : Value) (od : Option Addr) (doc pm : Value) (an : Option Addr) (cdv ct : Value) (osl : Array (Option Value)) (p1 q1 : Pos),
    K.lookup fI = some ⟨oc, od, .func (fnOf "__init__" "NoDeed.__init__" (iA p1) (iB q1) iS .none .none doc pm an cdv ct), osl⟩ ∧ codeIn K cdv "NoDeed.__init__" = true
section
variable {prog : Program} {w : World} {A : Around} {E : Value → Shared → Prop} {R : Result → Shared → Prop} {s : Shared} {K : Frag} {mg : Str → Option Value} {C fI : Addr}
theorem low_init (T : TxtNoDeed K mg C fI) {x : Addr} (X : K.In s.heap) (hlim : s.heap.NoLimit) (hroom : A.depth < recursionLimit)
    (hq : ∀ h' tk, (∀ b o, s.heap.get? b = some o → h'.get? b = some o) → R (.ok (.ret .none)) { s with heap := h', toks := tk }) :
    codeAny (model prog w) A (.call (.ref fI) ⟨[.ref x], []⟩) R s := by
  obtain ⟨oc, od, doc, pm, an, cdv, ct, osl, p1, q1, ho, hcd⟩ := T.fn
  refine Att.call_fn (binds := [("self", .ref x)]) X hlim ho hcd hroom (BindsTo.of_eq (by first | rfl | with_unfolding_all rfl)) (by first | rfl | decide | with_unfolding_all rfl) (fun s₁ IC => ?_) rfl rfl rfl
  obtain ⟨h₁, tk₁, rfl⟩ := IC.toInCall.same
  have k : ∀ b o, s.heap.get? b = some o → h₁.get? b = some o := IC.toInCall.keep
  show wpAny _ _ (execs _ _) _ _ _
  refine wpAny_execs_cons (wpAny_Pass ?_)
  show wpAny _ _ (execs _ _) _ _ _
  exact wpAny_execs_nil (hq h₁ tk₁ k)
theorem low_made (T : TxtNoDeed K mg C fI) (X : K.In s.heap) (hlim : s.heap.NoLimit) (hroom : A.depth + 1 < recursionLimit)
    (hq : ∀ h' tk e t1, (∀ b o, s.heap.get? b = some o → h'.get? b = some o) → s.heap.objs.size ≤ e → h'.get? e = some (excO C t1) → R (.ok (.ret (.ref e))) { s with heap := h', toks := tk }) :
    codeAny (model prog w) A (.call (.ref C) ⟨[], []⟩) R s := by
  obtain ⟨nm, q, N, bs, bm, sn, sub, ab, col, dd, k0, k1, k2, k3, k5, hC, hbm⟩ := T.cls
  obtain ⟨hp, g, dr, tk, os⟩ := s
  have k : ∀ b o, hp.get? b = some o → ((hp.push (kdv_tup [])).push (excO C hp.objs.size)).get? b = some o := fun b o e => Heap.get?_push_of_some _ (Heap.get?_push_of_some _ e)
  have hget : ((hp.push (kdv_tup [])).push (excO C hp.objs.size)).get? (hp.objs.size + 1) = some (excO C hp.objs.size) := by heap_get
  refine call_own F.excBase_ValueError (fun X => refsVE_contains X bm hbm) (X _ _ hC) (looks_findIn X T.iC) (fun self => bind_fn X self T.tC) (Nat.zero_le _) ?_
  refine low_init (s := ⟨(hp.push (kdv_tup [])).push (excO C hp.objs.size), g, dr, tk, os⟩) T (X.keeps k) (hlim.keeps k) ?_ fun h' tk' k' => ?_
  · show A.depth + 1 < recursionLimit
    exact hroom
  · exact ⟨rfl, hq h' tk' (hp.objs.size + 1) hp.objs.size (fun b o e => k' b o (k b o e)) (Nat.le_succ _) (k' _ _ hget)⟩
end
end XNoDeed
end PySem
namespace L2
open PySem PySem.Spec PyProof.Rows
section
variable {X : Cx} {C fI : Addr}
theorem pmk__NoDeed {p pos : Pos} {k : Nat} (T : PySem.XNoDeed.TxtNoDeed X.K X.mg C fI) (hr : Room k X.A) (hg : Gl X "NoDeed" := by rfl) :
    PMk X (.Call (.Name "NoDeed" p) [] [] pos) (fun _ H Q => Q (.ref C) none H) := by
  intro pins s σ H Q I h
  refine wpAny_Call_Name_kw (ld_glob I hg T.gC ?_)
  refine PySem.W.callWith_K0 I.kIn T.kC ?_
  have hlim := I.nolimit
  have kin := I.kIn
  obtain ⟨hp, g, dr, tk, os⟩ := s
  show wpAny _ _ (call (.ref C) []) _ _ _
  refine wpAny_call (PySem.XNoDeed.low_made T kin hlim (by have := hr.dp; omega) fun h' tk' e t1 kp hnew he => ?_)
  show MkP X pins σ Q (.ref e) ⟨h', g, dr, tk', os⟩
  obtain ⟨G', g1, g2⟩ := restrict h' fun b => decide (b ≠ e)
  have gk : ∀ b, b ≠ e → G'.get? b = h'.get? b := fun b hb => g1 b (decide_eq_true hb)
  have ge : G'.get? e = none := g2 e (by simp)
  have old : ∀ b o, hp.get? b = some o → G'.get? b = some o := fun b o q => (gk b (Nat.ne_of_lt (Nat.lt_of_lt_of_le (Heap.lt_size q) hnew))).trans (kp b o q)
  have J : Inv X pins σ H ⟨G', g, dr, tk', os⟩ := I.kept (t' := tk') old
  refine ⟨e, _, _, ⟨G', g, dr, tk', os⟩, H, .ref C, none, rfl, J, fun b o q => ?_, ge, he, ⟨rfl, rfl⟩, rfl, rfl, I.hok.fresh hnew, rfl, I.bare, raises_own T.exC T.tyC, h⟩
  by_cases hb : b = e
  · have q' : G'.get? b = some o := q
    rw [hb, ge] at q'; cases q'
  · exact (gk b hb).symm.trans q
def tRaise_NoDeed (C : Addr) (W : WX) : TS := fun _ σ H => W (.ref C) none σ H
theorem ps_raise_NoDeed {W : WX} {p pos pos2 : Pos} {k : Nat} (hc : X.calm = true) (T : PySem.XNoDeed.TxtNoDeed X.K X.mg C fI) (hr : Room k X.A) (tk : Takes X W) (hg : Gl X "NoDeed" := by rfl) :
    PS X (.Raise (some (.Call (.Name "NoDeed" p) [] [] pos)) none pos2) (tRaise_NoDeed C W) := ps_raise hc tk (pmk__NoDeed T hr hg)
end
end L2
namespace W2
open PySem PySem.Spec PyProof.Rows L2
/-! ### the text by places -/
def top (i : Nat) : Stmt := PySem.Challenge.pw_cutlinked_k03_whole_deeds_on_plain_fores.main.body.getD i (.Pass ⟨0, 0, 0, 0⟩)
abbrev s_isint : Stmt := top 7
abbrev s_ishouse : Stmt := top 8
abbrev s_init : Stmt := inClass (top 11) 0
abbrev s_arepar : Stmt := top 12
abbrev s_come : Stmt := top 13
abbrev s_arewor : Stmt := top 14
abbrev s_many : Stmt := top 15
abbrev s_root : Stmt := top 16
abbrev s_way : Stmt := top 17
abbrev s_common : Stmt := top 18
abbrev s_wayup : Stmt := top 19
abbrev s_need : Stmt := top 20
abbrev s_isdeed : Stmt := top 23
abbrev s_behind : Stmt := top 24
abbrev s_led : Stmt := top 25
abbrev s_hasform : Stmt := top 26
abbrev s_fits : Stmt := top 27
abbrev s_can : Stmt := top 28
abbrev s_done : Stmt := top 29
abbrev s_withitem : Stmt := top 30
abbrev s_turned : Stmt := top 31
abbrev s_raised : Stmt := top 32
abbrev s_lhand : Stmt := top 34
abbrev s_take : Stmt := top 35
abbrev s_pick : Stmt := top 36
abbrev s_lisint : Stmt := top 37
abbrev s_within : Stmt := top 38
abbrev s_same : Stmt := top 39
abbrev s_odd : Stmt := top 40
abbrev s_value : Stmt := top 41
abbrev s_parents : Stmt := top 42
abbrev s_plain : Stmt := top 43
abbrev s_fof : Stmt := top 44
abbrev s_lup : Stmt := top 45
abbrev s_lroot : Stmt := top 46
abbrev s_lcommon : Stmt := top 47
abbrev s_lway : Stmt := top 48
abbrev s_arehouses : Stmt := top 49
abbrev s_deedform : Stmt := top 50
abbrev s_lcan : Stmt := top 51
abbrev s_lbehind : Stmt := top 52
abbrev s_ldeed : Stmt := top 53
abbrev s_bent : Stmt := top 54
abbrev s_told : Stmt := top 55
abbrev s_ledtold : Stmt := top 56
abbrev s_some : Stmt := top 57
abbrev s_law : Stmt := top 58
theorem sc_isint : FnScope ["thing"] ["thing"] (defScope s_isint) := ⟨rfl, rfl, rfl, by decide +kernel, rfl, by decide +kernel, by decide +kernel⟩
theorem sc_ishouse : FnScope ["many", "thing"] ["many", "thing"] (defScope s_ishouse) := ⟨rfl, rfl, rfl, by decide +kernel, rfl, by decide +kernel, by decide +kernel⟩
theorem sc_init : FnScope ["self", "parents", "worths"] ["self", "parents", "worths"] (defScope s_init) := ⟨rfl, rfl, rfl, by decide +kernel, rfl, by decide +kernel, by decide +kernel⟩
theorem sc_arepar : FnScope ["thing", "parent"] ["thing"] (defScope s_arepar) := ⟨rfl, rfl, rfl, by decide +kernel, rfl, by decide +kernel, by decide +kernel⟩
theorem sc_come : FnScope ["parents", "sure", "parent", "house", "line", "at", "passed"] ["parents"] (defScope s_come) := ⟨rfl, rfl, rfl, by decide +kernel, rfl, by decide +kernel, by decide +kernel⟩
theorem sc_arewor : FnScope ["thing", "houses", "worth"] ["thing", "houses"] (defScope s_arewor) := ⟨rfl, rfl, rfl, by decide +kernel, rfl, by decide +kernel, by decide +kernel⟩
theorem sc_many : FnScope ["forest"] ["forest"] (defScope s_many) := ⟨rfl, rfl, rfl, by decide +kernel, rfl, by decide +kernel, by decide +kernel⟩
theorem sc_root : FnScope ["forest", "house"] ["forest", "house"] (defScope s_root) := ⟨rfl, rfl, rfl, by decide +kernel, rfl, by decide +kernel, by decide +kernel⟩
theorem sc_way : FnScope ["forest", "one", "other", "meeting", "rise", "fall"] ["forest", "one", "other"] (defScope s_way) := ⟨rfl, rfl, rfl, by decide +kernel, rfl, by decide +kernel, by decide +kernel⟩
theorem sc_common : FnScope ["forest", "one", "other", "rise", "house"] ["forest", "one", "other"] (defScope s_common) := ⟨rfl, rfl, rfl, by decide +kernel, rfl, by decide +kernel, by decide +kernel⟩
theorem sc_wayup : FnScope ["forest", "house", "line"] ["forest", "house"] (defScope s_wayup) := ⟨rfl, rfl, rfl, by decide +kernel, rfl, by decide +kernel, by decide +kernel⟩
theorem sc_need : FnScope ["forest", "thing"] ["forest", "thing"] (defScope s_need) := ⟨rfl, rfl, rfl, by decide +kernel, rfl, by decide +kernel, by decide +kernel⟩
theorem sc_isdeed : FnScope ["forest", "thing"] ["forest", "thing"] (defScope s_isdeed) := ⟨rfl, rfl, rfl, by decide +kernel, rfl, by decide +kernel, by decide +kernel⟩
theorem sc_behind : FnScope ["forest", "deed"] ["forest", "deed"] (defScope s_behind) := ⟨rfl, rfl, rfl, by decide +kernel, rfl, by decide +kernel, by decide +kernel⟩
theorem sc_led : FnScope ["forest", "deeds", "standing", "index", "deed"] ["forest", "deeds"] (defScope s_led) := ⟨rfl, rfl, rfl, by decide +kernel, rfl, by decide +kernel, by decide +kernel⟩
theorem sc_hasform : FnScope ["houses", "thing", "form", "part", "kind"] ["houses", "thing"] (defScope s_hasform) := ⟨rfl, rfl, rfl, by decide +kernel, rfl, by decide +kernel, by decide +kernel⟩
theorem sc_fits : FnScope ["houses", "part", "kind"] ["houses", "part", "kind"] (defScope s_fits) := ⟨rfl, rfl, rfl, by decide +kernel, rfl, by decide +kernel, by decide +kernel⟩
theorem sc_can : FnScope ["forest", "deed", "word", "house"] ["forest", "deed"] (defScope s_can) := ⟨rfl, rfl, rfl, by decide +kernel, rfl, by decide +kernel, by decide +kernel⟩
theorem sc_done : FnScope ["forest", "deed", "word", "house"] ["forest", "deed"] (defScope s_done) := ⟨rfl, rfl, rfl, by decide +kernel, rfl, by decide +kernel, by decide +kernel⟩
theorem sc_withitem : FnScope ["row", "at", "item"] ["row", "at", "item"] (defScope s_withitem) := ⟨rfl, rfl, rfl, by decide +kernel, rfl, by decide +kernel, by decide +kernel⟩
theorem sc_turned : FnScope ["forest", "house", "line", "parents", "lower", "upper"] ["forest", "house"] (defScope s_turned) := ⟨rfl, rfl, rfl, by decide +kernel, rfl, by decide +kernel, by decide +kernel⟩
theorem sc_raised : FnScope ["forest", "houses", "number", "worths", "house"] ["forest", "houses", "number"] (defScope s_raised) := ⟨rfl, rfl, rfl, by decide +kernel, rfl, by decide +kernel, by decide +kernel⟩
theorem sc_lhand : FnScope ["_law_script"] ["_law_script"] (defScope s_lhand) := ⟨rfl, rfl, rfl, by decide +kernel, rfl, by decide +kernel, by decide +kernel⟩
theorem sc_take : FnScope ["_law_hand_here", "_law_size", "_law_cell", "_law_found", "_law_number"] ["_law_hand_here", "_law_size"] (defScope s_take) := ⟨rfl, rfl, rfl, by decide +kernel, rfl, by decide +kernel, by decide +kernel⟩
theorem sc_pick : FnScope ["_law_hand_here", "_law_things"] ["_law_hand_here", "_law_things"] (defScope s_pick) := ⟨rfl, rfl, rfl, by decide +kernel, rfl, by decide +kernel, by decide +kernel⟩
theorem sc_lisint : FnScope ["_law_thing"] ["_law_thing"] (defScope s_lisint) := ⟨rfl, rfl, rfl, by decide +kernel, rfl, by decide +kernel, by decide +kernel⟩
theorem sc_within : FnScope ["_law_thing", "_law_least", "_law_most"] ["_law_thing", "_law_least", "_law_most"] (defScope s_within) := ⟨rfl, rfl, rfl, by decide +kernel, rfl, by decide +kernel, by decide +kernel⟩
theorem sc_same : FnScope ["_law_actual", "_law_due", "_law_one", "_law_other"] ["_law_actual", "_law_due"] (defScope s_same) := ⟨rfl, rfl, rfl, by decide +kernel, rfl, by decide +kernel, by decide +kernel⟩
theorem sc_odd : FnScope ["_law_hand_here", "_law_turn"] ["_law_hand_here"] (defScope s_odd) := ⟨rfl, rfl, rfl, by decide +kernel, rfl, by decide +kernel, by decide +kernel⟩
theorem sc_value : FnScope ["_law_hand_here"] ["_law_hand_here"] (defScope s_value) := ⟨rfl, rfl, rfl, by decide +kernel, rfl, by decide +kernel, by decide +kernel⟩
theorem sc_parents : FnScope ["_law_hand_here", "_law_size", "_law_order", "_law_k", "_law_at", "_law_found", "_law_shape"] ["_law_hand_here", "_law_size"] (defScope s_parents) := ⟨rfl, rfl, rfl, by decide +kernel, rfl, by decide +kernel, by decide +kernel⟩
theorem sc_plain : FnScope ["_law_hand_here", "_law_sizes", "_law_size", "_law_k"] ["_law_hand_here", "_law_sizes"] (defScope s_plain) := ⟨rfl, rfl, rfl, by decide +kernel, rfl, by decide +kernel, by decide +kernel⟩
theorem sc_fof : FnScope ["_law_plain_here"] ["_law_plain_here"] (defScope s_fof) := ⟨rfl, rfl, rfl, by decide +kernel, rfl, by decide +kernel, by decide +kernel⟩
theorem sc_lup : FnScope ["_law_parents_here", "_law_house", "_law_found", "_law_k"] ["_law_parents_here", "_law_house"] (defScope s_lup) := ⟨rfl, rfl, rfl, by decide +kernel, rfl, by decide +kernel, by decide +kernel⟩
theorem sc_lroot : FnScope ["_law_parents_here", "_law_house"] ["_law_parents_here", "_law_house"] (defScope s_lroot) := ⟨rfl, rfl, rfl, by decide +kernel, rfl, by decide +kernel, by decide +kernel⟩
theorem sc_lcommon : FnScope ["_law_parents_here", "_law_one", "_law_other", "_law_ups", "_law_house"] ["_law_parents_here", "_law_one", "_law_other"] (defScope s_lcommon) := ⟨rfl, rfl, rfl, by decide +kernel, rfl, by decide +kernel, by decide +kernel⟩
theorem sc_lway : FnScope ["_law_parents_here", "_law_one", "_law_other", "_law_top", "_law_first", "_law_later", "_law_back", "_law_k"] ["_law_parents_here", "_law_one", "_law_other"] (defScope s_lway) := ⟨rfl, rfl, rfl, by decide +kernel, rfl, by decide +kernel, by decide +kernel⟩
theorem sc_arehouses : FnScope ["_law_size", "_law_things", "_law_thing"] ["_law_size", "_law_things"] (defScope s_arehouses) := ⟨rfl, rfl, rfl, by decide +kernel, rfl, by decide +kernel, by decide +kernel⟩
theorem sc_deedform : FnScope ["_law_size", "_law_thing"] ["_law_size", "_law_thing"] (defScope s_deedform) := ⟨rfl, rfl, rfl, by decide +kernel, rfl, by decide +kernel, by decide +kernel⟩
theorem sc_lcan : FnScope ["_law_plain_here", "_law_thing", "_law_parents_here"] ["_law_plain_here", "_law_thing"] (defScope s_lcan) := ⟨rfl, rfl, rfl, by decide +kernel, rfl, by decide +kernel, by decide +kernel⟩
theorem sc_lbehind : FnScope ["_law_plain_here", "_law_deed_here", "_law_parents_here", "_law_worths", "_law_ups", "_law_k", "_law_house"] ["_law_plain_here", "_law_deed_here"] (defScope s_lbehind) := ⟨rfl, rfl, rfl, by decide +kernel, rfl, by decide +kernel, by decide +kernel⟩
theorem sc_ldeed : FnScope ["_law_hand_here", "_law_plain_here", "_law_parents_here", "_law_size", "_law_house", "_law_other", "_law_turn", "_law_base"] ["_law_hand_here", "_law_plain_here"] (defScope s_ldeed) := ⟨rfl, rfl, rfl, by decide +kernel, rfl, by decide +kernel, by decide +kernel⟩
theorem sc_bent : FnScope ["_law_hand_here", "_law_thing", "_law_turn", "_law_at", "_law_menu"] ["_law_hand_here", "_law_thing"] (defScope s_bent) := ⟨rfl, rfl, rfl, by decide +kernel, rfl, by decide +kernel, by decide +kernel⟩
theorem sc_told : FnScope ["_law_forest", "_law_thing", "_law_found"] ["_law_forest", "_law_thing"] (defScope s_told) := ⟨rfl, rfl, rfl, by decide +kernel, rfl, by decide +kernel, by decide +kernel⟩
theorem sc_ledtold : FnScope ["_law_forest", "_law_deeds", "_law_found", "error"] ["_law_forest", "_law_deeds"] (defScope s_ledtold) := ⟨rfl, rfl, rfl, by decide +kernel, rfl, by decide +kernel, by decide +kernel⟩
theorem sc_some : FnScope ["_law_hand_here", "_law_plain_here", "_law_many", "_law_deed_here", "_law_turn", "_law_one", "_law_other"] ["_law_hand_here", "_law_plain_here"] (defScope s_some) := ⟨rfl, rfl, rfl, by decide +kernel, rfl, by decide +kernel, by decide +kernel⟩
theorem sc_law : FnScope ["_law_script", "_law_hand_here", "_law_plain_here", "_law_forest", "_law_begin", "_law_first", "_law_deeds", "_law_k", "_law_thing", "_law_can_here", "_law_here", "_law_due", "_law_at", "_law_half", "_law_deed_here", "_law_odd_here"] ["_law_script"] (defScope s_law) := ⟨rfl, rfl, rfl, by decide +kernel, rfl, by decide +kernel, by decide +kernel⟩
/-! ### what the top has left -/
structure Txt (K : PySem.W.Frag) (mg : Str → Option Value) : Prop where
  n_len : mg "len" = none
  n_isinstance : mg "isinstance" = none
  n_int : mg "int" = none
  n_bool : mg "bool" = none
  n_str : mg "str" = none
  n_tuple : mg "tuple" = none
  n_list : mg "list" = none
  n_range : mg "range" = none
  n_zip : mg "zip" = none
  n_max : mg "max" = none
  n_all : mg "all" = none
  n_enumerate : mg "enumerate" = none
  most : ∃ t, mg "MOST_HOUSES" = some (.int 64 t)
structure ForC (K : PySem.W.Frag) (mg : Str → Option Value) (C fI : Addr) : Prop where
  own : Own K C
  nP : NoAttr K C "parents"
  nW : NoAttr K C "worths"
  mgC : mg "Forest" = some (.ref C)
  M : Mk K C fI
theorem ForC.cl {K : PySem.W.Frag} {mg : Str → Option Value} {C fI : Addr} (F : ForC K mg C fI) : Cls K C := F.own.cl
/-! ### data -/
def ov : Option Nat → V
  | none => .non
  | some k => .int (k : Int)
abbrev nv (k : Nat) : V := .int (k : Int)
abbrev pv' (ps : List (Option Nat)) : List V := ps.map ov
theorem pw_ : ¬ (("parents" : Str) = "worths") := by decide +kernel
theorem wp_ : ¬ (("worths" : Str) = "parents") := by decide +kernel
def pf (a b : Addr) : List (Str × V) := putF "worths" (.ref b) (putF "parents" (.ref a) [])
theorem pf_parents (a b : Addr) : (pf a b).lookup ("parents" : Str) = some (.ref a) := by
  unfold pf
  rw [lookup_putF, if_neg pw_, lookup_putF, if_pos rfl]
theorem pf_worths (a b : Addr) : (pf a b).lookup ("worths" : Str) = some (.ref b) := by
  unfold pf
  rw [lookup_putF, if_pos rfl]
/-! ### lists of houses -/
theorem flat_nv (l : List Nat) : (l.map nv).all flatV = true := by
  rw [List.all_eq_true]
  intro x hx
  obtain ⟨y, _, rfl⟩ := List.mem_map.mp hx
  rfl
theorem eqV_nv (a b : Nat) : eqV (nv a) (nv b) = decide (a = b) := by
  show ((a : Int) == (b : Int)) = decide (a = b)
  rw [Bool.eq_iff_iff, beq_iff_eq, decide_eq_true_iff]
  omega
theorem inV_nv (h : Nat) (l : List Nat) : inV (nv h) (l.map nv) = decide (h ∈ l) := by
  unfold inV
  rw [List.any_map, Bool.eq_iff_iff, List.any_eq_true, decide_eq_true_iff]
  constructor
  · rintro ⟨x, hx, e⟩
    have e2 : eqV (nv x) (nv h) = true := e
    rw [eqV_nv] at e2
    have := of_decide_eq_true e2
    subst this
    exact hx
  · intro hx
    refine ⟨h, hx, ?_⟩
    show eqV (nv h) (nv h) = true
    rw [eqV_nv]
    simp
theorem idx_at {l : List Nat} {x : Nat} (h : x ∈ l) : (l.map nv)[l.idxOf x]? = some (nv x) := by
  have hl : l.idxOf x < l.length := List.idxOf_lt_length_of_mem h
  rw [List.getElem?_map, List.getElem?_eq_getElem hl, List.getElem_idxOf hl]
  rfl
theorem idx_no {l : List Nat} {x : Nat} (m : Nat) (z : V) (hm : m < l.idxOf x) (hz : (l.map nv)[m]? = some z) : eqV z (nv x) = false := by
  rw [List.getElem?_map] at hz
  cases e : l[m]? with
  | none => rw [e] at hz; cases hz
  | some y =>
    rw [e] at hz
    have ez : z = nv y := (Option.some.inj hz).symm
    subst ez
    rw [eqV_nv]
    refine decide_eq_false fun q => ?_
    subst q
    have hl := (List.getElem?_eq_some_iff.mp e).1
    have := List.not_of_lt_findIdx (p := fun z => z == y) (xs := l) (i := m) hm
    rw [(List.getElem?_eq_some_iff.mp e).2] at this
    simp at this
theorem eqV_self (x : Nat) : eqV (nv x) (nv x) = true := by
  rw [eqV_nv]
  simp
theorem rgV_nv (n : Nat) : rgV 0 (n : Int) = (List.range n).map nv := by
  unfold rgV
  rw [Int.sub_zero, Int.toNat_natCast]
  refine List.map_congr_left fun i _ => ?_
  rw [Int.zero_add]
theorem flat_rep (n : Nat) : (List.replicate n [V.non]).flatten = (List.replicate n (none : Option Nat)).map ov := by
  induction n with
  | zero => rfl
  | succ n ih =>
    rw [List.replicate_succ, List.flatten_cons, ih, List.replicate_succ, List.map_cons]
    rfl
/-! ### parents by an order -/
def Par (od : List Nat) (ps : List (Option Nat)) : Prop := ∀ (k g : Nat), od[k]? = some g → ps[g]? = some none ∨ ∃ (j p : Nat), j < k ∧ od[j]? = some p ∧ ps[g]? = some (some p)
theorem par_set {od : List Nat} {ps : List (Option Nat)} (h : Par od ps) (nd : od.Nodup) {k g : Nat} (hk : od[k]? = some g) (hg : g < ps.length) {v : Option Nat} (hv : v = none ∨ ∃ (j p : Nat), j < k ∧ od[j]? = some p ∧ v = some p) : Par od (ps.set g v) := by
  intro k' g' hk'
  by_cases e : g = g'
  · subst e
    have ek : k = k' := nd_ix nd hk hk'
    subst ek
    rw [List.getElem?_set_self hg]
    rcases hv with rfl | ⟨j, p, hj, hp, rfl⟩
    · exact .inl rfl
    · exact .inr ⟨j, p, hj, hp, rfl⟩
  · rw [List.getElem?_set_ne e]
    exact h k' g' hk'
theorem par_tree {od : List Nat} {ps : List (Option Nat)} (h : Par od ps) {n : Nat} (hp : od.Perm (List.range n)) (hn : ps.length = n) : Tree ps := by
  refine tree_ord (o := od) (by rw [hp.length_eq, List.length_range, hn]) (fun x hx => ?_) h
  have : x ∈ od := hp.mem_iff.mpr (List.mem_range.mpr (by omega))
  obtain ⟨i, hi, e⟩ := List.getElem_of_mem this
  exact ⟨i, List.getElem?_eq_some_iff.mpr ⟨hi, e⟩⟩
/-- a Forest -/
structure FAt (C : Addr) (H : Hp) (f : Addr) (ps : List (Option Nat)) (ws : List Int) (dx a b : Addr) : Prop where
  o : H f = some (.ins C dx (pf a b))
  p : H a = some (.tup (ps.map ov))
  w : H b = some (.tup (ws.map V.int))
theorem FAt.same {C : Addr} {H H' : Hp} {f : Addr} {ps : List (Option Nat)} {ws : List Int} {dx a b : Addr} (x : FAt C H f ps ws dx a b) (s : Same H H') : FAt C H' f ps ws dx a b := ⟨s _ _ x.o, s _ _ x.p, s _ _ x.w⟩
theorem FAt.bt {C : Addr} {H H' : Hp} {f h : Addr} {ps : List (Option Nat)} {ws : List Int} {dx a b : Addr} {l : List V} (x : FAt C H f ps ws dx a b) (hh : H h = some (.lst l)) (s : Bt h H H') : FAt C H' f ps ws dx a b :=
  ⟨s _ _ (ne_of x.o hh (fun z => nomatch z)) x.o, s _ _ (ne_of x.p hh (fun z => nomatch z)) x.p, s _ _ (ne_of x.w hh (fun z => nomatch z)) x.w⟩
/-- the hand -/
structure HandAt (H : Hp) (h : Addr) (l : Addr) (ns : List Int) (i b s c : Int) : Prop where
  o : H h = some (.lst [.ref l, .int i, .int b, .int s, .int c])
  n : H l = some (.lst (ns.map V.int))
  i0 : 0 ≤ i
  b0 : 0 ≤ b
  s0 : 0 ≤ s
  s1 : s < 2147483647
def Hand (H : Hp) (h l : Addr) : Prop := ∃ ns i b s c, HandAt H h l ns i b s c
theorem Hand.lst {H : Hp} {h l : Addr} (x : Hand H h l) : ∃ l, H h = some (.lst l) := let ⟨_, _, _, _, _, y⟩ := x; ⟨_, y.o⟩
theorem Hand.row {H : Hp} {h l : Addr} (x : Hand H h l) : ∃ ns, H l = some (.lst ns) := let ⟨_, _, _, _, _, y⟩ := x; ⟨_, y.n⟩
theorem Hand.same {H H' : Hp} {h l : Addr} (x : Hand H h l) (s : Same H H') : Hand H' h l := let ⟨ns, i, b, t, c, y⟩ := x; ⟨ns, i, b, t, c, s _ _ y.o, s _ _ y.n, y.i0, y.b0, y.s0, y.s1⟩
theorem Hand.upd {H : Hp} {h l p : Addr} {o : HO} (x : Hand H h l) (hp : H p = none) : Hand (L2.upd H p o) h l := x.same (same_upd hp)
/-- an object at q, not the hand nor its row, is changed -/
theorem Hand.set {H : Hp} {h l q : Addr} {o : HO} (x : Hand H h l) (n1 : q ≠ h) (n2 : q ≠ l) : Hand (L2.upd H q o) h l := by
  obtain ⟨ns, i, b, s, c, y⟩ := x
  exact ⟨ns, i, b, s, c, by rw [upd_ne n1.symm]; exact y.o, by rw [upd_ne n2.symm]; exact y.n, y.i0, y.b0, y.s0, y.s1⟩
/-! ### promises -/
def hsV (n : Int) : V → Bool
  | .int i => decide (0 ≤ i) && decide (i < n)
  | _ => false
def wiV (a b : Int) : V → Bool
  | .int i => decide (a ≤ i) && decide (i ≤ b)
  | _ => false
def spIsInt (C : Addr) : Sp := fun vs H Q _ => ∃ (h : Addr) (x : V), vs = [x] ∧ Any C h H x ∧ Ret (.bl (isI x)) H Q
def spIsHouse (C : Addr) : Sp := fun vs H Q _ => ∃ (h : Addr) (n : Int) (x : V), vs = [.int n, x] ∧ Any C h H x ∧ Ret (.bl (hsV n x)) H Q
def spWithin (C : Addr) : Sp := fun vs H Q _ => ∃ (h : Addr) (a b : Int) (x : V), vs = [x, .int a, .int b] ∧ Any C h H x ∧ Ret (.bl (wiV a b x)) H Q
def spIsInt2 : Sp := fun vs H Q _ => ∃ i : Int, vs = [.int i] ∧ Ret (.bl true) H Q
def spIsHouse2 : Sp := fun vs H Q _ => ∃ n i : Int, vs = [.int n, .int i] ∧ 0 ≤ i ∧ i < n ∧ Ret (.bl true) H Q
def spCome (K : PySem.W.Frag) : Sp := fun vs H Q _ => ∃ (a : Addr) (ps : List (Option Nat)), vs = [.ref a] ∧ H a = some (.tup (ps.map ov)) ∧ Tree ps ∧ ps.length ≤ 64 ∧ Ret (.bl true) H Q
def spAreP (K : PySem.W.Frag) : Sp := fun vs H Q _ => ∃ (a : Addr) (ps : List (Option Nat)), vs = [.ref a] ∧ H a = some (.tup (ps.map ov)) ∧ Tree ps ∧ 1 ≤ ps.length ∧ ps.length ≤ 64 ∧ Ret (.bl true) H Q
def spAreW (K : PySem.W.Frag) : Sp := fun vs H Q _ => ∃ (a : Addr) (ws : List Int), vs = [.ref a, .int (ws.length : Int)] ∧ H a = some (.tup (ws.map V.int)) ∧ ws.length ≤ 64 ∧ Ret (.bl true) H Q
def spInit (C : Addr) : Sp := fun vs H Q _ => ∃ (x dx a b : Addr) (ps : List (Option Nat)) (ws : List Int), vs = [.ref x, .ref a, .ref b] ∧ H x = some (.ins C dx []) ∧ H a = some (.tup (ps.map ov)) ∧ H b = some (.tup (ws.map V.int)) ∧ Tree ps ∧ 1 ≤ ps.length ∧ ps.length ≤ 64 ∧ ws.length = ps.length ∧
  ∀ H', Bt x H H' → H' x = some (.ins C dx (pf a b)) → Q .non H'
def spFof (C : Addr) : Sp := fun vs H Q _ => ∃ (pl p q : Addr) (ps : List (Option Nat)) (ws : List Int), vs = [.ref pl] ∧ H pl = some (.lst [.ref p, .ref q]) ∧ H p = some (.lst (ps.map ov)) ∧ H q = some (.lst (ws.map V.int)) ∧ Tree ps ∧ 1 ≤ ps.length ∧ ps.length ≤ 64 ∧ ws.length = ps.length ∧
  ∀ H' f dx a b, Same H H' → H f = none → FAt C H' f ps ws dx a b → Q (.ref f) H'
/-- of a right forest at f a house h -/
def Hs (C : Addr) (H : Hp) (f : Addr) (ps : List (Option Nat)) : Prop := (∃ ws dx a b, FAt C H f ps ws dx a b) ∧ Tree ps ∧ ps.length ≤ 64
theorem Hs.same {C : Addr} {H H' : Hp} {f : Addr} {ps : List (Option Nat)} (x : Hs C H f ps) (s : Same H H') : Hs C H' f ps := let ⟨⟨ws, dx, a, b, y⟩, z⟩ := x; ⟨⟨ws, dx, a, b, y.same s⟩, z⟩
theorem Hs.bt {C : Addr} {H H' : Hp} {f h : Addr} {ps : List (Option Nat)} {l : List V} (x : Hs C H f ps) (hh : H h = some (.lst l)) (s : Bt h H H') : Hs C H' f ps := let ⟨⟨ws, dx, a, b, y⟩, z⟩ := x; ⟨⟨ws, dx, a, b, y.bt hh s⟩, z⟩
def spMany (C : Addr) : Sp := fun vs H Q _ => ∃ (f : Addr) (ps : List (Option Nat)), vs = [.ref f] ∧ Hs C H f ps ∧ Ret (nv ps.length) H Q
def spNeed (C : Addr) : Sp := fun vs H Q _ => ∃ (f : Addr) (ps : List (Option Nat)) (h : Nat), vs = [.ref f, nv h] ∧ Hs C H f ps ∧ h < ps.length ∧ Ret .non H Q
def spWayUp (C : Addr) : Sp := fun vs H Q _ => ∃ (f : Addr) (ps : List (Option Nat)) (h : Nat), vs = [.ref f, nv h] ∧ Hs C H f ps ∧ h < ps.length ∧ RetL ((up ps h).map nv) H Q
noncomputable def rt (ps : List (Option Nat)) (h : Nat) : Nat := (up ps h).getLastD 0
noncomputable def bel (ps : List (Option Nat)) (h : Nat) : List Nat := (List.range ps.length).filter fun s => decide (h ∈ up ps s)
def spRoot (C : Addr) : Sp := fun vs H Q _ => ∃ (f : Addr) (ps : List (Option Nat)) (h : Nat), vs = [.ref f, nv h] ∧ Hs C H f ps ∧ h < ps.length ∧ Ret (nv (rt ps h)) H Q
def spDepth (C : Addr) : Sp := fun vs H Q _ => ∃ (f : Addr) (ps : List (Option Nat)) (h : Nat), vs = [.ref f, nv h] ∧ Hs C H f ps ∧ h < ps.length ∧ Ret (.int (((up ps h).length : Nat) - 1 : Int)) H Q
def spBelow (C : Addr) : Sp := fun vs H Q _ => ∃ (f : Addr) (ps : List (Option Nat)) (h : Nat), vs = [.ref f, nv h] ∧ Hs C H f ps ∧ h < ps.length ∧ RetT ((bel ps h).map nv) H Q
def spCommon (C : Addr) : Sp := fun vs H Q _ => ∃ (f : Addr) (ps : List (Option Nat)) (h g : Nat), vs = [.ref f, nv h, nv g] ∧ Hs C H f ps ∧ h < ps.length ∧ g < ps.length ∧ Ret (ov (fnd (up ps h) (up ps g))) H Q
def spWay (C : Addr) : Sp := fun vs H Q _ => ∃ (f : Addr) (ps : List (Option Nat)) (h g : Nat), vs = [.ref f, nv h, nv g] ∧ Hs C H f ps ∧ h < ps.length ∧ g < ps.length ∧
  (fnd (up ps h) (up ps g) = none → Ret .non H Q) ∧ ∀ x, fnd (up ps h) (up ps g) = some x → RetT ((wayOf (up ps h) (up ps g) x).map nv) H Q
/-- the law's own walker, over a list of parents -/
def Pl (H : Hp) (p : Addr) (ps : List (Option Nat)) : Prop := H p = some (.lst (ps.map ov)) ∧ Tree ps ∧ ps.length ≤ 64
theorem Pl.same {H H' : Hp} {p : Addr} {ps : List (Option Nat)} (x : Pl H p ps) (s : Same H H') : Pl H' p ps := ⟨s _ _ x.1, x.2⟩
theorem Pl.bt {H H' : Hp} {p h : Addr} {ps : List (Option Nat)} (x : Pl H p ps) (n : p ≠ h) (s : Bt h H H') : Pl H' p ps := ⟨s _ _ n x.1, x.2⟩
def spLUp : Sp := fun vs H Q _ => ∃ (p : Addr) (ps : List (Option Nat)) (h : Nat), vs = [.ref p, nv h] ∧ Pl H p ps ∧ h < ps.length ∧ RetL ((up ps h).map nv) H Q
def spLRoot : Sp := fun vs H Q _ => ∃ (p : Addr) (ps : List (Option Nat)) (h : Nat), vs = [.ref p, nv h] ∧ Pl H p ps ∧ h < ps.length ∧ Ret (nv (rt ps h)) H Q
def spLBelow : Sp := fun vs H Q _ => ∃ (p : Addr) (ps : List (Option Nat)) (h : Nat), vs = [.ref p, nv h] ∧ Pl H p ps ∧ h < ps.length ∧ RetL ((bel ps h).map nv) H Q
def spLCommon : Sp := fun vs H Q _ => ∃ (p : Addr) (ps : List (Option Nat)) (h g : Nat), vs = [.ref p, nv h, nv g] ∧ Pl H p ps ∧ h < ps.length ∧ g < ps.length ∧ Ret (ov (fnd (up ps h) (up ps g))) H Q
def spLWay : Sp := fun vs H Q _ => ∃ (p : Addr) (ps : List (Option Nat)) (h g : Nat), vs = [.ref p, nv h, nv g] ∧ Pl H p ps ∧ h < ps.length ∧ g < ps.length ∧
  (fnd (up ps h) (up ps g) = none → Ret .non H Q) ∧ ∀ x, fnd (up ps h) (up ps g) = some x → RetL ((wayOf (up ps h) (up ps g) x).map nv) H Q
def spHand (K : PySem.W.Frag) : Sp := fun vs H Q _ => ∃ (s : Addr) (ns : List Int), vs = [.ref s] ∧ SqL K H s (ns.map V.int) ∧ ∀ H' h l, Same H H' → H h = none → Hand H' h l → Q (.ref h) H'
def spTake : Sp := fun vs H Q _ => ∃ (h l : Addr) (n : Int), vs = [.ref h, .int n] ∧ Hand H h l ∧ 0 < n ∧ n < 1073741824 ∧ ∀ H' r, Bt h H H' → Hand H' h l → 0 ≤ r → r < n → Q (.int r) H'
def spPick : Sp := fun vs H Q _ => ∃ (h l t : Addr) (xs : List V), vs = [.ref h, .ref t] ∧ Hand H h l ∧ H t = some (.lst xs) ∧ t ≠ h ∧ 0 < xs.length ∧ xs.length ≤ 100000 ∧ ∀ H' x, Bt h H H' → Hand H' h l → x ∈ xs → Q x H'
def spValue : Sp := fun vs H Q _ => ∃ (h l : Addr), vs = [.ref h] ∧ Hand H h l ∧ ∀ H' (i : Int), Bt h H H' → Hand H' h l → Q (.int i) H'
def spParents : Sp := fun vs H Q _ => ∃ (h l : Addr) (n : Nat), vs = [.ref h, nv n] ∧ Hand H h l ∧ 1 ≤ n ∧ n ≤ 64 ∧ ∀ H' p ps, Bt h H H' → Hand H' h l → H p = none → H' p = some (.lst (List.map ov ps)) → ps.length = n → Tree ps → Q (.ref p) H'
def spPlain : Sp := fun vs H Q _ => ∃ (h l t : Addr) (ss : List Nat), vs = [.ref h, .ref t] ∧ Hand H h l ∧ H t = some (.lst (ss.map nv)) ∧ t ≠ h ∧ 0 < ss.length ∧ ss.length ≤ 100 ∧ (∀ s ∈ ss, 1 ≤ s ∧ s ≤ 64) ∧
  ∀ H' pl p q ps ws, Bt h H H' → Hand H' h l → H pl = none → H p = none → H q = none → H' pl = some (.lst [.ref p, .ref q]) → H' p = some (.lst (List.map ov ps)) → H' q = some (.lst (List.map V.int ws)) → Tree ps → 1 ≤ ps.length → ps.length ≤ 64 → ws.length = ps.length → Q (.ref pl) H'
/-- alike, to a depth -/
def EqS : Nat → Hp → V → V → Prop
  | 0, _, _, _ => False
  | d + 1, H, x, y => (x = .non ∧ y = .non) ∨ (∃ i, x = .int i ∧ y = .int i) ∨ (∃ i, x = .str i ∧ y = .str i) ∨ (∃ i, x = .bl i ∧ y = .bl i) ∨ ∃ a b xs ys, x = .ref a ∧ y = .ref b ∧ H a = some (.tup xs) ∧ H b = some (.tup ys) ∧ xs.length = ys.length ∧ ∀ (i : Nat) (x y : V), xs[i]? = some x → ys[i]? = some y → EqS d H x y
theorem EqS.same {H H' : Hp} (s : Same H H') : ∀ {d : Nat} {x y : V}, EqS d H x y → EqS d H' x y
  | 0, _, _, h => h.elim
  | d + 1, x, y, h => by
    rcases h with h | h | h | h | ⟨a, b, xs, ys, h1, h2, h3, h4, h5, h6⟩
    · exact .inl h
    · exact .inr (.inl h)
    · exact .inr (.inr (.inl h))
    · exact .inr (.inr (.inr (.inl h)))
    · exact .inr (.inr (.inr (.inr ⟨a, b, xs, ys, h1, h2, s _ _ h3, s _ _ h4, h5, fun i x y q r => (h6 i x y q r).same s⟩)))
theorem eqs_tup {H : Hp} {d : Nat} {t1 t2 : Addr} {xs : List V} (e1 : H t1 = some (.tup xs)) (e2 : H t2 = some (.tup xs)) (k : ∀ x ∈ xs, EqS d H x x) : EqS (d + 1) H (.ref t1) (.ref t2) :=
  .inr (.inr (.inr (.inr ⟨t1, t2, xs, xs, rfl, rfl, e1, e2, rfl, fun i x y hx hy => by
    rw [hx] at hy
    cases hy
    exact k x (List.mem_of_getElem? hx)⟩)))
theorem eqs_tups {H : Hp} {d : Nat} {t1 t2 : Addr} {xs ys : List V} (e1 : H t1 = some (.tup xs)) (e2 : H t2 = some (.tup ys)) (hl : xs.length = ys.length) (k : ∀ (i : Nat) (x y : V), xs[i]? = some x → ys[i]? = some y → EqS d H x y) : EqS (d + 1) H (.ref t1) (.ref t2) :=
  .inr (.inr (.inr (.inr ⟨t1, t2, xs, ys, rfl, rfl, e1, e2, hl, k⟩)))
theorem eqs_flat {H : Hp} {d : Nat} {a b : Addr} {xs : List V} (ha : H a = some (.tup xs)) (hb : H b = some (.tup xs)) (h : ∀ x ∈ xs, x = .non ∨ ∃ i, x = .int i) : EqS (d + 2) H (.ref a) (.ref b) :=
  eqs_tup ha hb fun x hx => by
    rcases h x hx with rfl | ⟨j, rfl⟩
    · exact .inl ⟨rfl, rfl⟩
    · exact .inr (.inl ⟨j, rfl, rfl⟩)
theorem flat_nv2 (l : List Nat) : ∀ x ∈ l.map nv, x = V.non ∨ ∃ i, x = V.int i := fun x hx => by
  obtain ⟨y, _, rfl⟩ := List.mem_map.mp hx
  exact .inr ⟨_, rfl⟩
theorem flat_ov2 (l : List (Option Nat)) : ∀ x ∈ l.map ov, x = V.non ∨ ∃ i, x = V.int i := fun x hx => by
  obtain ⟨y, _, rfl⟩ := List.mem_map.mp hx
  cases y with
  | none => exact .inl rfl
  | some k => exact .inr ⟨_, rfl⟩
theorem flat_int2 (l : List Int) : ∀ x ∈ l.map V.int, x = V.non ∨ ∃ i, x = V.int i := fun x hx => by
  obtain ⟨y, _, rfl⟩ := List.mem_map.mp hx
  exact .inr ⟨_, rfl⟩
theorem rt_mem {ps : List (Option Nat)} (TR : Tree ps) {h : Nat} (hl : h < ps.length) : rt ps h ∈ up ps h := by
  obtain ⟨r, e, _⟩ := (TR h hl).1.last
  unfold rt
  rw [List.getLastD_eq_getLast?, e]
  exact List.mem_of_getLast? e
theorem rt_lt {ps : List (Option Nat)} (TR : Tree ps) {h : Nat} (hl : h < ps.length) : rt ps h < ps.length := (TR h hl).1.lt _ (rt_mem TR hl)
theorem bel_mem {ps : List (Option Nat)} {h x : Nat} : x ∈ bel ps h ↔ x < ps.length ∧ h ∈ up ps x := by
  unfold bel
  rw [List.mem_filter, List.mem_range, decide_eq_true_iff]
theorem bel_len (ps : List (Option Nat)) (h : Nat) : (bel ps h).length ≤ ps.length := by
  unfold bel
  exact Nat.le_trans (List.length_filter_le _ _) (by rw [List.length_range]; exact Nat.le_refl _)
def spSame (d : Nat) : Sp := fun vs H Q _ => ∃ x y, vs = [x, y] ∧ EqS d H x y ∧ Ret (.bl true) H Q
def spLaw (K : PySem.W.Frag) : Sp := fun vs H Q _ => ∃ (a : Addr) (ns : List Int), vs = [.ref a] ∧ SqL K H a (ns.map V.int) ∧ ns.length ≤ 63 ∧ ∀ H', Q (.bl true) H'
end W2
namespace W2
/-! ### links, cuts, turns: still a forest -/
theorem ch_set_ne {ps : List (Option Nat)} {h : Nat} {v : Option Nat} {x : Nat} {l : List Nat} (c : Ch ps x l) : h ∉ l → Ch (ps.set h v) x l := by
  induction c with
  | @root y e =>
    intro n
    refine .root ?_
    rw [List.getElem?_set_ne (by simpa using n)]
    exact e
  | @step y p l e c ih =>
    intro n
    have n1 : h ≠ y ∧ h ∉ l := by simpa using n
    exact .step (by rw [List.getElem?_set_ne n1.1]; exact e) (ih n1.2)
theorem up_ch {ps : List (Option Nat)} (TR : Tree ps) {h : Nat} (hl : h < ps.length) : Ch ps h (up ps h) := (TR h hl).1
theorem rt_of {ps : List (Option Nat)} {h r : Nat} {l : List Nat} (c : Ch ps h l) (e : l.getLast? = some r) : rt ps h = r := by
  unfold rt
  rw [up_of c, List.getLastD_eq_getLast?, e]
  rfl
theorem root_up {ps : List (Option Nat)} {h : Nat} (e : ps[h]? = some none) : up ps h = [h] := up_of (.root e)
theorem ch_root_mem {ps : List (Option Nat)} {x h : Nat} {l : List Nat} (c : Ch ps x l) (hm : h ∈ l) (e : ps[h]? = some none) : l.getLast? = some h := by
  obtain ⟨pre, post, rfl⟩ := List.append_of_mem hm
  have d := (Ch.tail c).det (.root e)
  have : post = [] := by simpa using d
  subst this
  simp
theorem set_len {ps : List (Option Nat)} {h : Nat} {v : Option Nat} : (ps.set h v).length = ps.length := List.length_set
theorem tree_link {ps : List (Option Nat)} (TR : Tree ps) {h o : Nat} (hl : h < ps.length) (ol : o < ps.length) (e : ps[h]? = some none) (n : rt ps o ≠ h) : Tree (ps.set h (some o)) := by
  have co := up_ch TR ol
  have no : h ∉ up ps o := fun hm => n (rt_of co (ch_root_mem co hm e))
  have co' : Ch (ps.set h (some o)) o (up ps o) := ch_set_ne co no
  have ch' : Ch (ps.set h (some o)) h (h :: up ps o) := .step (by rw [List.getElem?_set_self hl]) co'
  refine tree_iff.mpr fun x hx => ?_
  rw [set_len] at hx
  have c := up_ch TR hx
  generalize up ps x = l at c
  induction c with
  | @root y e2 =>
    by_cases q : h = y
    · subst q
      exact ⟨_, ch'⟩
    · exact ⟨_, .root (by rw [List.getElem?_set_ne q]; exact e2)⟩
  | @step y p l e2 c ih =>
    by_cases q : h = y
    · subst q
      exact ⟨_, ch'⟩
    · obtain ⟨l', c'⟩ := ih (by have := c.head; obtain ⟨r, rfl⟩ := this; exact c.lt _ (by simp))
      exact ⟨_, .step (by rw [List.getElem?_set_ne q]; exact e2) c'⟩
theorem tree_cut {ps : List (Option Nat)} (TR : Tree ps) {h : Nat} (hl : h < ps.length) : Tree (ps.set h none) := by
  have ch' : Ch (ps.set h none) h [h] := .root (by rw [List.getElem?_set_self hl])
  refine tree_iff.mpr fun x hx => ?_
  rw [set_len] at hx
  have c := up_ch TR hx
  generalize up ps x = l at c
  induction c with
  | @root y e2 =>
    by_cases q : h = y
    · subst q
      exact ⟨_, ch'⟩
    · exact ⟨_, .root (by rw [List.getElem?_set_ne q]; exact e2)⟩
  | @step y p l e2 c ih =>
    by_cases q : h = y
    · subst q
      exact ⟨_, ch'⟩
    · obtain ⟨l', c'⟩ := ih (by have := c.head; obtain ⟨r, rfl⟩ := this; exact c.lt _ (by simp))
      exact ⟨_, .step (by rw [List.getElem?_set_ne q]; exact e2) c'⟩
/-- k steps of the turning of the way l -/
def turnAt (ps : List (Option Nat)) (l : List Nat) : Nat → List (Option Nat)
  | 0 => ps.set (l.getD 0 0) none
  | k + 1 => (turnAt ps l k).set (l.getD (k + 1) 0) (some (l.getD k 0))
theorem turnAt_len (ps : List (Option Nat)) (l : List Nat) : ∀ k, (turnAt ps l k).length = ps.length
  | 0 => List.length_set
  | k + 1 => by show ((turnAt ps l k).set _ _).length = _; rw [List.length_set, turnAt_len ps l k]
theorem getD_of {l : List Nat} {i : Nat} (h : i < l.length) : l[i]? = some (l.getD i 0) := by
  rw [List.getD_eq_getElem?_getD, List.getElem?_eq_getElem h]
  rfl
theorem turnAt_out {ps : List (Option Nat)} {l : List Nat} {x : Nat} (n : x ∉ l) : ∀ {k : Nat}, k < l.length → (turnAt ps l k)[x]? = ps[x]?
  | 0, h => by
    show (ps.set _ _)[x]? = _
    rw [List.getElem?_set_ne]
    intro e
    exact n (e ▸ List.mem_of_getElem? (getD_of h))
  | k + 1, h => by
    show ((turnAt ps l k).set _ _)[x]? = _
    rw [List.getElem?_set_ne, turnAt_out n (by omega)]
    intro e
    exact n (e ▸ List.mem_of_getElem? (getD_of h))
theorem nd_getD {l : List Nat} (nd : l.Nodup) {i j : Nat} (hi : i < l.length) (hj : j < l.length) (e : l.getD i 0 = l.getD j 0) : i = j := by
  have h1 := getD_of hi
  have h2 := getD_of hj
  rw [e] at h1
  have h3 := (List.getElem?_eq_some_iff.mp h1).2
  have h4 := (List.getElem?_eq_some_iff.mp h2).2
  rcases Nat.lt_trichotomy i j with q | q | q
  · exact absurd (h3.trans h4.symm) (List.pairwise_iff_getElem.mp nd i j hi hj q)
  · exact q
  · exact absurd (h4.trans h3.symm) (List.pairwise_iff_getElem.mp nd j i hj hi q)
theorem turnAt_in {ps : List (Option Nat)} {l : List Nat} (nd : l.Nodup) (lt : ∀ x ∈ l, x < ps.length) : ∀ {k : Nat}, k < l.length → ∀ j, j ≤ k → (turnAt ps l k)[l.getD j 0]? = some (if j = 0 then none else some (l.getD (j - 1) 0))
  | 0, h, j, hj => by
    have : j = 0 := by omega
    subst this
    show (ps.set _ _)[_]? = _
    rw [List.getElem?_set_self (lt _ (List.mem_of_getElem? (getD_of h)))]
    rfl
  | k + 1, h, j, hj => by
    show ((turnAt ps l k).set _ _)[_]? = _
    by_cases e : j = k + 1
    · subst e
      rw [List.getElem?_set_self (by rw [turnAt_len]; exact lt _ (List.mem_of_getElem? (getD_of h)))]
      simp
    · rw [List.getElem?_set_ne (fun q => e (nd_getD nd h (by omega) q).symm)]
      exact turnAt_in nd lt (by omega) j (by omega)
theorem tree_turn {ps : List (Option Nat)} (TR : Tree ps) {h : Nat} (hl : h < ps.length) : Tree (turnAt ps (up ps h) ((up ps h).length - 1)) := by
  have c := up_ch TR hl
  have nd := c.nodup
  have lt := c.lt
  obtain ⟨rest, hd⟩ := c.head
  have l0 : 0 < (up ps h).length := by rw [hd]; simp
  have hk : (up ps h).length - 1 < (up ps h).length := by omega
  have onl : ∀ j, j < (up ps h).length → ∃ l', Ch (turnAt ps (up ps h) ((up ps h).length - 1)) ((up ps h).getD j 0) l' := by
    intro j
    induction j with
    | zero => exact fun hj => ⟨_, .root (by rw [turnAt_in nd lt hk 0 (by omega)]; rfl)⟩
    | succ j ih =>
      intro hj
      obtain ⟨l', c'⟩ := ih (by omega)
      exact ⟨_, .step (by rw [turnAt_in nd lt hk (j + 1) (by omega)]; simp) c'⟩
  have onm : ∀ x ∈ up ps h, ∃ l', Ch (turnAt ps (up ps h) ((up ps h).length - 1)) x l' := fun x hx => by
    obtain ⟨j, hj, e⟩ := List.getElem_of_mem hx
    have e2 : (up ps h).getD j 0 = x := by rw [List.getD_eq_getElem?_getD, List.getElem?_eq_getElem hj, e]; rfl
    have := onl j hj
    rw [e2] at this
    exact this
  refine tree_iff.mpr fun x hx => ?_
  rw [turnAt_len] at hx
  have cx := up_ch TR hx
  generalize up ps x = lx at cx
  induction cx with
  | @root y e2 =>
    by_cases q : y ∈ up ps h
    · exact onm y q
    · exact ⟨_, .root (by rw [turnAt_out q hk]; exact e2)⟩
  | @step y p l e2 c2 ih =>
    by_cases q : y ∈ up ps h
    · exact onm y q
    · obtain ⟨l', c'⟩ := ih (by have := c2.head; obtain ⟨r, rfl⟩ := this; exact c2.lt _ (by simp))
      exact ⟨_, .step (by rw [turnAt_out q hk]; exact e2) c'⟩
/-! ### roots and ways -/
theorem rt_last {ps : List (Option Nat)} (TR : Tree ps) {h : Nat} (hl : h < ps.length) : (up ps h).getLast? = some (rt ps h) ∧ ps[rt ps h]? = some none := by
  obtain ⟨r, e, e2⟩ := (up_ch TR hl).last
  rw [rt_of (up_ch TR hl) e]
  exact ⟨e, e2⟩
theorem fnd_iff {ps : List (Option Nat)} (TR : Tree ps) {h o : Nat} (hl : h < ps.length) (ol : o < ps.length) : (∃ x, fnd (up ps h) (up ps o) = some x) ↔ rt ps h = rt ps o := by
  have ch := up_ch TR hl
  have co := up_ch TR ol
  constructor
  · rintro ⟨x, e⟩
    obtain ⟨xm, pre, post, el, _⟩ := fnd_split e
    obtain ⟨pre2, post2, em⟩ := List.append_of_mem xm
    have c1 := ch
    have c2 := co
    rw [el] at c1
    rw [em] at c2
    have q := (Ch.tail c1).det (Ch.tail c2)
    have h1 := (rt_last TR hl).1
    have h2 := (rt_last TR ol).1
    rw [el, List.getLast?_append, List.getLast?_cons] at h1
    rw [em, List.getLast?_append, List.getLast?_cons] at h2
    have h3 : some (post.getLast?.getD x) = some (rt ps h) := by simpa using h1
    have h4 : some (post2.getLast?.getD x) = some (rt ps o) := by simpa using h2
    have h5 : post = post2 := (List.cons.inj q).2
    rw [h5] at h3
    exact Option.some.inj (h3.symm.trans h4)
  · intro e
    have m1 : rt ps h ∈ up ps h := List.mem_of_getLast? (rt_last TR hl).1
    have m2 : rt ps h ∈ up ps o := e ▸ List.mem_of_getLast? (rt_last TR ol).1
    cases q : fnd (up ps h) (up ps o) with
    | some x => exact ⟨x, rfl⟩
    | none =>
      unfold fnd at q
      rw [List.find?_eq_none] at q
      exact absurd (decide_eq_true m2) (q _ m1)
theorem way_root {ps : List (Option Nat)} (TR : Tree ps) {h : Nat} (hl : h < ps.length) : fnd (up ps h) (up ps (rt ps h)) = some (rt ps h) ∧ wayOf (up ps h) (up ps (rt ps h)) (rt ps h) = up ps h := by
  have c := up_ch TR hl
  obtain ⟨e1, e2⟩ := rt_last TR hl
  rw [root_up e2]
  have m : rt ps h ∈ up ps h := List.mem_of_getLast? e1
  obtain ⟨ini, ei⟩ : ∃ ini, up ps h = ini ++ [rt ps h] := ⟨(up ps h).dropLast, by
    have hne : up ps h ≠ [] := List.ne_nil_of_mem m
    have := List.dropLast_concat_getLast hne
    rw [List.getLast?_eq_some_getLast hne] at e1
    rw [← Option.some.inj e1]
    exact this.symm⟩
  have nd := c.nodup
  have ni : rt ps h ∉ ini := fun q => by
    rw [ei] at nd
    exact (List.nodup_append.mp nd).2.2 _ q _ (by simp) rfl
  refine ⟨?_, ?_⟩
  · refine fnd_some (i := ini.length) (by rw [ei]; simp) (by simp) fun j y hj hy hm => ?_
    have hm2 : y = rt ps h := by simpa using hm
    subst hm2
    rw [ei, List.getElem?_append_left hj] at hy
    exact ni (List.mem_of_getElem? hy)
  · unfold wayOf
    have i1 : (up ps h).idxOf (rt ps h) = ini.length := by
      generalize rt ps h = r at ei ni
      rw [ei, List.idxOf_append, if_neg ni]
      simp
    have i2 : [rt ps h].idxOf (rt ps h) = 0 := by simp
    rw [i1, i2]
    generalize rt ps h = r at ei ni
    rw [ei]
    simp
end W2
namespace W2
open PySem PySem.Spec PyProof.Rows L2
theorem rIxL_any {K : PySem.W.Frag} {t : Addr} {xs : List V} {r : Int} {H : Hp} {Q : VK} (ht : H t = some (.lst xs)) (h0 : 0 ≤ r) (h1 : r < xs.length) (k : ∀ v ∈ xs, Q v H) : rIxL K (.ref t) (.int r) H Q := by
  have hr : r.toNat < xs.length := by omega
  exact ⟨t, _, _, _, rfl, rfl, SqL.of ht, at_of (by omega) (List.getElem?_eq_getElem hr), k _ (List.getElem_mem hr)⟩
theorem any_ov {C h : Addr} {H : Hp} (o : Option Nat) : Any C h H (ov o) := by
  cases o with
  | none => exact .non
  | some k => exact .int _
theorem Thing.go {C h l : Addr} {H H' : Hp} {x : V} (t : Thing C h H x) (hh : Hand H h l) (s : Bt h H H') : Thing C h H' x := let ⟨_, e⟩ := hh.lst; t.bt e s
theorem Hand.nn {H : Hp} {h l x : Addr} (hh : Hand H h l) (hx : H x = none) : x ≠ h := let ⟨_, e⟩ := hh.lst; (ne_of_none e hx).symm
theorem tE_ok {σ : L2.St} {H : Hp} {Q : VK} (k : ∀ H' t, L2.Same H H' → H' t = some (.tup []) → Q (.ref t) H') : tTup tNil σ H Q := ⟨small (by show 0 ≤ 100000; decide), fun t ht => k _ t (same_upd ht) upd_same⟩
theorem t1_ok {v : V} {σ : L2.St} {H : Hp} {Q : VK} (k : ∀ H' t, L2.Same H H' → H' t = some (.tup [v]) → Q (.ref t) H') : tTup (tCons (tC v) tNil) σ H Q := ⟨small (by show 1 ≤ 100000; decide), fun t ht => k _ t (same_upd ht) upd_same⟩
def spOdd (C : Addr) : Sp := fun vs H Q _ => ∃ (h l : Addr), vs = [.ref h] ∧ Hand H h l ∧ ∀ H' x, Bt h H H' → Hand H' h l → Thing C h H' x → Q x H'
/-! ### a def that raises -/
structure CalX (P : Program) (w : World) (K : PySem.W.Frag) (mg : Str → Option Value) (base : Heap) (k : Nat) (x : Str) (ps : List Str) (sp : Sp) : Prop where
  ex : ∃ f fd, FnOk P w K mg base (L2.CX P w) k f fd ps sp ∧ mg x = some (.ref f) ∧ PySem.W.keepIn K (.ref f) = true ∧ Binds K fd ps []
theorem Def.calX {P : Program} {w : World} {K : PySem.W.Frag} {mg : Str → Option Value} {base : Heap} {k : Nat} {x : Str} {st : Stmt} {N ps : List Str} {sp : Sp} (D : Def K mg x st ps) (S : FnScope N ps (defScope st)) (len : ∀ vs H Q E, sp vs H Q E → vs.length = ps.length)
    (hbody : ∀ (f : Addr) (cdv : Value) (A : Around) (outer : List Env) (s : Shared) (H : Hp) (vs : List V) (Q : VK) (E : XK), Room k (A.deeper (envOfC x (defScope st) s.heap.objs.size f cdv)) → sp vs H Q E →
      ∃ t, PSs (cxOf (L2.CX P w) P w K mg base N x (defScope st) f cdv A outer s H E) (defBody st) t ∧ t { nx := fun _ H' => Q .non H', rt := Q } (start N vs) H) : CalX P w K mg base (k + 1) x ps sp := by
  obtain ⟨f, fd, F, hm, b⟩ := D.ex
  exact ⟨f, fd, F.okX S len (hbody f), hm, F.kp, b⟩
section
variable {X : Cx} {k j : Nat} {x : Str} {ps : List Str} {sp : Sp} {e : Expr} {es : List Expr} {t : TA} {p pos : Pos} {W : WX}
theorem pcalS (C : CalX X.prog X.w X.K X.mg X.base k x ps sp) (hr : Room j X.A) (hk : k ≤ j) (hg : Gl X x) (tk : Takes X W) (ha : PA X (e :: es) t) (hdb : (x == ("__debug__" : Str)) = false := by decide) (he : starEach (e :: es) X.env = (false, eval e X.env) :: starEach es X.env := by rfl) (hpl : (backTo pos (starEach es X.env)).any (·.1) = false := by rfl) :
    PE X (.Call (.Name x p) (e :: es) [] pos) (tCallS sp (WE W) t) := by
  obtain ⟨f, fd, F, hm, kp, b⟩ := C.ex
  exact pe_callS F (hr.mono hk) hg hm kp b (fun σ => passAt tk σ) ha hdb he hpl
end
theorem Cal.mono {P : Program} {w : World} {K : PySem.W.Frag} {mg : Str → Option Value} {base : Heap} {k : Nat} {x : Str} {ps : List Str} {sp sp' : Sp} (C : Cal P w K mg base k x ps sp) (i : ∀ vs H Q E, sp' vs H Q E → sp vs H Q E) : Cal P w K mg base k x ps sp' := by
  obtain ⟨f, fd, F, r⟩ := C.ex
  exact ⟨f, fd, ⟨fun vs H Q E h => F.len vs H Q E (i vs H Q E h), fun A outer s H args us vs Q E h1 h2 h3 h4 h => F.run A outer s H args us vs Q E h1 h2 h3 h4 (i vs H Q E h)⟩, r⟩
/-! ### FORMS -/
structure ForD (K : PySem.W.Frag) (w : World) (mg : Str → Option Value) (fF t1 t2 t3 t4 t5 : Addr) : Prop where
  g : mg "FORMS" = some (.ref fF)
  D : KD K w fF [("link", .ref t1), ("cut", .ref t2), ("turn", .ref t3), ("put", .ref t4), ("add", .ref t5)]
  s1 : ∀ H, SqT K H t1 [.str "house", .str "house"]
  s2 : ∀ H, SqT K H t2 [.str "house"]
  s3 : ∀ H, SqT K H t3 [.str "house"]
  s4 : ∀ H, SqT K H t4 [.str "house", .str "integer"]
  s5 : ∀ H, SqT K H t5 [.str "house", .str "house", .str "integer"]
/-! ### deeds -/
inductive Deed where
  | link (h o : Nat)
  | cut (h : Nat)
  | turn (h : Nat)
  | put (h : Nat) (v : Int)
  | add (h o : Nat) (v : Int)
def enc : Deed → List V
  | .link h o => [.str "link", nv h, nv o]
  | .cut h => [.str "cut", nv h]
  | .turn h => [.str "turn", nv h]
  | .put h v => [.str "put", nv h, .int v]
  | .add h o v => [.str "add", nv h, nv o, .int v]
def okD (n : Nat) : Deed → Prop
  | .link h o => h < n ∧ o < n
  | .cut h => h < n
  | .turn h => h < n
  | .put h _ => h < n
  | .add h o _ => h < n ∧ o < n
def canD (ps : List (Option Nat)) : Deed → Prop
  | .link h o => ps[h]? = some none ∧ rt ps o ≠ h
  | .cut h => ps[h]? ≠ some none
  | .add h o _ => rt ps h = rt ps o
  | _ => True
noncomputable def doP (ps : List (Option Nat)) : Deed → List (Option Nat)
  | .link h o => ps.set h (some o)
  | .cut h => ps.set h none
  | .turn h => turnAt ps (up ps h) ((up ps h).length - 1)
  | _ => ps
def addW (ws : List Int) (v : Int) : List Nat → List Int
  | [] => ws
  | x :: l => addW (ws.set x (ws.getD x 0 + v)) v l
theorem addW_len (v : Int) : ∀ (l : List Nat) (ws : List Int), (addW ws v l).length = ws.length
  | [], _ => rfl
  | x :: l, ws => by
    show (addW (ws.set x _) v l).length = _
    rw [addW_len v l, List.length_set]
theorem addW_snoc (v : Int) : ∀ (l : List Nat) (ws : List Int) (x : Nat), addW ws v (l ++ [x]) = (addW ws v l).set x ((addW ws v l).getD x 0 + v)
  | [], _, _ => rfl
  | y :: l, ws, x => addW_snoc v l (ws.set y (ws.getD y 0 + v)) x
noncomputable def wayD (ps : List (Option Nat)) (h o : Nat) : List Nat := match fnd (up ps h) (up ps o) with
  | some x => wayOf (up ps h) (up ps o) x
  | none => []
noncomputable def doW (ps : List (Option Nat)) (ws : List Int) : Deed → List Int
  | .put h v => ws.set h v
  | .add h o v => addW ws v (wayD ps h o)
  | _ => ws
theorem doP_len (ps : List (Option Nat)) (d : Deed) : (doP ps d).length = ps.length := by
  cases d <;> first | exact List.length_set | exact turnAt_len _ _ _ | rfl
theorem doW_len (ps : List (Option Nat)) (ws : List Int) (d : Deed) : (doW ps ws d).length = ws.length := by
  cases d <;> first | exact List.length_set | exact addW_len _ _ _ | rfl
theorem do_tree {ps : List (Option Nat)} (TR : Tree ps) {d : Deed} (o : okD ps.length d) (c : canD ps d) : Tree (doP ps d) := by
  cases d with
  | link h o' => exact tree_link TR o.1 o.2 c.1 c.2
  | cut h => exact tree_cut TR o
  | turn h => exact tree_turn TR o
  | put h v => exact TR
  | add h o' v => exact TR
theorem way_mem {ps : List (Option Nat)} (TR : Tree ps) {h o : Nat} (hl : h < ps.length) (ol : o < ps.length) : ∀ x ∈ wayD ps h o, x < ps.length := by
  intro x hx
  unfold wayD at hx
  split at hx
  · rename_i z e
    unfold wayOf at hx
    have c1 := up_ch TR hl
    have c2 := up_ch TR ol
    rcases List.mem_append.mp hx with hx | hx
    · rcases List.mem_append.mp hx with hx | hx
      · exact c1.lt _ (List.mem_of_mem_take hx)
      · rw [List.mem_singleton] at hx
        subst hx
        exact c2.lt _ (fnd_split e).1
    · exact c2.lt _ (List.mem_of_mem_take (List.mem_reverse.mp hx))
  · cases hx
/-- a deed, as a tuple -/
def DeedAt (H : Hp) (x : V) (d : Deed) : Prop := ∃ a, x = .ref a ∧ H a = some (.tup (enc d))
def FormAt (H : Hp) (x : V) (n : Nat) (d : Deed) : Prop := DeedAt H x d ∧ okD n d
theorem DeedAt.same {H H' : Hp} {x : V} {d : Deed} (e : DeedAt H x d) (s : L2.Same H H') : DeedAt H' x d := let ⟨a, e1, e2⟩ := e; ⟨a, e1, s _ _ e2⟩
theorem DeedAt.bt {H H' : Hp} {h : Addr} {l : List V} {x : V} {d : Deed} (e : DeedAt H x d) (hh : H h = some (.lst l)) (s : Bt h H H') : DeedAt H' x d := let ⟨a, e1, e2⟩ := e; ⟨a, e1, s _ _ (ne_of e2 hh (fun z => nomatch z)) e2⟩
theorem enc_any {C h : Addr} {H : Hp} (d : Deed) : ∀ y ∈ enc d, Any C h H y := by
  intro y hy
  cases d with
  | link a b =>
    simp only [enc, List.mem_cons, List.not_mem_nil, or_false] at hy
    rcases hy with rfl | rfl | rfl
    · exact .str _
    · exact .int _
    · exact .int _
  | cut a =>
    simp only [enc, List.mem_cons, List.not_mem_nil, or_false] at hy
    rcases hy with rfl | rfl
    · exact .str _
    · exact .int _
  | turn a =>
    simp only [enc, List.mem_cons, List.not_mem_nil, or_false] at hy
    rcases hy with rfl | rfl
    · exact .str _
    · exact .int _
  | put a v =>
    simp only [enc, List.mem_cons, List.not_mem_nil, or_false] at hy
    rcases hy with rfl | rfl | rfl
    · exact .str _
    · exact .int _
    · exact .int _
  | add a b v =>
    simp only [enc, List.mem_cons, List.not_mem_nil, or_false] at hy
    rcases hy with rfl | rfl | rfl | rfl
    · exact .str _
    · exact .int _
    · exact .int _
    · exact .int _
theorem DeedAt.thing {C h : Addr} {H : Hp} {x : V} {d : Deed} (e : DeedAt H x d) : Thing C h H x := by
  obtain ⟨a, rfl, e⟩ := e
  exact .tup e (enc_any d)
theorem enc_inj {d d' : Deed} (e : enc d = enc d') : d = d' := by
  cases d <;> cases d' <;> simp [enc] at e
  all_goals first | exact absurd e.1 (by decide +kernel) | skip
  all_goals first
    | (obtain ⟨e1, e2, e3⟩ := e; subst e3; congr 1 <;> omega)
    | (obtain ⟨e1, e2⟩ := e; subst e2; congr 1 <;> omega)
    | (obtain ⟨e1, e2⟩ := e; congr 1 <;> omega)
    | (congr 1; omega)
theorem no_form {C h : Addr} {H H' : Hp} {x : V} {n : Nat} (t : Thing C h H x) (s : L2.Same H H') {p : Deed → Prop} (no : ¬ ∃ d, FormAt H x n d ∧ p d) : ¬ ∃ d, FormAt H' x n d ∧ p d := fun ⟨d, ⟨⟨a, e, e2⟩, o⟩, c⟩ => by
  subst e
  exact no ⟨d, ⟨⟨a, rfl, t.any.tup_back (fun b o _ q => s b o q) (fun ys q => s _ _ q) e2⟩, o⟩, c⟩
/-! ### forests in the heap -/
def Fo (C : Addr) (H : Hp) (f : Addr) (ps : List (Option Nat)) (ws : List Int) : Prop := ∃ dx a b, FAt C H f ps ws dx a b
theorem Fo.same {C : Addr} {H H' : Hp} {f : Addr} {ps : List (Option Nat)} {ws : List Int} (x : Fo C H f ps ws) (s : L2.Same H H') : Fo C H' f ps ws := let ⟨dx, a, b, y⟩ := x; ⟨dx, a, b, y.same s⟩
structure Frt (C : Addr) (H : Hp) (f : Addr) (ps : List (Option Nat)) (ws : List Int) : Prop where
  F : Fo C H f ps ws
  TR : Tree ps
  n1 : 1 ≤ ps.length
  n64 : ps.length ≤ 64
  lw : ws.length = ps.length
theorem Frt.same {C : Addr} {H H' : Hp} {f : Addr} {ps : List (Option Nat)} {ws : List Int} (x : Frt C H f ps ws) (s : L2.Same H H') : Frt C H' f ps ws := ⟨x.F.same s, x.TR, x.n1, x.n64, x.lw⟩
theorem Frt.bt {C : Addr} {H H' : Hp} {f h : Addr} {ps : List (Option Nat)} {ws : List Int} {l : List V} (x : Frt C H f ps ws) (hh : H h = some (.lst l)) (s : Bt h H H') : Frt C H' f ps ws := ⟨(let ⟨dx, a, b, y⟩ := x.F; ⟨dx, a, b, y.bt hh s⟩), x.TR, x.n1, x.n64, x.lw⟩
theorem Frt.hs {C : Addr} {H : Hp} {f : Addr} {ps : List (Option Nat)} {ws : List Int} (x : Frt C H f ps ws) : Hs C H f ps := ⟨⟨ws, x.F⟩, x.TR, x.n64⟩
theorem Frt.next {C : Addr} {H H' : Hp} {f g : Addr} {ps : List (Option Nat)} {ws : List Int} {d : Deed} (x : Frt C H f ps ws) (o : okD ps.length d) (c : canD ps d) (F : Fo C H' g (doP ps d) (doW ps ws d)) : Frt C H' g (doP ps d) (doW ps ws d) :=
  ⟨F, do_tree x.TR o c, by rw [doP_len]; exact x.n1, by rw [doP_len]; exact x.n64, by rw [doP_len, doW_len]; exact x.lw⟩
/-- parents and worths as the law keeps them -/
structure PlA (H : Hp) (pl p q : Addr) (ps : List (Option Nat)) (ws : List Int) : Prop where
  o : H pl = some (.lst [.ref p, .ref q])
  p : H p = some (.lst (ps.map ov))
  q : H q = some (.lst (ws.map V.int))
  TR : Tree ps
  n1 : 1 ≤ ps.length
  n64 : ps.length ≤ 64
  lw : ws.length = ps.length
theorem PlA.same {H H' : Hp} {pl p q : Addr} {ps : List (Option Nat)} {ws : List Int} (x : PlA H pl p q ps ws) (s : L2.Same H H') : PlA H' pl p q ps ws := ⟨s _ _ x.o, s _ _ x.p, s _ _ x.q, x.TR, x.n1, x.n64, x.lw⟩
theorem PlA.bt {H H' : Hp} {pl p q h : Addr} {ps : List (Option Nat)} {ws : List Int} (x : PlA H pl p q ps ws) (n1 : pl ≠ h) (n2 : p ≠ h) (n3 : q ≠ h) (s : Bt h H H') : PlA H' pl p q ps ws := ⟨s _ _ n1 x.o, s _ _ n2 x.p, s _ _ n3 x.q, x.TR, x.n1, x.n64, x.lw⟩
theorem PlA.pl' {H : Hp} {pl p q : Addr} {ps : List (Option Nat)} {ws : List Int} (x : PlA H pl p q ps ws) : Pl H p ps := ⟨x.p, x.TR, x.n64⟩
/-! ### promises -/
def RetU (xs : List V) (H : Hp) (Q : VK) : Prop := ∀ (H' : Hp) (p : Addr), L2.Same H H' → H' p = some (.tup xs) → Q (.ref p) H'
def spWithItem : Sp := fun vs H Q _ => ∃ (r : Addr) (xs : List V) (i : Nat) (y : V), vs = [.ref r, nv i, y] ∧ H r = some (.tup xs) ∧ i < xs.length ∧ xs.length ≤ 64 ∧ RetU (xs.set i y) H Q
def spRaised (C : Addr) : Sp := fun vs H Q _ => ∃ (f t : Addr) (ps : List (Option Nat)) (ws : List Int) (l : List Nat) (v : Int), vs = [.ref f, .ref t, .int v] ∧ Fo C H f ps ws ∧ H t = some (.tup (l.map nv)) ∧ (∀ x ∈ l, x < ws.length) ∧ RetU ((addW ws v l).map V.int) H Q
def spTurned (C : Addr) : Sp := fun vs H Q _ => ∃ (f : Addr) (ps : List (Option Nat)) (h : Nat), vs = [.ref f, nv h] ∧ Hs C H f ps ∧ h < ps.length ∧ RetU ((turnAt ps (up ps h) ((up ps h).length - 1)).map ov) H Q
def spDone (C : Addr) : Sp := fun vs H Q _ => ∃ (f : Addr) (ps : List (Option Nat)) (ws : List Int) (x : V) (d : Deed), vs = [.ref f, x] ∧ Frt C H f ps ws ∧ DeedAt H x d ∧ okD ps.length d ∧ canD ps d ∧ ∀ H' g, L2.Same H H' → H g = none → Fo C H' g (doP ps d) (doW ps ws d) → Q (.ref g) H'
def spCan (C : Addr) : Sp := fun vs H Q _ => ∃ (f : Addr) (ps : List (Option Nat)) (ws : List Int) (x : V) (d : Deed), vs = [.ref f, x] ∧ Frt C H f ps ws ∧ DeedAt H x d ∧ okD ps.length d ∧ (canD ps d → Ret (.bl true) H Q) ∧ (¬ canD ps d → Ret (.bl false) H Q)
def fitV (n : Int) (k : Str) (x : V) : Bool := if k = "house" then hsV n x else isI x
def spFits (C : Addr) : Sp := fun vs H Q _ => ∃ (h : Addr) (n : Int) (x : V) (k : Str), vs = [.int n, x, .str k] ∧ Any C h H x ∧ Ret (.bl (fitV n k x)) H Q
def spHasForm (C : Addr) : Sp := fun vs H Q _ => ∃ (h : Addr) (n : Nat) (x : V), vs = [nv n, x] ∧ Thing C h H x ∧ (∀ d, FormAt H x n d → Ret (.bl true) H Q) ∧ ((¬ ∃ d, FormAt H x n d) → Ret (.bl false) H Q)
def spIsDeed (C : Addr) : Sp := fun vs H Q _ => ∃ (h f : Addr) (ps : List (Option Nat)) (ws : List Int) (x : V), vs = [.ref f, x] ∧ Frt C H f ps ws ∧ Thing C h H x ∧ (∀ d, FormAt H x ps.length d → canD ps d → Ret (.bl true) H Q) ∧ ((¬ ∃ d, FormAt H x ps.length d ∧ canD ps d) → Ret (.bl false) H Q)
def spBehind (C CN : Addr) : Sp := fun vs H Q E => ∃ (h f : Addr) (ps : List (Option Nat)) (ws : List Int) (x : V), vs = [.ref f, x] ∧ Frt C H f ps ws ∧ Thing C h H x ∧
  (∀ d, FormAt H x ps.length d → canD ps d → ∀ H' g, L2.Same H H' → Fo C H' g (doP ps d) (doW ps ws d) → Q (.ref g) H') ∧ ((¬ ∃ d, FormAt H x ps.length d ∧ canD ps d) → ∀ H', L2.Same H H' → E (.ref CN) none H')
/-- deeds done one behind another -/
noncomputable def run (s : List (Option Nat) × List Int) (ds : List Deed) : List (Option Nat) × List Int := ds.foldl (fun s d => (doP s.1 d, doW s.1 s.2 d)) s
theorem run_snoc (s : List (Option Nat) × List Int) (ds : List Deed) (d : Deed) : run s (ds ++ [d]) = (doP (run s ds).1 d, doW (run s ds).1 (run s ds).2 d) := by
  unfold run
  rw [List.foldl_append]
  rfl
theorem run_len (s : List (Option Nat) × List Int) : ∀ ds : List Deed, (run s ds).1.length = s.1.length := by
  intro ds
  induction ds generalizing s with
  | nil => rfl
  | cons d ds ih =>
    show (run (doP s.1 d, doW s.1 s.2 d) ds).1.length = _
    rw [ih]
    exact doP_len _ _
def okRun (s : List (Option Nat) × List Int) (ds : List Deed) : Prop := ∀ (i : Nat) (d : Deed), ds[i]? = some d → okD s.1.length d ∧ canD (run s (ds.take i)).1 d
/-- BadDeeds, its index told -/
def BadX (CD : Addr) (i : Int) (H : Hp) (E : XK) : Prop := ∀ H' d, L2.Same H H' → H d = none → H' d = some (.xd [(("index" : Str), .int i)]) → E (.ref CD) (some d) H'
def spLed (C CD : Addr) : Sp := fun vs H Q E => ∃ (h f : Addr) (ps : List (Option Nat)) (ws : List Int) (y : V), vs = [.ref f, y] ∧ Frt C H f ps ws ∧
  ((∃ (a : Addr) (xs : List V) (ds : List Deed), y = .ref a ∧ (H a = some (.lst xs) ∨ H a = some (.tup xs)) ∧ (∀ x ∈ xs, Thing C h H x) ∧ ds.length ≤ xs.length ∧ (∀ (i : Nat) (x : V) (d : Deed), ds[i]? = some d → xs[i]? = some x → DeedAt H x d) ∧ okRun (ps, ws) ds ∧
      (ds.length = xs.length → ∀ H' g, L2.Same H H' → Fo C H' g (run (ps, ws) ds).1 (run (ps, ws) ds).2 → Q (.ref g) H') ∧
      (∀ x, xs[ds.length]? = some x → (¬ ∃ d, FormAt H x ps.length d ∧ canD (run (ps, ws) ds).1 d) ∧ BadX CD (ds.length : Nat) H E)) ∨
   ((∀ a xs, y = .ref a → H a ≠ some (.lst xs) ∧ H a ≠ some (.tup xs)) ∧ Any C h H y ∧ BadX CD (-1) H E))
def spAreHouses (C : Addr) : Sp := fun vs H Q _ => ∃ (h t : Addr) (n : Nat) (xs : List V), vs = [nv n, .ref t] ∧ H t = some (.tup xs) ∧ (∀ x ∈ xs, Any C h H x) ∧ xs.length ≤ 1000 ∧ Ret (.bl (xs.all (hsV n))) H Q
def spLCan (C : Addr) : Sp := fun vs H Q _ => ∃ (h pl p q : Addr) (ps : List (Option Nat)) (ws : List Int) (x : V), vs = [.ref pl, x] ∧ PlA H pl p q ps ws ∧ Thing C h H x ∧ (∀ d, FormAt H x ps.length d → canD ps d → Ret (.bl true) H Q) ∧ ((¬ ∃ d, FormAt H x ps.length d ∧ canD ps d) → Ret (.bl false) H Q)
def spLBehind : Sp := fun vs H Q _ => ∃ (pl p q : Addr) (ps : List (Option Nat)) (ws : List Int) (x : V) (d : Deed), vs = [.ref pl, x] ∧ PlA H pl p q ps ws ∧ DeedAt H x d ∧ okD ps.length d ∧ canD ps d ∧
  ∀ H' pl' p' q', L2.Same H H' → H pl' = none → H p' = none → H q' = none → PlA H' pl' p' q' (doP ps d) (doW ps ws d) → Q (.ref pl') H'
def spLDeed : Sp := fun vs H Q _ => ∃ (h l pl p q : Addr) (ps : List (Option Nat)) (ws : List Int), vs = [.ref h, .ref pl] ∧ Hand H h l ∧ PlA H pl p q ps ws ∧ pl ≠ h ∧ p ≠ h ∧ q ≠ h ∧ ∀ H' x d, Bt h H H' → Hand H' h l → DeedAt H' x d → Q x H'
def spBent (C : Addr) : Sp := fun vs H Q _ => ∃ (h l : Addr) (x : V) (d : Deed), vs = [.ref h, x] ∧ Hand H h l ∧ DeedAt H x d ∧ ∀ H' y, Bt h H H' → Hand H' h l → Thing C h H' y → Q y H'
def spSome (C : Addr) : Sp := fun vs H Q _ => ∃ (h l pl p q : Addr) (ps : List (Option Nat)) (ws : List Int), vs = [.ref h, .ref pl] ∧ Hand H h l ∧ PlA H pl p q ps ws ∧ pl ≠ h ∧ p ≠ h ∧ q ≠ h ∧ ∀ H' y, Bt h H H' → Hand H' h l → Thing C h H' y → Q y H'
/-- («told», parents, worths) -/
def Told (H : Hp) (t : Addr) (ps : List (Option Nat)) (ws : List Int) : Prop := ∃ a b, H t = some (.tup [.str "told", .ref a, .ref b]) ∧ H a = some (.tup (ps.map ov)) ∧ H b = some (.tup (ws.map V.int))
theorem Told.same {H H' : Hp} {t : Addr} {ps : List (Option Nat)} {ws : List Int} (x : Told H t ps ws) (s : L2.Same H H') : Told H' t ps ws := let ⟨a, b, e1, e2, e3⟩ := x; ⟨a, b, s _ _ e1, s _ _ e2, s _ _ e3⟩
def spTold (C : Addr) : Sp := fun vs H Q _ => ∃ (h f : Addr) (ps : List (Option Nat)) (ws : List Int) (x : V), vs = [.ref f, x] ∧ Frt C H f ps ws ∧ Thing C h H x ∧
  (∀ d, FormAt H x ps.length d → canD ps d → ∀ H' t, L2.Same H H' → Told H' t (doP ps d) (doW ps ws d) → Q (.ref t) H') ∧ ((¬ ∃ d, FormAt H x ps.length d ∧ canD ps d) → RetU [.str "NoDeed"] H Q)
def spLedTold (C : Addr) : Sp := fun vs H Q _ => ∃ (h f : Addr) (ps : List (Option Nat)) (ws : List Int) (y : V), vs = [.ref f, y] ∧ Frt C H f ps ws ∧
  ((∃ (a : Addr) (xs : List V) (ds : List Deed), y = .ref a ∧ (H a = some (.lst xs) ∨ H a = some (.tup xs)) ∧ (∀ x ∈ xs, Thing C h H x) ∧ ds.length ≤ xs.length ∧ (∀ (i : Nat) (x : V) (d : Deed), ds[i]? = some d → xs[i]? = some x → DeedAt H x d) ∧ okRun (ps, ws) ds ∧
      (ds.length = xs.length → ∀ H' t, L2.Same H H' → Told H' t (run (ps, ws) ds).1 (run (ps, ws) ds).2 → Q (.ref t) H') ∧
      (∀ x, xs[ds.length]? = some x → (¬ ∃ d, FormAt H x ps.length d ∧ canD (run (ps, ws) ds).1 d) ∧ RetU [.str "BadDeeds", .int (ds.length : Nat)] H Q)) ∨
   ((∀ a xs, y = .ref a → H a ≠ some (.lst xs) ∧ H a ≠ some (.tup xs)) ∧ Any C h H y ∧ RetU [.str "BadDeeds", .int (-1)] H Q))
end W2
namespace W2
open PySem PySem.Spec PyProof.Rows L2
theorem any_str {K : PySem.W.Frag} {C h : Addr} {H : Hp} {x : V} (O : Own K C) (a : Any C h H x) : ∃ (t : Value) (b : Bool), TyX K H x t ∧ PySem.W.kitOne K t (.type "str") = some b ∧ (b = true → ∃ s, x = .str s) ∧ (b = false → ∀ s, x ≠ .str s) := by
  cases a with
  | non => exact ⟨_, false, .base .non, kit_ty (by decide +kernel), (fun z => nomatch z), fun _ s z => nomatch z⟩
  | bl b => exact ⟨_, false, .base (.bl b), kit_ty (by decide +kernel), (fun z => nomatch z), fun _ s z => nomatch z⟩
  | int i => exact ⟨_, false, .base (.int i), kit_ty (by decide +kernel), (fun z => nomatch z), fun _ s z => nomatch z⟩
  | str i => exact ⟨_, true, .base (.str i), kit_ty (by decide +kernel), (fun _ => ⟨i, rfl⟩), fun z => nomatch z⟩
  | lst n e => exact ⟨_, false, .base (.lst e), kit_ty (by decide +kernel), (fun z => nomatch z), fun _ s z => nomatch z⟩
  | tup e => exact ⟨_, false, .base (.tup e), kit_ty (by decide +kernel), (fun z => nomatch z), fun _ s z => nomatch z⟩
  | dic n e => exact ⟨_, false, .base (.dK e), kit_ty (by decide +kernel), (fun z => nomatch z), fun _ s z => nomatch z⟩
  | ins n e => exact ⟨_, false, .base (.ins e O.cl O.ha O.hn O.htk O.hm), O.kS, (fun z => nomatch z), fun _ s z => nomatch z⟩
/-! ### words and forms -/
def fmW (w : Str) : Option (List Str) :=
  if w = "link" then some ["house", "house"] else if w = "cut" then some ["house"] else if w = "turn" then some ["house"] else if w = "put" then some ["house", "integer"] else if w = "add" then some ["house", "house", "integer"] else none
def wd : Deed → Str
  | .link _ _ => "link"
  | .cut _ => "cut"
  | .turn _ => "turn"
  | .put _ _ => "put"
  | .add _ _ _ => "add"
theorem enc_wd (d : Deed) : ∃ r, enc d = .str (wd d) :: r := by cases d <;> exact ⟨_, rfl⟩
theorem fm_link : fmW "link" = some (["house", "house"] : List Str) := by decide +kernel
theorem fm_cut : fmW "cut" = some (["house"] : List Str) := by decide +kernel
theorem fm_turn : fmW "turn" = some (["house"] : List Str) := by decide +kernel
theorem fm_put : fmW "put" = some (["house", "integer"] : List Str) := by decide +kernel
theorem fm_add : fmW "add" = some (["house", "house", "integer"] : List Str) := by decide +kernel
theorem fm_wd (d : Deed) : (fmW (wd d)).isSome = true := by
  cases d
  · exact congrArg Option.isSome fm_link
  · exact congrArg Option.isSome fm_cut
  · exact congrArg Option.isSome fm_turn
  · exact congrArg Option.isSome fm_put
  · exact congrArg Option.isSome fm_add
theorem fm_cases {w : Str} {ks : List Str} (h : fmW w = some ks) : (w = "link" ∧ ks = (["house", "house"] : List Str)) ∨ (w = "cut" ∧ ks = (["house"] : List Str)) ∨ (w = "turn" ∧ ks = (["house"] : List Str)) ∨ (w = "put" ∧ ks = (["house", "integer"] : List Str)) ∨ (w = "add" ∧ ks = (["house", "house", "integer"] : List Str)) := by
  unfold fmW at h
  split at h
  · exact .inl ⟨by assumption, (Option.some.inj h).symm⟩
  split at h
  · exact .inr (.inl ⟨by assumption, (Option.some.inj h).symm⟩)
  split at h
  · exact .inr (.inr (.inl ⟨by assumption, (Option.some.inj h).symm⟩))
  split at h
  · exact .inr (.inr (.inr (.inl ⟨by assumption, (Option.some.inj h).symm⟩)))
  split at h
  · exact .inr (.inr (.inr (.inr ⟨by assumption, (Option.some.inj h).symm⟩)))
  · cases h
theorem lk_cons {w z : Str} {v : V} {r : List (Str × V)} : List.lookup w ((z, v) :: r) = if w = z then some v else List.lookup w r := by
  by_cases e : w = z
  · subst e
    rw [if_pos rfl]
    simp [List.lookup]
  · rw [if_neg e]
    have : (w == z) = false := by simpa using e
    simp [List.lookup, this]
theorem forms_none {w : Str} {t1 t2 t3 t4 t5 : Addr} : ([("link", V.ref t1), ("cut", .ref t2), ("turn", .ref t3), ("put", .ref t4), ("add", .ref t5)] : List (Str × V)).lookup w = none → fmW w = none := by
  rw [lk_cons, lk_cons, lk_cons, lk_cons, lk_cons]
  unfold fmW
  intro h
  split at h
  · cases h
  split at h
  · cases h
  split at h
  · cases h
  split at h
  · cases h
  split at h
  · cases h
  · rename_i a b c d e
    rw [if_neg a, if_neg b, if_neg c, if_neg d, if_neg e]
theorem forms_some {K : PySem.W.Frag} {w : World} {mg : Str → Option Value} {fF t1 t2 t3 t4 t5 : Addr} (F : ForD K w mg fF t1 t2 t3 t4 t5) {z : Str} {v : V} : ([("link", V.ref t1), ("cut", .ref t2), ("turn", .ref t3), ("put", .ref t4), ("add", .ref t5)] : List (Str × V)).lookup z = some v →
    ∃ (tf : Addr) (ks : List Str), v = .ref tf ∧ fmW z = some ks ∧ ∀ H, SqT K H tf (ks.map V.str) := by
  rw [lk_cons, lk_cons, lk_cons, lk_cons, lk_cons]
  unfold fmW
  intro h
  split at h
  · rename_i a
    rw [if_pos a]
    exact ⟨t1, _, (Option.some.inj h).symm, rfl, F.s1⟩
  rename_i a
  rw [if_neg a]
  split at h
  · rename_i a
    rw [if_pos a]
    exact ⟨t2, _, (Option.some.inj h).symm, rfl, F.s2⟩
  rename_i a
  rw [if_neg a]
  split at h
  · rename_i a
    rw [if_pos a]
    exact ⟨t3, _, (Option.some.inj h).symm, rfl, F.s3⟩
  rename_i a
  rw [if_neg a]
  split at h
  · rename_i a
    rw [if_pos a]
    exact ⟨t4, _, (Option.some.inj h).symm, rfl, F.s4⟩
  rename_i a
  rw [if_neg a]
  split at h
  · rename_i a
    rw [if_pos a]
    exact ⟨t5, _, (Option.some.inj h).symm, rfl, F.s5⟩
  · cases h
theorem hsV_of {n : Nat} {x : V} (h : hsV n x = true) : ∃ k : Nat, k < n ∧ x = nv k := by
  cases x with
  | int i =>
    have h2 := Bool.and_eq_true_iff.mp h
    have h3 := of_decide_eq_true h2.1
    have h4 := of_decide_eq_true h2.2
    refine ⟨i.toNat, by omega, ?_⟩
    show V.int i = V.int ((i.toNat : Nat) : Int)
    rw [Int.toNat_of_nonneg h3]
  | _ => cases h
theorem hsV_nv {n k : Nat} : hsV n (nv k) = decide (k < n) := by
  show (decide ((0 : Int) ≤ (k : Int)) && decide ((k : Int) < (n : Int))) = _
  rw [decide_eq_true (show (0 : Int) ≤ (k : Int) by omega), Bool.true_and]
  rw [decide_eq_decide]
  omega
theorem fit_h {n : Int} {x : V} : fitV n "house" x = hsV n x := by unfold fitV; rw [if_pos rfl]
theorem fit_i {n : Int} {x : V} : fitV n "integer" x = isI x := by unfold fitV; rw [if_neg (by decide +kernel)]
def fitAll (n : Int) (r : List V) (ks : List Str) : Bool := (List.zip r ks).all fun p => fitV n p.2 p.1
theorem form_iff {n : Nat} {w : Str} {r : List V} {ks : List Str} (h : fmW w = some ks) : (r.length = ks.length ∧ fitAll n r ks = true) ↔ ∃ d, .str w :: r = enc d ∧ okD n d := by
  constructor
  · rintro ⟨hl, f⟩
    rcases fm_cases h with ⟨rfl, rfl⟩ | ⟨rfl, rfl⟩ | ⟨rfl, rfl⟩ | ⟨rfl, rfl⟩ | ⟨rfl, rfl⟩
    · match r, hl with
      | [x, y], _ =>
        have f : (fitV n "house" x && (fitV n "house" y && true)) = true := f
        rw [fit_h, fit_h, Bool.and_true] at f
        have f2 := Bool.and_eq_true_iff.mp f
        obtain ⟨a, ha, rfl⟩ := hsV_of f2.1
        obtain ⟨b, hb, rfl⟩ := hsV_of f2.2
        exact ⟨.link a b, rfl, ha, hb⟩
    · match r, hl with
      | [x], _ =>
        have f : (fitV n "house" x && true) = true := f
        rw [fit_h, Bool.and_true] at f
        obtain ⟨a, ha, rfl⟩ := hsV_of f
        exact ⟨.cut a, rfl, ha⟩
    · match r, hl with
      | [x], _ =>
        have f : (fitV n "house" x && true) = true := f
        rw [fit_h, Bool.and_true] at f
        obtain ⟨a, ha, rfl⟩ := hsV_of f
        exact ⟨.turn a, rfl, ha⟩
    · match r, hl with
      | [x, y], _ =>
        have f : (fitV n "house" x && (fitV n "integer" y && true)) = true := f
        rw [fit_h, fit_i, Bool.and_true] at f
        have f2 := Bool.and_eq_true_iff.mp f
        obtain ⟨a, ha, rfl⟩ := hsV_of f2.1
        obtain ⟨b, rfl⟩ := isI_of f2.2
        exact ⟨.put a b, rfl, ha⟩
    · match r, hl with
      | [x, y, z], _ =>
        have f : (fitV n "house" x && (fitV n "house" y && (fitV n "integer" z && true))) = true := f
        rw [fit_h, fit_h, fit_i, Bool.and_true] at f
        have f2 := Bool.and_eq_true_iff.mp f
        have f3 := Bool.and_eq_true_iff.mp f2.2
        obtain ⟨a, ha, rfl⟩ := hsV_of f2.1
        obtain ⟨b, hb, rfl⟩ := hsV_of f3.1
        obtain ⟨c, rfl⟩ := isI_of f3.2
        exact ⟨.add a b c, rfl, ha, hb⟩
  · rintro ⟨d, e, o⟩
    have hw : w = wd d := by
      obtain ⟨q, eq⟩ := enc_wd d
      rw [eq] at e
      exact V.str.inj (List.cons.inj e).1
    subst hw
    cases d with
    | link a b =>
      have er : r = [nv a, nv b] := (List.cons.inj e).2
      have ek : ks = (["house", "house"] : List Str) := Option.some.inj (h.symm.trans fm_link)
      subst er ek
      refine ⟨rfl, ?_⟩
      show (fitV n "house" (nv a) && (fitV n "house" (nv b) && true)) = true
      rw [fit_h, fit_h, hsV_nv, hsV_nv, decide_eq_true o.1, decide_eq_true o.2]
      rfl
    | cut a =>
      have er : r = [nv a] := (List.cons.inj e).2
      have ek : ks = (["house"] : List Str) := Option.some.inj (h.symm.trans fm_cut)
      subst er ek
      refine ⟨rfl, ?_⟩
      show (fitV n "house" (nv a) && true) = true
      rw [fit_h, hsV_nv, decide_eq_true (show a < n from o)]
      rfl
    | turn a =>
      have er : r = [nv a] := (List.cons.inj e).2
      have ek : ks = (["house"] : List Str) := Option.some.inj (h.symm.trans fm_turn)
      subst er ek
      refine ⟨rfl, ?_⟩
      show (fitV n "house" (nv a) && true) = true
      rw [fit_h, hsV_nv, decide_eq_true (show a < n from o)]
      rfl
    | put a v =>
      have er : r = [nv a, .int v] := (List.cons.inj e).2
      have ek : ks = (["house", "integer"] : List Str) := Option.some.inj (h.symm.trans fm_put)
      subst er ek
      refine ⟨rfl, ?_⟩
      show (fitV n "house" (nv a) && (fitV n "integer" (.int v) && true)) = true
      rw [fit_h, fit_i, hsV_nv, decide_eq_true (show a < n from o)]
      rfl
    | add a b v =>
      have er : r = [nv a, nv b, .int v] := (List.cons.inj e).2
      have ek : ks = (["house", "house", "integer"] : List Str) := Option.some.inj (h.symm.trans fm_add)
      subst er ek
      refine ⟨rfl, ?_⟩
      show (fitV n "house" (nv a) && (fitV n "house" (nv b) && (fitV n "integer" (.int v) && true))) = true
      rw [fit_h, fit_h, fit_i, hsV_nv, hsV_nv, decide_eq_true o.1, decide_eq_true o.2]
      rfl
theorem no_form_word {w : Str} {r : List V} (h : fmW w = none) (d : Deed) : .str w :: r ≠ enc d := fun e => by
  obtain ⟨q, eq⟩ := enc_wd d
  rw [eq] at e
  have := fm_wd d
  rw [← V.str.inj (List.cons.inj e).1, h] at this
  cases this
theorem dnv (a b : Nat) : decide (nv a = nv b) = decide (a = b) := by
  rw [decide_eq_decide]
  constructor
  · intro e
    have := V.int.inj e
    omega
  · intro e
    rw [e]
theorem mk_tail {C a b x dx : Addr} {ps : List (Option Nat)} {ws : List Int} {H : Hp} {R : VK} {E : XK} (ea : H a = some (.tup (ps.map ov))) (eb : H b = some (.tup (ws.map V.int))) (TR : Tree ps) (n1 : 1 ≤ ps.length) (n64 : ps.length ≤ 64) (lw : ws.length = ps.length) (hx : H x = none) (hdx : H dx = none) (ne : dx ≠ x)
    (k : ∀ H', L2.Same H H' → FAt C H' x ps ws dx a b → R .non H') : spInit C (.ref x :: ([.ref a, .ref b] ++ [])) (L2.upd (L2.upd H dx (.own x)) x (.ins C dx [])) R E := by
  have hx1 : (L2.upd H dx (.own x)) x = none := by rw [upd_ne ne.symm]; exact hx
  have s : L2.Same H (L2.upd (L2.upd H dx (.own x)) x (.ins C dx [])) := (same_upd hdx).trans (same_upd hx1)
  refine ⟨x, dx, a, b, ps, ws, rfl, upd_same, s _ _ ea, s _ _ eb, TR, n1, n64, lw, fun H1 bt e1 => ?_⟩
  have sm : L2.Same H H1 := fun c o e => bt c o (ne_of_none e hx) (s c o e)
  exact k H1 sm ⟨e1, sm _ _ ea, sm _ _ eb⟩
theorem tree_at {ps : List (Option Nat)} {h : Nat} (hl : h < ps.length) : ∃ o, ps[h]? = some o := ⟨_, List.getElem?_eq_getElem hl⟩
theorem at_ov {ps : List (Option Nat)} {h : Nat} {o : Option Nat} (e : ps[h]? = some o) : atI (ps.map ov) (h : Int) = some (ov o) := atI_nat (by rw [List.getElem?_map, e]; rfl)
theorem at0 {x : V} {r : List V} : atI (x :: r) 0 = some x := atI_nat (show (x :: r)[0]? = some x from rfl)
theorem kitAny_1 {K : PySem.W.Frag} {t a : Value} {r : List Value} (h : PySem.W.kitOne K t a = some true) : PySem.W.kitAny K t (a :: r) = some true := by
  unfold PySem.W.kitAny
  rw [h]
theorem kitAny_0 {K : PySem.W.Frag} {t a : Value} {r : List Value} (h : PySem.W.kitOne K t a = some false) : PySem.W.kitAny K t (a :: r) = PySem.W.kitAny K t r := by
  conv => lhs; unfold PySem.W.kitAny
  rw [h]
theorem any_not {K : PySem.W.Frag} {C h : Addr} {H : Hp} {x : V} (O : Own K C) (a : Any C h H x) (n : ∀ a xs, x = .ref a → H a ≠ some (.lst xs) ∧ H a ≠ some (.tup xs)) : ∃ t, TyX K H x t ∧ PySem.W.kitOne K t (.type "list") = some false ∧ PySem.W.kitOne K t (.type "tuple") = some false := by
  cases a with
  | non => exact ⟨_, .base .non, kit_ty (by decide +kernel), kit_ty (by decide +kernel)⟩
  | bl b => exact ⟨_, .base (.bl b), kit_ty (by decide +kernel), kit_ty (by decide +kernel)⟩
  | int i => exact ⟨_, .base (.int i), kit_ty (by decide +kernel), kit_ty (by decide +kernel)⟩
  | str i => exact ⟨_, .base (.str i), kit_ty (by decide +kernel), kit_ty (by decide +kernel)⟩
  | lst m e => exact absurd e (n _ _ rfl).1
  | tup e => exact absurd e (n _ _ rfl).2
  | dic m e => exact ⟨_, .base (.dK e), kit_ty (by decide +kernel), kit_ty (by decide +kernel)⟩
  | ins m e => exact ⟨_, .base (.ins e O.cl O.ha O.hn O.htk O.hm), O.kL, O.kT⟩
theorem DeedAt.det {H : Hp} {x : V} {d d' : Deed} (a : DeedAt H x d) (b : DeedAt H x d') : d' = d := by
  obtain ⟨p, e, e2⟩ := a
  obtain ⟨p', e', e2'⟩ := b
  rw [e] at e'
  cases e'
  rw [e2] at e2'
  exact (enc_inj (HO.tup.inj (Option.some.inj e2'))).symm
theorem Thing.deed_back {C h : Addr} {H H' : Hp} {x : V} {d : Deed} (t : Thing C h H x) (s : L2.Same H H') (e : DeedAt H' x d) : DeedAt H x d := by
  obtain ⟨a, rfl, e2⟩ := e
  exact ⟨a, rfl, t.any.tup_back (fun b o _ q => s b o q) (fun ys q => s _ _ q) e2⟩
theorem wiV_hsV (n : Nat) (x : V) : wiV 0 ((n : Int) - 1) x = hsV n x := by
  cases x with
  | int i =>
    show (decide (0 ≤ i) && decide (i ≤ (n : Int) - 1)) = (decide (0 ≤ i) && decide (i < (n : Int)))
    have e : decide (i ≤ (n : Int) - 1) = decide (i < (n : Int)) := by
      rw [decide_eq_decide]
      omega
    rw [e]
  | _ => rfl
theorem fm_none {z : Str} (h : fmW z = none) : z ≠ "link" ∧ z ≠ "cut" ∧ z ≠ "turn" ∧ z ≠ "put" ∧ z ≠ "add" :=
  ⟨fun e => (by subst e; rw [fm_link] at h; cases h), fun e => (by subst e; rw [fm_cut] at h; cases h), fun e => (by subst e; rw [fm_turn] at h; cases h), fun e => (by subst e; rw [fm_put] at h; cases h), fun e => (by subst e; rw [fm_add] at h; cases h)⟩
theorem inV_str2 {z a b : Str} (h : inV (V.str z) [V.str a, V.str b] = true) : z = a ∨ z = b := by
  unfold inV at h
  rw [List.any_cons, List.any_cons, List.any_nil, Bool.or_false, Bool.or_eq_true_iff] at h
  rcases h with h | h
  · have h2 : (a == z) = true := h
    exact .inl (beq_iff_eq.mp h2).symm
  · have h2 : (b == z) = true := h
    exact .inr (beq_iff_eq.mp h2).symm
end W2
namespace W2
open PySem PySem.Spec PyProof.Rows L2
theorem eqs_told {H : Hp} {n : Nat} {t t' : Addr} {ps : List (Option Nat)} {ws : List Int} (x : Told H t ps ws) (y : Told H t' ps ws) : EqS (n + 3) H (.ref t) (.ref t') := by
  obtain ⟨a, b, e1, e2, e3⟩ := x
  obtain ⟨a', b', f1, f2, f3⟩ := y
  refine eqs_tups e1 f1 rfl fun i x y hx hy => ?_
  match i, hx, hy with
  | 0, hx, hy =>
    cases hx
    cases hy
    exact .inr (.inr (.inl ⟨_, rfl, rfl⟩))
  | 1, hx, hy =>
    cases hx
    cases hy
    exact eqs_flat e2 f2 (flat_ov2 ps)
  | 2, hx, hy =>
    cases hx
    cases hy
    exact eqs_flat e3 f3 (flat_int2 ws)
theorem DeedAt.setD {H : Hp} {x : V} {d : Deed} {D : Addr} {xs ys : List V} (e : DeedAt H x d) (eD : H D = some (.lst xs)) : DeedAt (L2.upd H D (.lst ys)) x d := by
  obtain ⟨a, e1, e2⟩ := e
  exact ⟨a, e1, by rw [upd_ne (ne_of e2 eD (fun z => nomatch z))]; exact e2⟩
theorem FAt.setD {C : Addr} {H : Hp} {f : Addr} {ps : List (Option Nat)} {ws : List Int} {dx a b D : Addr} {xs ys : List V} (x : FAt C H f ps ws dx a b) (eD : H D = some (.lst xs)) : FAt C (L2.upd H D (.lst ys)) f ps ws dx a b :=
  ⟨by rw [upd_ne (ne_of x.o eD (fun z => nomatch z))]; exact x.o, by rw [upd_ne (ne_of x.p eD (fun z => nomatch z))]; exact x.p, by rw [upd_ne (ne_of x.w eD (fun z => nomatch z))]; exact x.w⟩
theorem Frt.setD {C : Addr} {H : Hp} {f : Addr} {ps : List (Option Nat)} {ws : List Int} {D : Addr} {xs ys : List V} (x : Frt C H f ps ws) (eD : H D = some (.lst xs)) : Frt C (L2.upd H D (.lst ys)) f ps ws := ⟨(let ⟨dx, a, b, y⟩ := x.F; ⟨dx, a, b, y.setD eD⟩), x.TR, x.n1, x.n64, x.lw⟩
structure Cu (H : Hp) (h D pl p q : Addr) (ps : List (Option Nat)) (ws : List Int) : Prop where
  PA : PlA H pl p q ps ws
  n1 : pl ≠ h
  n2 : p ≠ h
  n3 : q ≠ h
  m1 : pl ≠ D
  m2 : p ≠ D
  m3 : q ≠ D
theorem Cu.same {H H' : Hp} {h D pl p q : Addr} {ps : List (Option Nat)} {ws : List Int} (x : Cu H h D pl p q ps ws) (s : L2.Same H H') : Cu H' h D pl p q ps ws := ⟨x.PA.same s, x.n1, x.n2, x.n3, x.m1, x.m2, x.m3⟩
theorem Cu.bt {H H' : Hp} {h D pl p q : Addr} {ps : List (Option Nat)} {ws : List Int} (x : Cu H h D pl p q ps ws) (s : Bt h H H') : Cu H' h D pl p q ps ws := ⟨x.PA.bt x.n1 x.n2 x.n3 s, x.n1, x.n2, x.n3, x.m1, x.m2, x.m3⟩
theorem Cu.setD {H : Hp} {h D pl p q : Addr} {ps : List (Option Nat)} {ws : List Int} {o : HO} (x : Cu H h D pl p q ps ws) : Cu (L2.upd H D o) h D pl p q ps ws :=
  ⟨⟨by rw [upd_ne x.m1]; exact x.PA.o, by rw [upd_ne x.m2]; exact x.PA.p, by rw [upd_ne x.m3]; exact x.PA.q, x.PA.TR, x.PA.n1, x.PA.n64, x.PA.lw⟩, x.n1, x.n2, x.n3, x.m1, x.m2, x.m3⟩
structure Sta (C : Addr) (H : Hp) (h l pl0 p0 q0 f t5 D dx a b : Addr) (ps0 : List (Option Nat)) (ws0 : List Int) (xs : List V) (ds : List Deed) : Prop where
  hand : Hand H h l
  P0 : Cu H h D pl0 p0 q0 ps0 ws0
  F : FAt C H f ps0 ws0 dx a b
  e5 : H t5 = some (.tup [.ref a, .ref b])
  eD : H D = some (.lst xs)
  len : xs.length = ds.length
  da : ∀ (i : Nat) (x : V) (d : Deed), ds[i]? = some d → xs[i]? = some x → DeedAt H x d
  ok : okRun (ps0, ws0) ds
  nDh : D ≠ h
  nDl : D ≠ l
section
variable {C : Addr} {H H' : Hp} {h l pl0 p0 q0 f t5 D dx a b : Addr} {ps0 : List (Option Nat)} {ws0 : List Int} {xs : List V} {ds : List Deed}
theorem Sta.same (S : Sta C H h l pl0 p0 q0 f t5 D dx a b ps0 ws0 xs ds) (s : L2.Same H H') : Sta C H' h l pl0 p0 q0 f t5 D dx a b ps0 ws0 xs ds :=
  ⟨S.hand.same s, S.P0.same s, S.F.same s, s _ _ S.e5, s _ _ S.eD, S.len, fun i x d h1 h2 => (S.da i x d h1 h2).same s, S.ok, S.nDh, S.nDl⟩
theorem Sta.bt (S : Sta C H h l pl0 p0 q0 f t5 D dx a b ps0 ws0 xs ds) (s : Bt h H H') (hh : Hand H' h l) : Sta C H' h l pl0 p0 q0 f t5 D dx a b ps0 ws0 xs ds :=
  let ⟨_, e⟩ := S.hand.lst
  ⟨hh, S.P0.bt s, S.F.bt e s, s _ _ (ne_of S.e5 e (fun z => nomatch z)) S.e5, s _ _ S.nDh S.eD, S.len, fun i x d h1 h2 => (S.da i x d h1 h2).bt e s, S.ok, S.nDh, S.nDl⟩
theorem Sta.frt (S : Sta C H h l pl0 p0 q0 f t5 D dx a b ps0 ws0 xs ds) : Frt C H f ps0 ws0 := ⟨⟨_, _, _, S.F⟩, S.P0.PA.TR, S.P0.PA.n1, S.P0.PA.n64, S.P0.PA.lw⟩
theorem Sta.things (S : Sta C H h l pl0 p0 q0 f t5 D dx a b ps0 ws0 xs ds) : ∀ x ∈ xs, ∃ d, DeedAt H x d := fun x hx => by
  obtain ⟨i, hi, e⟩ := List.getElem_of_mem hx
  have hi2 : i < ds.length := by have := S.len; omega
  have h1 := List.getElem?_eq_getElem hi2
  exact ⟨_, S.da i x _ h1 (List.getElem?_eq_some_iff.mpr ⟨hi, e⟩)⟩
theorem okRun.snoc {s : List (Option Nat) × List Int} {ds : List Deed} {d : Deed} (o : okRun s ds) (h1 : okD s.1.length d) (h2 : canD (run s ds).1 d) : okRun s (ds ++ [d]) := by
  intro i d' hi
  by_cases c : i < ds.length
  · rw [List.getElem?_append_left c] at hi
    rw [List.take_append_of_le_length (by omega)]
    exact o i d' hi
  · rw [List.getElem?_append_right (by omega)] at hi
    have e : i - ds.length = 0 := by
      have := (List.getElem?_eq_some_iff.mp hi).1
      rw [List.length_singleton] at this
      omega
    rw [e] at hi
    cases hi
    have ei : i = ds.length := by omega
    subst ei
    rw [List.take_left']
    · exact ⟨h1, h2⟩
    · rfl
theorem okRun.take {s : List (Option Nat) × List Int} {ds : List Deed} (o : okRun s ds) (n : Nat) : okRun s (ds.take n) := by
  intro i d hi
  rw [List.getElem?_take] at hi
  split at hi
  · rename_i c
    have := o i d hi
    rw [List.take_take, Nat.min_eq_left (by omega)]
    exact this
  · cases hi
theorem Sta.push (S : Sta C H h l pl0 p0 q0 f t5 D dx a b ps0 ws0 xs ds) {x : V} {d : Deed} (da : DeedAt H x d) (o : okD ps0.length d) (c : canD (run (ps0, ws0) ds).1 d) : Sta C (L2.upd H D (.lst (xs ++ [x]))) h l pl0 p0 q0 f t5 D dx a b ps0 ws0 (xs ++ [x]) (ds ++ [d]) := by
  refine ⟨S.hand.set S.nDh S.nDl, S.P0.setD, S.F.setD S.eD, by rw [upd_ne (ne_of S.e5 S.eD (fun z => nomatch z))]; exact S.e5, upd_same, by rw [List.length_append, List.length_append, S.len]; rfl, fun i y e h1 h2 => ?_, S.ok.snoc o c, S.nDh, S.nDl⟩
  by_cases ci : i < ds.length
  · rw [List.getElem?_append_left ci] at h1
    rw [List.getElem?_append_left (by rw [S.len]; exact ci)] at h2
    exact (S.da i y e h1 h2).setD S.eD
  · rw [List.getElem?_append_right (by omega)] at h1
    rw [List.getElem?_append_right (by rw [S.len]; omega), S.len] at h2
    have e0 : i - ds.length = 0 := by
      have := (List.getElem?_eq_some_iff.mp h1).1
      rw [List.length_singleton] at this
      omega
    rw [e0] at h1 h2
    cases h1
    cases h2
    exact da.setD S.eD
end
theorem eqv_bad (i : Int) : PyData.eqv (.tuple [.str "BadDeeds", .int i]) (.tuple [.str "BadDeeds", .int i]) = true := by
  simp [PyData.eqv, PyData.eqvAll]
theorem dp_bad {K : PySem.W.Frag} {H : Hp} {t : Addr} {i : Int} (e : H t = some (.tup [.str "BadDeeds", .int i])) : Dp K H (.ref t) (.tuple [.str "BadDeeds", .int i]) := .tup (SqT.of e) (.cons (.str _) (.cons (.int _) .nil))
theorem sh_bad (i : Int) : SeqAt.shaped (.tuple [.str "BadDeeds", .int i]) = true := by
  simp [SeqAt.shaped, PyData.canLay0, PyData.canLayAll0, PyData.depth, PyData.depthAll]
  decide +kernel
end W2
namespace W2
open PySem PySem.Spec PyProof.Rows L2
def keyed (e : DictEntry) (P : Params) (x : Str) (t : Addr) : Prop := (∃ τ, e.key = .str x τ) ∧ e.hash = PyData.keyHash P x ∧ e.val = .ref t
theorem keyed.lit {e : DictEntry} {P : Params} {x : Str} {t : Addr} (k : keyed e P x t) : ∃ x τ, e.key = .str x τ ∧ e.hash = PyData.keyHash P x := let ⟨⟨τ, a⟩, b, _⟩ := k; ⟨x, τ, a, b⟩
theorem keyed.is {e : DictEntry} {P : Params} {x z : Str} {t : Addr} (k : keyed e P x t) : e.key.isStr z = decide (z = x) := by
  obtain ⟨⟨τ, a⟩, _⟩ := k
  rw [a]
  show (x == z) = _
  by_cases q : z = x
  · subst q
    simp
  · rw [decide_eq_false q]
    exact beq_eq_false_iff_ne.mpr (fun y => q y.symm)
theorem keyed.refKey {e : DictEntry} {P : Params} {x : Str} {t : Addr} (k : keyed e P x t) : e.refKey = false := by
  obtain ⟨⟨τ, a⟩, _⟩ := k
  unfold DictEntry.refKey
  rw [a]
theorem kd_mk {K : PySem.W.Frag} {w : World} {fF t1 t2 t3 t4 t5 : Addr} {e1 e2 e3 e4 e5 : DictEntry} {n : Nat} (l : K.lookup fF = some ⟨.type "dict", none, .dict #[e1, e2, e3, e4, e5] n, #[]⟩) (ne : (fF == sysModules) = false)
    (k1 : keyed e1 w.params "link" t1) (k2 : keyed e2 w.params "cut" t2) (k3 : keyed e3 w.params "turn" t3) (k4 : keyed e4 w.params "put" t4) (k5 : keyed e5 w.params "add" t5) :
    KD K w fF [("link", .ref t1), ("cut", .ref t2), ("turn", .ref t3), ("put", .ref t4), ("add", .ref t5)] := by
  have ns : ∀ z, PySem.W.nsIn K fF z = some (if z = "link" then some (.ref t1) else if z = "cut" then some (.ref t2) else if z = "turn" then some (.ref t3) else if z = "put" then some (.ref t4) else if z = "add" then some (.ref t5) else none) := fun z => by
    unfold PySem.W.nsIn
    rw [l]
    show (match ([e1, e2, e3, e4, e5] : List DictEntry).find? (·.key.isStr z) with
      | some e => some (some e.val)
      | none => if ([e1, e2, e3, e4, e5] : List DictEntry).any (·.refKey) then none else some none) = _
    rw [List.find?_cons, List.find?_cons, List.find?_cons, List.find?_cons, List.find?_cons, List.find?_nil, k1.is, k2.is, k3.is, k4.is, k5.is]
    by_cases q1 : z = "link"
    · rw [if_pos q1, decide_eq_true q1]
      exact congrArg (fun v => some (some v)) k1.2.2
    rw [if_neg q1, decide_eq_false q1]
    by_cases q2 : z = "cut"
    · rw [if_pos q2, decide_eq_true q2]
      exact congrArg (fun v => some (some v)) k2.2.2
    rw [if_neg q2, decide_eq_false q2]
    by_cases q3 : z = "turn"
    · rw [if_pos q3, decide_eq_true q3]
      exact congrArg (fun v => some (some v)) k3.2.2
    rw [if_neg q3, decide_eq_false q3]
    by_cases q4 : z = "put"
    · rw [if_pos q4, decide_eq_true q4]
      exact congrArg (fun v => some (some v)) k4.2.2
    rw [if_neg q4, decide_eq_false q4]
    by_cases q5 : z = "add"
    · rw [if_pos q5, decide_eq_true q5]
      exact congrArg (fun v => some (some v)) k5.2.2
    rw [if_neg q5, decide_eq_false q5]
    have : ([e1, e2, e3, e4, e5] : List DictEntry).any (·.refKey) = false := by
      rw [List.any_cons, List.any_cons, List.any_cons, List.any_cons, List.any_cons, List.any_nil, k1.refKey, k2.refKey, k3.refKey, k4.refKey, k5.refKey]
      rfl
    show (if ([e1, e2, e3, e4, e5] : List DictEntry).any (·.refKey) = true then none else some none) = _
    rw [this]
    rfl
  refine ⟨⟨_, _, ⟨l, ⟨k1.lit, k2.lit, k3.lit, k4.lit, k5.lit, trivial⟩, ne⟩⟩, fun z v h => ?_, fun z h => ?_⟩
  · rw [lk_cons, lk_cons, lk_cons, lk_cons, lk_cons] at h
    rw [ns]
    by_cases q1 : z = "link"
    · rw [if_pos q1] at h ⊢
      cases h
      exact ⟨_, rfl, rfl⟩
    rw [if_neg q1] at h ⊢
    by_cases q2 : z = "cut"
    · rw [if_pos q2] at h ⊢
      cases h
      exact ⟨_, rfl, rfl⟩
    rw [if_neg q2] at h ⊢
    by_cases q3 : z = "turn"
    · rw [if_pos q3] at h ⊢
      cases h
      exact ⟨_, rfl, rfl⟩
    rw [if_neg q3] at h ⊢
    by_cases q4 : z = "put"
    · rw [if_pos q4] at h ⊢
      cases h
      exact ⟨_, rfl, rfl⟩
    rw [if_neg q4] at h ⊢
    by_cases q5 : z = "add"
    · rw [if_pos q5] at h ⊢
      cases h
      exact ⟨_, rfl, rfl⟩
    rw [if_neg q5] at h
    cases h
  · have fm := forms_none h
    obtain ⟨q1, q2, q3, q4, q5⟩ := fm_none fm
    rw [ns, if_neg q1, if_neg q2, if_neg q3, if_neg q4, if_neg q5]
theorem sqT_mk {K : PySem.W.Frag} {a : Addr} {dd : Option Addr} {its : Array Value} {n : Nat} {sl : Array (Option Value)} {xs : List V} (l : K.lookup a = some ⟨.type "tuple", dd, .seq its n, sl⟩) (hz : its.size ≤ 100) (r : Vals xs its.toList) : ∀ H, SqT K H a xs := fun H =>
  .inr ⟨_, its, n, l, rfl, rfl, Nat.le_trans hz (small (by decide)), r⟩
end W2
namespace W2
open PySem PySem.Spec PyProof.Rows L2
section
variable {P : Program} {w : World} {K : PySem.W.Frag} {mg : Str → Option Value} {base : Heap} {C fI : Addr}
theorem ok_isint (D : Def K mg "is_integer" s_isint ["thing"]) (T : Txt K mg)  (FC : ForC K mg C fI) : Cal P w K mg base 1 "is_integer" ["thing"] (spIsInt C) := by
  refine D.cal sc_isint (fun vs H Q E h => ?_) (fun f cdv A outer s H vs Q E hr h => ?_)
  · obtain ⟨h, x, rfl, _⟩ := h
    rfl
  · obtain ⟨h, x, rfl, a, k⟩ := h
    obtain ⟨t, ty, k1, k2⟩ := any_kit FC.own a
    refine ⟨_, (pss_one (ps_ret (pe_and (pe_callB (call_isiK1 (K := K) rfl) (by rfl) T.n_isinstance (by decide +kernel) (pa_cons (pv 0) (pa_cons (pe_bltn (v := .ty "int") (by rfl) T.n_int (by decide +kernel) rfl) pa_nil))) (pe_one (pe_not (pe_callB (call_isiK1 (K := K) rfl) (by rfl) T.n_isinstance (by decide +kernel) (pa_cons (pv 0) (pa_cons (pe_bltn (v := .ty "bool") (by rfl) T.n_bool (by decide +kernel) rfl) pa_nil)))))))), ?_⟩
    refine ⟨_, rfl, _, _, _, _, _, rfl, .ty _, ty, k1, _, rfl, iteB (fun e => ?_) (fun e => ?_)⟩
    · refine ⟨_, rfl, _, _, _, _, _, rfl, .ty _, ty, k2, _, rfl, ?_⟩
      have e2 : (!isB x) = isI x := by cases x <;> first | rfl | cases e
      rw [e2]
      exact k _ (L2.Same.refl _)
    · have e2 : isI x = false := by cases x <;> first | rfl | cases e
      have r := k _ (L2.Same.refl _)
      rw [e2] at r
      exact r

end
end W2
namespace W2
open PySem PySem.Spec PyProof.Rows L2
section
variable {P : Program} {w : World} {K : PySem.W.Frag} {mg : Str → Option Value} {base : Heap} {C fI : Addr}
theorem ok_ishouse (D : Def K mg "is_house" s_ishouse ["many", "thing"]) (T : Txt K mg) (C_isint : Cal P w K mg base 1 "is_integer" ["thing"] (spIsInt C)) : Cal P w K mg base 2 "is_house" ["many", "thing"] (spIsHouse C) := by
  refine D.cal sc_ishouse (fun vs H Q E h => ?_) (fun f cdv A outer s H vs Q E hr h => ?_)
  · obtain ⟨h, n, x, rfl, _⟩ := h
    rfl
  · obtain ⟨h, n, x, rfl, a, k⟩ := h
    refine ⟨_, (pss_one (ps_ret (pe_and (pcal C_isint hr (by decide) rfl (pa_cons (pv 1) pa_nil)) (pe_one (pe_chain op_le op_lt pe_int (pv 1) (pv 0)))))), ?_⟩
    refine ⟨_, rfl, h, x, rfl, a, fun H1 s1 => ⟨_, rfl, iteB (fun e => ?_) (fun e => ?_)⟩⟩
    · obtain ⟨i, rfl⟩ := isI_of e
      have r := k _ s1
      refine ⟨_, rfl, _, _, rfl, rfl, _, rfl, iteB (fun e1 => ⟨_, rfl, _, _, rfl, rfl, ?_⟩) (fun e1 => ?_)⟩
      · have r : Q (.bl (decide (0 ≤ i) && decide (i < n))) H1 := r
        rw [e1, Bool.true_and] at r
        exact r
      · have r : Q (.bl (decide (0 ≤ i) && decide (i < n))) H1 := r
        rw [e1, Bool.false_and] at r
        exact r
    · have r := k _ s1
      have e2 : hsV n x = false := by cases x <;> first | rfl | cases e
      rw [e2] at r
      exact r

end
end W2
namespace W2
open PySem PySem.Spec PyProof.Rows L2
section
variable {P : Program} {w : World} {K : PySem.W.Frag} {mg : Str → Option Value} {base : Heap} {C fI : Addr}
theorem ok_come (D : Def K mg "_come_to_roots" s_come ["parents"]) (T : Txt K mg)  : Cal P w K mg base 1 "_come_to_roots" ["parents"] (spCome K) := by
  refine D.cal sc_come (fun vs H Q E h => ?_) (fun f cdv A outer s H vs Q E hr h => ?_)
  · obtain ⟨a, ps, rfl, _⟩ := h
    rfl
  · obtain ⟨a, ps, rfl, hA, TR, hz, k⟩ := h
    refine ⟨_, (pss_cons (ps_setLc (i := 1) (own := [("parent", 2)]) (g := gName 2) (tt := tYes) (by rfl) sc_come.nd rfl rfl (sw_true rfl rfl rfl (by decide +kernel)) (pi_tup (pv 0)) (blkOk_by (own := [("parent", 2)]) (N := ["parents", "sure", "parent", "house", "line", "at", "passed"]) (sc := defScope s_come) (by decide +kernel)) (fun _ _ _ _ _ => pg_name (i := 2) sc_come.nd rfl (Or.inl rfl)) (fun _ _ _ _ _ => pts_nil) (fun _ _ _ _ _ => (pe_cmpR op_isN (pv 2) pe_non (nomark _))))
      (pss_cons (ps_for PassesOwn.never rfl (pi_range1 rfl T.n_range (pa_cons (pe_callB (call_lenK (K := K) rfl) (by rfl) T.n_len PySem.boot_len (pa_cons (pv 0) pa_nil)) pa_nil)) (pg_name (i := 3) sc_come.nd rfl (Or.inl rfl)) (pss_cons (ps_set (i := 4) sc_come.nd rfl (Or.inl rfl) (pe_lst pa_nil))
      (pss_cons (ps_set (i := 5) sc_come.nd rfl (Or.inl rfl) (pv 3))
      (pss_cons (ps_while PassesOwn.never (pt_not (pt_val (pe_ix (ix_listK (K := K) rfl) (pv 1) (pv 5) (fun _ _ => rfl)))) (pss_cons (ps_if (pt_cmpR op_eq (pe_callB (call_lenK (K := K) rfl) (by rfl) T.n_len PySem.boot_len (pa_cons (pv 4) pa_nil)) (pe_callB (call_lenK (K := K) rfl) (by rfl) T.n_len PySem.boot_len (pa_cons (pv 0) pa_nil)) (nomark _)) (pss_one (ps_ret pe_bl)) pss_nil)
      (pss_cons (ps_expr (pe_bm PySem.F.plainAttrs_list PySem.F.slot_list_append PySem.F.type_list_append mt_append (pv 4) (pa_cons (pv 5) pa_nil)))
      (pss_one (ps_set (i := 5) sc_come.nd rfl (Or.inl rfl) (pe_ix (ix_tupK (K := K) rfl) (pv 0) (pv 5) (fun _ _ => rfl)))))))
      (pss_one (ps_for PassesOwn.never rfl (pi_list (pv 4)) (pg_name (i := 6) sc_come.nd rfl (Or.inl rfl)) (pss_one (ps_asg pe_bl (pg_sub (pv 1) (pv 6) set_list)))))))))
      (pss_one (ps_ret pe_bl)))), ?_⟩
    -- sure = [parent is None for parent in parents]
    refine ⟨_, rfl, a, rfl, ⟨_, SqT.of hA⟩, fun D hD => ?_⟩
    refine lc_tup (xs := ps.map ov) (fun i H' => L2.Same H H' ∧ H' D = some (.lst (((ps.take i).map Option.isNone).map V.bl))) ⟨same_upd hD, by rw [upd_same]; rfl⟩ (fun i H' _ p => SqT.of (p.1 _ _ hA)) ?_ ?_
    · rintro i x H' hx ⟨sm, hd⟩
      rw [List.getElem?_map] at hx
      cases ho : ps[i]? with
      | none => rw [ho] at hx; cases hx
      | some o =>
        rw [ho] at hx
        have ex : x = ov o := (Option.some.inj hx).symm
        subst ex
        have hi := (List.getElem?_eq_some_iff.mp ho).1
        refine ⟨rfl, _, rfl, rfl, _, hd, ?_, Same.upd sm hD, ?_⟩
        · rw [List.length_map, List.length_map, List.length_take]
          exact smalls (by omega)
        · rw [upd_same, List.take_add_one, ho]
          cases o <;> simp [ov]
    rintro H1 ⟨s1, hd1⟩
    rw [List.length_map, List.take_length] at hd1
    have hA1 := s1 _ _ hA
    -- for house in range(len(parents))
    refine ⟨_, rfl, a, _, rfl, .inr (SqT.of hA1), _, rfl, by omega, by rw [List.length_map]; omega, ?_⟩
    rw [List.length_map, Int.toNat_natCast]
    refine for_range (lo := 0) (n := ps.length) (fun i σ H' => ∃ (v2 v3 v4 v5 v6 : Option V) (bs : List Bool), σ = [some (.ref a), some (.ref D), v2, v3, v4, v5, v6] ∧ L2.Same H H' ∧ H' D = some (.lst (bs.map V.bl)) ∧ bs.length = ps.length ∧ ∀ h : Nat, ps[h]? = some none → bs[h]? = some true)
      ⟨none, none, none, none, none, ps.map Option.isNone, rfl, s1, hd1, List.length_map _, fun h e => by rw [List.getElem?_map, e]; rfl⟩ ?_ ?_
    · rintro h σ H2 hh ⟨v2, v3, v4, v5, v6, bs, rfl, s2, hd2, hb, hr0⟩
      have hA2 := s2 _ _ hA
      obtain ⟨ch, cz⟩ := TR h hh
      obtain ⟨rest, eh⟩ := ch.head
      rw [Int.zero_add]
      -- line = []; at = house
      refine ⟨Nat.zero_le _, fun l hl => ⟨_, rfl, ?_⟩⟩
      have nDl : D ≠ l := ne_of_none hd2 hl
      refine ⟨fun m σ H' => ∃ (j x : Nat), σ = [some (.ref a), some (.ref D), v2, some (nv h), some (.ref l), some (nv x), v6] ∧ (up ps h)[j]? = some x ∧ m = (up ps h).length - j ∧ H' l = some (.lst (((up ps h).take j).map nv)) ∧ L2.Same H2 H',
        ⟨_, 0, h, rfl, by rw [eh]; rfl, rfl, upd_same, same_upd hl⟩, ?_⟩
      rintro m σ H3 ⟨j, x, rfl, hx, rfl, hL, s3⟩
      have hj := (List.getElem?_eq_some_iff.mp hx).1
      have hxl : x < ps.length := ch.lt x (List.mem_of_getElem? hx)
      have hd3 := s3 _ _ hd2
      have hA3 := s3 _ _ hA2
      have hxb : x < bs.length := by omega
      have hbx : bs[x]? = some bs[x] := List.getElem?_eq_getElem hxb
      generalize bs[x] = b0 at hbx
      have hv : (bs.map V.bl)[x]? = some (.bl b0) := by rw [List.getElem?_map, hbx]; rfl
      refine ⟨_, rfl, _, rfl, D, _, _, _, rfl, rfl, SqL.of hd3, atI_nat hv, b0, rfl, iteB (fun nb => ?_) (fun nb => ?_)⟩
      · -- a step up
        have eb : b0 = false := by cases b0 <;> simp_all
        subst eb
        rcases ch.next hx with ⟨e0, _⟩ | ⟨y, e0, e1⟩
        · rw [hr0 x e0] at hbx; cases hbx
        · refine ⟨_, fun σ' H' n => n, ?_⟩
          refine ⟨_, rfl, l, _, rfl, .inl (SqL.of hL), _, rfl, a, _, rfl, .inr (SqT.of hA3), rfl, _, rfl, iteB (fun e => ?_) (fun _ => ?_)⟩
          · exfalso
            have e2 := of_decide_eq_true e
            have e3 : ((((up ps h).take j).map nv).length : Int) = ((ps.map ov).length : Int) := V.int.inj e2
            rw [List.length_map, List.length_map, List.length_take] at e3
            omega
          · refine ⟨_, rfl, .inl ⟨rfl, _, SqL.of hL⟩, _, rfl, l, _, _, rfl, rfl, hL, ?_, ?_⟩
            · rw [List.length_map, List.length_take]
              exact smalls (by omega)
            · have hvp : (ps.map ov)[x]? = some (nv y) := by rw [List.getElem?_map, e0]; rfl
              have nal : a ≠ l := ne_of_none hA2 hl
              refine ⟨_, rfl, _, rfl, a, _, _, _, rfl, rfl, SqT.of (by rw [upd_ne nal]; exact hA3), atI_nat hvp, _, Nat.sub_lt_sub_left hj (Nat.lt_succ_self j), j + 1, y, rfl, e1, rfl, ?_, Same.upd s3 hl⟩
              rw [upd_same, List.take_add_one, hx, List.map_append]
              rfl
      · -- for passed in line: sure[passed] = True
        refine ⟨_, rfl, l, rfl, ⟨_, SqL.of hL⟩, ?_⟩
        refine for_list (K := K) (a := l) (xs := ((up ps h).take j).map nv) (fun i σ H' => ∃ (v6 : Option V) (bs : List Bool), σ = [some (.ref a), some (.ref D), v2, some (nv h), some (.ref l), some (nv x), v6] ∧ L2.Same H H' ∧ H' l = some (.lst (((up ps h).take j).map nv)) ∧ H' D = some (.lst (bs.map V.bl)) ∧ bs.length = ps.length ∧ ∀ h : Nat, ps[h]? = some none → bs[h]? = some true)
          ⟨v6, bs, rfl, s2.trans s3, hL, hd3, hb, hr0⟩ (fun i σ H' _ ⟨_, _, _, _, q, _⟩ => SqL.of q) ?_ ?_
        · rintro i y σ H4 hy ⟨v6, bs, rfl, s4, hL4, hd4, hb4, hr4⟩
          rw [List.getElem?_map] at hy
          cases hy2 : ((up ps h).take j)[i]? with
          | none => rw [hy2] at hy; cases hy
          | some z =>
            rw [hy2] at hy
            have ez : y = nv z := (Option.some.inj hy).symm
            subst ez
            have hzl : z < ps.length := ch.lt z (List.mem_of_mem_take (List.mem_of_getElem? hy2))
            refine ⟨_, rfl, _, rfl, D, _, _, _, rfl, rfl, hd4, ixN_nat (by rw [List.length_map]; omega), ?_⟩
            refine ⟨_, bs.set z true, rfl, Same.upd s4 hD, by rw [upd_ne nDl.symm]; exact hL4, by rw [upd_same, List.map_set], by rw [List.length_set]; exact hb4, fun g e => ?_⟩
            by_cases eg : z = g
            · subst eg
              rw [List.getElem?_set_self (by omega)]
            · rw [List.getElem?_set_ne eg]
              exact hr4 g e
        · rintro σ H4 ⟨v6, bs, rfl, s4, hL4, hd4, hb4, hr4⟩
          exact ⟨_, _, _, _, _, bs, rfl, s4, hd4, hb4, hr4⟩
    · rintro σ H2 ⟨v2, v3, v4, v5, v6, bs, rfl, s2, _⟩
      exact k _ s2

end
end W2
namespace W2
open PySem PySem.Spec PyProof.Rows L2
section
variable {P : Program} {w : World} {K : PySem.W.Frag} {mg : Str → Option Value} {base : Heap} {C fI : Addr}
theorem ok_arepar (D : Def K mg "_are_parents" s_arepar ["thing"]) (T : Txt K mg) (C_ishouse : Cal P w K mg base 2 "is_house" ["many", "thing"] spIsHouse2) (C_come : Cal P w K mg base 1 "_come_to_roots" ["parents"] (spCome K)) : Cal P w K mg base 3 "_are_parents" ["thing"] (spAreP K) := by
  obtain ⟨tk, hmost⟩ := T.most
  refine D.cal sc_arepar (fun vs H Q E h => ?_) (fun f cdv A outer s H vs Q E hr h => ?_)
  · obtain ⟨a, ps, rfl, _⟩ := h
    rfl
  · obtain ⟨a, ps, rfl, hA, TR, h1, hz, k⟩ := h
    refine ⟨_, (pss_cons (ps_if (PW.pt (pw_or (pt_not (pt_val (pe_callB (call_isiK1 (K := K) rfl) (by rfl) T.n_isinstance (by decide +kernel) (pa_cons (pv 0) (pa_cons (pe_bltn (v := .ty "tuple") (by rfl) T.n_tuple (by decide +kernel) rfl) pa_nil))))) (pw_or1 (pt_not (pt_chain op_le op_le pe_int (pe_callB (call_lenK (K := K) rfl) (by rfl) T.n_len PySem.boot_len (pa_cons (pv 0) pa_nil)) (pe_glob (v := .int 64) rfl hmost ⟨_, rfl⟩)))))) (pss_one (ps_ret pe_bl)) pss_nil)
      (pss_cons (ps_if (pt_not (pt_val (pe_callB (cr_all rfl) (by rfl) T.n_all (by decide +kernel) (pa_cons (pe_lc (own := [("parent", 1)]) (g := gName 1) (tt := tYes) (by rfl) sc_arepar.nd (pi_tup (pv 0)) (blkOk_by (own := [("parent", 1)]) (N := ["thing", "parent"]) (sc := defScope s_arepar) (by decide +kernel)) (fun _ _ _ _ _ => pg_name (i := 1) sc_arepar.nd rfl (Or.inl rfl)) (fun _ _ _ _ _ => pts_nil) (fun _ _ _ _ _ => (pe_or (pe_cmpR op_isN (pv 1) pe_non (nomark _)) (pe_one (pcal C_ishouse hr (by decide) rfl (pa_cons (pe_callB (call_lenK (K := K) rfl) (by rfl) T.n_len PySem.boot_len (pa_cons (pv 0) pa_nil)) (pa_cons (pv 1) pa_nil))))))) pa_nil)))) (pss_one (ps_ret pe_bl)) pss_nil)
      (pss_one (ps_ret (pcal C_come hr (by decide) rfl (pa_cons (pv 0) pa_nil)))))), ?_⟩
    refine ⟨_, rfl, _, _, _, _, true, rfl, .ty _, .base (.tup hA), kit_ty (by decide +kernel), true, rfl, iteF ?_⟩
    refine ⟨_, rfl, a, _, rfl, .inr (SqT.of hA), _, _, rfl, rfl, _, rfl, ?_⟩
    rw [List.length_map, decide_eq_true (show (1 : Int) ≤ (ps.length : Int) by omega)]
    refine iteT ⟨_, _, rfl, rfl, _, rfl, ?_⟩
    rw [decide_eq_true (show (ps.length : Int) ≤ 64 by omega)]
    refine iteF ?_
    -- all(parent is None or is_house(len(thing), parent) for parent in thing)
    refine ⟨_, rfl, a, rfl, ⟨_, SqT.of hA⟩, fun D hD => ?_⟩
    refine lc_tup (xs := ps.map ov) (fun i H' => L2.Same H H' ∧ H' D = some (.lst ((List.replicate i true).map V.bl))) ⟨same_upd hD, by rw [upd_same]; rfl⟩ (fun i H' _ p => SqT.of (p.1 _ _ hA)) ?_ ?_
    · rintro i x H' hx ⟨sm, hd⟩
      rw [List.getElem?_map] at hx
      cases ho : ps[i]? with
      | none => rw [ho] at hx; cases hx
      | some o =>
        rw [ho] at hx
        have ex : x = ov o := (Option.some.inj hx).symm
        subst ex
        have hi := (List.getElem?_eq_some_iff.mp ho).1
        have fin : ∀ H2, L2.Same H' H2 → ∃ acc, H2 D = some (.lst acc) ∧ acc.length < sizeLine ∧ L2.Same H (L2.upd H2 D (.lst (acc ++ [V.bl true]))) ∧ (L2.upd H2 D (.lst (acc ++ [V.bl true]))) D = some (.lst ((List.replicate (i + 1) true).map V.bl)) := fun H2 s2 =>
          ⟨_, s2 _ _ hd, by rw [List.length_map, List.length_replicate]; exact smalls (by omega), Same.upd (sm.trans s2) hD, by rw [upd_same, List.replicate_succ', List.map_append]; rfl⟩
        refine ⟨rfl, _, rfl, rfl, _, rfl, ?_⟩
        cases o with
        | none => exact iteT (fin _ (L2.Same.refl _))
        | some p =>
          refine iteF ⟨_, rfl, a, _, rfl, .inr (SqT.of (sm _ _ hA)), _, rfl, _, _, rfl, by omega, ?_, fun H2 s2 => fin _ s2⟩
          have hp := (TR i hi).1.par_lt ho
          rw [List.length_map]
          omega
    rintro H1 ⟨s1, hd1⟩
    refine ⟨D, _, rfl, SqL.of hd1, true, ?_, iteF ?_⟩
    · simp
    · exact ⟨_, rfl, a, ps, rfl, s1 _ _ hA, TR, hz, fun H2 s2 => k _ (s1.trans s2)⟩

end
end W2
namespace W2
open PySem PySem.Spec PyProof.Rows L2
section
variable {P : Program} {w : World} {K : PySem.W.Frag} {mg : Str → Option Value} {base : Heap} {C fI : Addr}
theorem ok_arewor (D : Def K mg "_are_worths" s_arewor ["thing", "houses"]) (T : Txt K mg) (C_isint : Cal P w K mg base 1 "is_integer" ["thing"] spIsInt2) : Cal P w K mg base 2 "_are_worths" ["thing", "houses"] (spAreW K) := by
  refine D.cal sc_arewor (fun vs H Q E h => ?_) (fun f cdv A outer s H vs Q E hr h => ?_)
  · obtain ⟨a, ws, rfl, _⟩ := h
    rfl
  · obtain ⟨a, ws, rfl, hA, hz, k⟩ := h
    refine ⟨_, (pss_cons (ps_if (PW.pt (pw_or (pt_not (pt_val (pe_callB (call_isiK1 (K := K) rfl) (by rfl) T.n_isinstance (by decide +kernel) (pa_cons (pv 0) (pa_cons (pe_bltn (v := .ty "tuple") (by rfl) T.n_tuple (by decide +kernel) rfl) pa_nil))))) (pw_or1 (pt_cmpR op_ne (pe_callB (call_lenK (K := K) rfl) (by rfl) T.n_len PySem.boot_len (pa_cons (pv 0) pa_nil)) (pv 1) (nomark _))))) (pss_one (ps_ret pe_bl)) pss_nil)
      (pss_one (ps_ret (pe_callB (cr_all rfl) (by rfl) T.n_all (by decide +kernel) (pa_cons (pe_lc (own := [("worth", 2)]) (g := gName 2) (tt := tYes) (by rfl) sc_arewor.nd (pi_tup (pv 0)) (blkOk_by (own := [("worth", 2)]) (N := ["thing", "houses", "worth"]) (sc := defScope s_arewor) (by decide +kernel)) (fun _ _ _ _ _ => pg_name (i := 2) sc_arewor.nd rfl (Or.inl rfl)) (fun _ _ _ _ _ => pts_nil) (fun _ _ _ _ _ => (pcal C_isint hr (by decide) rfl (pa_cons (pv 2) pa_nil)))) pa_nil))))), ?_⟩
    refine ⟨_, rfl, _, _, _, _, true, rfl, .ty _, .base (.tup hA), kit_ty (by decide +kernel), true, rfl, iteF ?_⟩
    refine ⟨_, rfl, a, _, rfl, .inr (SqT.of hA), _, rfl, rfl, _, rfl, ?_⟩
    rw [List.length_map, decide_eq_true rfl]
    refine iteF ?_
    refine ⟨_, rfl, a, rfl, ⟨_, SqT.of hA⟩, fun D hD => ?_⟩
    refine lc_tup (xs := ws.map V.int) (fun i H' => L2.Same H H' ∧ H' D = some (.lst ((List.replicate i true).map V.bl))) ⟨same_upd hD, by rw [upd_same]; rfl⟩ (fun i H' _ p => SqT.of (p.1 _ _ hA)) ?_ ?_
    · rintro i x H' hx ⟨sm, hd⟩
      rw [List.getElem?_map] at hx
      cases ho : ws[i]? with
      | none => rw [ho] at hx; cases hx
      | some o =>
        rw [ho] at hx
        have ex : x = .int o := (Option.some.inj hx).symm
        subst ex
        have hi := (List.getElem?_eq_some_iff.mp ho).1
        refine ⟨rfl, _, rfl, o, rfl, fun H2 s2 => ⟨_, s2 _ _ hd, by rw [List.length_map, List.length_replicate]; exact smalls (by omega), Same.upd (sm.trans s2) hD, by rw [upd_same, List.replicate_succ', List.map_append]; rfl⟩⟩
    rintro H1 ⟨s1, hd1⟩
    refine ⟨D, _, rfl, SqL.of hd1, ?_⟩
    have e : ((List.replicate (ws.map V.int).length true).all id) = true := by simp
    rw [e]
    exact k _ s1

end
end W2
namespace W2
open PySem PySem.Spec PyProof.Rows L2
section
variable {P : Program} {w : World} {K : PySem.W.Frag} {mg : Str → Option Value} {base : Heap} {C fI : Addr}
theorem ok_init {fI : Addr} {fdI : FuncData} (F : Fun K "__init__" "Forest.__init__" s_init fI fdI) (T : Txt K mg) (C_arepar : Cal P w K mg base 3 "_are_parents" ["thing"] (spAreP K)) (C_arewor : Cal P w K mg base 2 "_are_worths" ["thing", "houses"] (spAreW K)) (FC : ForC K mg C fI) : FnOk P w K mg base CX0 4 fI fdI ["self", "parents", "worths"] (spInit C) := by
  refine F.ok sc_init (fun vs H Q E h => ?_) (fun cdv A outer s H vs Q E hr h => ?_)
  · obtain ⟨x, dx, a, b, ps, ws, rfl, _⟩ := h
    rfl
  · obtain ⟨x, dx, a, b, ps, ws, rfl, hx, ha, hb, TR, h1, hz, hw, k⟩ := h
    refine ⟨_, (pss_cons (ps_if (pt_not (pt_val (pcal C_arepar hr (by decide) rfl (pa_cons (pv 1) pa_nil)))) pss_never pss_nil)
      (pss_cons (ps_if (pt_not (pt_val (pcal C_arewor hr (by decide) rfl (pa_cons (pv 2) (pa_cons (pe_callB (call_lenK (K := K) rfl) (by rfl) T.n_len PySem.boot_len (pa_cons (pv 1) pa_nil)) pa_nil))))) pss_never pss_nil)
      (pss_cons (ps_fld (pv 0) (pv 1) rfl)
      (pss_one (ps_fld (pv 0) (pv 2) rfl))))), ?_⟩
    refine ⟨_, rfl, a, ps, rfl, ha, TR, h1, hz, fun H1 s1 => ⟨true, rfl, iteF ?_⟩⟩
    refine ⟨_, rfl, _, rfl, a, _, rfl, .inr (SqT.of (s1 _ _ ha)), b, ws, by rw [List.length_map, hw]; rfl, s1 _ _ hb, by omega, fun H2 s2 => ⟨true, rfl, iteF ?_⟩⟩
    have s := s1.trans s2
    refine ⟨_, rfl, _, rfl, x, C, dx, _, rfl, s _ _ hx, FC.cl, FC.nP, by decide, ?_⟩
    refine ⟨_, rfl, _, rfl, x, C, dx, _, rfl, upd_same, FC.cl, FC.nW, by show 1 < 1000; decide, ?_⟩
    exact k _ (fun c o n e => by rw [upd_ne n, upd_ne n]; exact s _ _ e) upd_same

end
end W2
namespace W2
open PySem PySem.Spec PyProof.Rows L2
section
variable {P : Program} {w : World} {K : PySem.W.Frag} {mg : Str → Option Value} {base : Heap} {C fI : Addr}
theorem ok_many (D : Def K mg "many" s_many ["forest"]) (T : Txt K mg)  (FC : ForC K mg C fI) : Cal P w K mg base 1 "many" ["forest"] (spMany C) := by
  refine D.cal sc_many (fun vs H Q E h => ?_) (fun f cdv A outer s H vs Q E hr h => ?_)
  · obtain ⟨f, ps, rfl, _⟩ := h
    rfl
  · obtain ⟨f, ps, rfl, ⟨⟨ws, dx, a, b, F⟩, _⟩, k⟩ := h
    refine ⟨_, (pss_one (ps_ret (pe_callB (call_lenK (K := K) rfl) (by rfl) T.n_len PySem.boot_len (pa_cons (pe_fld (pv 0) rfl) pa_nil)))), ?_⟩
    refine ⟨_, rfl, f, C, dx, _, _, rfl, F.o, FC.cl, FC.nP, pf_parents a b, a, _, rfl, .inr (SqT.of F.p), ?_⟩
    rw [List.length_map]
    exact k _ (L2.Same.refl _)

end
end W2
namespace W2
open PySem PySem.Spec PyProof.Rows L2
section
variable {P : Program} {w : World} {K : PySem.W.Frag} {mg : Str → Option Value} {base : Heap} {C fI : Addr}
theorem ok_need (D : Def K mg "_need_house" s_need ["forest", "thing"]) (T : Txt K mg) (C_ishouse : Cal P w K mg base 2 "is_house" ["many", "thing"] spIsHouse2) (C_many : Cal P w K mg base 1 "many" ["forest"] (spMany C)) : Cal P w K mg base 3 "_need_house" ["forest", "thing"] (spNeed C) := by
  refine D.cal sc_need (fun vs H Q E h => ?_) (fun f cdv A outer s H vs Q E hr h => ?_)
  · obtain ⟨f, ps, h, rfl, _⟩ := h
    rfl
  · obtain ⟨f, ps, h, rfl, HS, hl, k⟩ := h
    refine ⟨_, (pss_one (ps_if (pt_not (pt_val (pcal C_ishouse hr (by decide) rfl (pa_cons (pcal C_many hr (by decide) rfl (pa_cons (pv 0) pa_nil)) (pa_cons (pv 1) pa_nil))))) pss_never pss_nil)), ?_⟩
    refine ⟨_, rfl, f, ps, rfl, HS, fun H1 s1 => ⟨_, rfl, _, _, rfl, by omega, by omega, fun H2 s2 => ⟨true, rfl, iteF ?_⟩⟩⟩
    exact k _ (s1.trans s2)

end
end W2
namespace W2
open PySem PySem.Spec PyProof.Rows L2
section
variable {P : Program} {w : World} {K : PySem.W.Frag} {mg : Str → Option Value} {base : Heap} {C fI : Addr}
theorem ok_wayup (D : Def K mg "_way_up" s_wayup ["forest", "house"]) (T : Txt K mg) (C_need : Cal P w K mg base 3 "_need_house" ["forest", "thing"] (spNeed C)) (FC : ForC K mg C fI) : Cal P w K mg base 4 "_way_up" ["forest", "house"] (spWayUp C) := by
  refine D.cal sc_wayup (fun vs H Q E h => ?_) (fun f cdv A outer s H vs Q E hr h => ?_)
  · obtain ⟨f, ps, h, rfl, _⟩ := h
    rfl
  · obtain ⟨f, ps, h, rfl, HS, hl, k⟩ := h
    obtain ⟨⟨ws, dx, a, b, F⟩, TR, hz⟩ := id HS
    obtain ⟨ch, cz⟩ := TR h hl
    obtain ⟨rest, eh⟩ := ch.head
    refine ⟨_, (pss_cons (ps_expr (pcal C_need hr (by decide) rfl (pa_cons (pv 0) (pa_cons (pv 1) pa_nil))))
      (pss_cons (ps_set (i := 2) sc_wayup.nd rfl (Or.inl rfl) (pe_lst (pa_cons (pv 1) pa_nil)))
      (pss_cons (ps_while PassesOwn.never (pt_cmpR op_notN (pe_ix (ix_tupK (K := K) rfl) (pe_fld (pv 0) rfl) (pe_ix (ix_listK (K := K) rfl) (pv 2) (pe_un un_neg pe_int) (fun _ _ => rfl)) (fun _ _ => rfl)) pe_non (nomark _)) (pss_one (ps_expr (pe_bm PySem.F.plainAttrs_list PySem.F.slot_list_append PySem.F.type_list_append mt_append (pv 2) (pa_cons (pe_ix (ix_tupK (K := K) rfl) (pe_fld (pv 0) rfl) (pe_ix (ix_listK (K := K) rfl) (pv 2) (pe_un un_neg pe_int) (fun _ _ => rfl)) (fun _ _ => rfl)) pa_nil)))))
      (pss_one (ps_ret (pv 2)))))), ?_⟩
    refine ⟨_, rfl, _, rfl, f, ps, h, rfl, HS, hl, fun H1 s1 => ⟨_, rfl, small (by show 1 ≤ 100000; decide), fun p hp => ?_⟩⟩
    refine ⟨fun m σ H2 => ∃ i, i < (up ps h).length ∧ m = (up ps h).length - i ∧ σ = [some (.ref f), some (nv h), some (.ref p)] ∧ L2.Same H1 H2 ∧ H2 p = some (.lst (((up ps h).take (i + 1)).map nv)),
      ⟨_, 0, by rw [eh]; simp, rfl, rfl, same_upd hp, by rw [upd_same, eh]; rfl⟩, ?_⟩
    rintro m σ H2 ⟨i, hi, rfl, rfl, s2, hL⟩
    have F2 := (F.same s1).same s2
    have hx : (up ps h)[i]? = some (up ps h)[i] := List.getElem?_eq_getElem hi
    generalize (up ps h)[i] = x at hx
    have hlast : (((up ps h).take (i + 1)).map nv).getLast? = some (nv x) := by
      rw [List.getLast?_eq_getElem?, List.length_map, List.length_take, Nat.min_eq_left (by omega), List.getElem?_map, List.getElem?_take, if_pos (by omega), Nat.add_sub_cancel, hx]
      rfl
    have hxl : x < ps.length := ch.lt x (List.mem_of_getElem? hx)
    rcases ch.next hx with ⟨e0, e1⟩ | ⟨y, e0, e1⟩
    · have hv : (ps.map ov)[x]? = some V.non := by rw [List.getElem?_map, e0]; rfl
      refine ⟨_, rfl, f, C, dx, _, _, rfl, F2.o, FC.cl, FC.nP, pf_parents a b, _, rfl, 1, rfl, p, _, _, _, rfl, rfl, SqL.of hL, atI_last hlast, a, _, _, _, rfl, rfl, SqT.of F2.p, atI_nat hv, rfl, _, rfl, iteF ?_⟩
      refine ⟨_, rfl, k _ p (s1.trans s2) (s1.free hp) ?_⟩
      rw [hL, e1, List.take_length]
    · have hv : (ps.map ov)[x]? = some (nv y) := by rw [List.getElem?_map, e0]; rfl
      refine ⟨_, rfl, f, C, dx, _, _, rfl, F2.o, FC.cl, FC.nP, pf_parents a b, _, rfl, 1, rfl, p, _, _, _, rfl, rfl, SqL.of hL, atI_last hlast, a, _, _, _, rfl, rfl, SqT.of F2.p, atI_nat hv, rfl, _, rfl, iteT ?_⟩
      refine ⟨_, fun σ' H' n => n, ?_⟩
      refine ⟨_, rfl, .inl ⟨rfl, _, SqL.of hL⟩, _, rfl, f, C, dx, _, _, rfl, F2.o, FC.cl, FC.nP, pf_parents a b, _, rfl, 1, rfl, p, _, _, _, rfl, rfl, SqL.of hL, atI_last hlast, a, _, _, _, rfl, rfl, SqT.of F2.p, atI_nat hv, p, _, _, rfl, rfl, hL, ?_, ?_⟩
      · rw [List.length_map, List.length_take]
        exact smalls (by omega)
      · refine ⟨_, Nat.sub_lt_sub_left hi (Nat.lt_succ_self i), i + 1, (List.getElem?_eq_some_iff.mp e1).1, rfl, rfl, Same.upd s2 hp, ?_⟩
        rw [upd_same, List.take_add_one (i := i + 1), e1, List.map_append]
        rfl

end
end W2
namespace W2
open PySem PySem.Spec PyProof.Rows L2
section
variable {P : Program} {w : World} {K : PySem.W.Frag} {mg : Str → Option Value} {base : Heap} {C fI : Addr}
theorem ok_root (D : Def K mg "root" s_root ["forest", "house"]) (T : Txt K mg) (C_wayup : Cal P w K mg base 4 "_way_up" ["forest", "house"] (spWayUp C)) : Cal P w K mg base 5 "root" ["forest", "house"] (spRoot C) := by
  refine D.cal sc_root (fun vs H Q E h => ?_) (fun f cdv A outer s H vs Q E hr h => ?_)
  · obtain ⟨f, ps, h, rfl, _⟩ := h
    rfl
  · obtain ⟨f, ps, h, rfl, HS, hl, k⟩ := h
    refine ⟨_, (pss_one (ps_ret (pe_ix (ix_listK (K := K) rfl) (pcal C_wayup hr (by decide) rfl (pa_cons (pv 0) (pa_cons (pv 1) pa_nil))) (pe_un un_neg pe_int) (fun _ _ => rfl)))), ?_⟩
    refine ⟨_, rfl, _, rfl, f, ps, h, rfl, HS, hl, fun H1 p s1 hp hL => ⟨1, rfl, p, _, _, _, rfl, rfl, SqL.of hL, atI_last ?_, k _ s1⟩⟩
    obtain ⟨r, e1, _⟩ := (HS.2.1 h hl).1.last
    rw [List.getLast?_map, e1]
    show some (nv r) = some (nv (rt ps h))
    unfold rt
    rw [List.getLastD_eq_getLast?, e1]
    rfl

end
end W2
namespace W2
open PySem PySem.Spec PyProof.Rows L2
section
variable {P : Program} {w : World} {K : PySem.W.Frag} {mg : Str → Option Value} {base : Heap} {C fI : Addr}
theorem ok_common (D : Def K mg "common" s_common ["forest", "one", "other"]) (T : Txt K mg) (C_wayup : Cal P w K mg base 4 "_way_up" ["forest", "house"] (spWayUp C)) : Cal P w K mg base 5 "common" ["forest", "one", "other"] (spCommon C) := by
  refine D.cal sc_common (fun vs H Q E h => ?_) (fun f cdv A outer s H vs Q E hr h => ?_)
  · obtain ⟨f, ps, h, g, rfl, _⟩ := h
    rfl
  · obtain ⟨f, ps, h, g, rfl, HS, hl, gl, k⟩ := h
    refine ⟨_, (pss_cons (ps_set (i := 3) sc_common.nd rfl (Or.inl rfl) (pcal C_wayup hr (by decide) rfl (pa_cons (pv 0) (pa_cons (pv 1) pa_nil))))
      (pss_cons (ps_for PassesOwn.never rfl (pi_list (pcal C_wayup hr (by decide) rfl (pa_cons (pv 0) (pa_cons (pv 2) pa_nil)))) (pg_name (i := 4) sc_common.nd rfl (Or.inl rfl)) (pss_one (ps_if (pt_cmpR (op_inK (K := K) rfl) (pv 4) (pv 3) (by rfl)) (pss_one (ps_ret (pv 4))) pss_nil)))
      (pss_one (ps_ret pe_non)))), ?_⟩
    have ch := HS.2.1 h hl
    have cg := HS.2.1 g gl
    refine ⟨_, rfl, _, rfl, f, ps, h, rfl, HS, hl, fun H1 p s1 hp hL => ?_⟩
    refine ⟨_, rfl, _, rfl, f, ps, g, rfl, HS.same s1, gl, fun H2 q s2 hq hL2 => ⟨q, rfl, ⟨_, SqL.of hL2⟩, ?_⟩⟩
    have hL1 := s2 _ _ hL
    refine for_list (K := K) (a := q) (xs := (up ps g).map nv) (fun i σ H' => ∃ v4 : Option V, σ = [some (.ref f), some (nv h), some (nv g), some (.ref p), v4] ∧ L2.Same H2 H' ∧ ∀ (j y : Nat), j < i → (up ps g)[j]? = some y → y ∉ up ps h)
      ⟨none, rfl, L2.Same.refl _, fun j y hj => by omega⟩ (fun i σ H' _ ⟨_, _, sm, _⟩ => SqL.of (sm _ _ hL2)) ?_ ?_
    · rintro i x σ H3 hx ⟨v4, rfl, s3, hn⟩
      rw [List.getElem?_map] at hx
      cases hy : (up ps g)[i]? with
      | none => rw [hy] at hx; cases hx
      | some y =>
        rw [hy] at hx
        have ez : x = nv y := (Option.some.inj hx).symm
        subst ez
        refine ⟨_, rfl, _, rfl, p, _, rfl, .inl (SqL.of (s3 _ _ hL1)), rfl, flat_nv _, _, rfl, ?_⟩
        show if (inV (nv y) ((up ps h).map nv)) = true then _ else _
        rw [inV_nv]
        refine iteB (fun e => ?_) (fun e => ?_)
        · refine ⟨_, rfl, ?_⟩
          have r := k _ ((s1.trans s2).trans s3)
          rw [fnd_comm ch.1 cg.1, fnd_some hy (of_decide_eq_true e) hn] at r
          exact r
        · refine ⟨_, rfl, s3, fun j z hj hz => ?_⟩
          by_cases ej : j = i
          · subst ej
            rw [hy] at hz
            cases hz
            exact of_decide_eq_false e
          · exact hn j z (by omega) hz
    · rintro σ H3 ⟨v4, rfl, s3, hn⟩
      have r := k _ ((s1.trans s2).trans s3)
      rw [fnd_comm ch.1 cg.1, fnd_none (fun j y hy => hn j y (by rw [List.length_map]; exact (List.getElem?_eq_some_iff.mp hy).1) hy)] at r
      exact r

end
end W2
namespace W2
open PySem PySem.Spec PyProof.Rows L2
section
variable {P : Program} {w : World} {K : PySem.W.Frag} {mg : Str → Option Value} {base : Heap} {C fI : Addr}
theorem ok_way (D : Def K mg "way" s_way ["forest", "one", "other"]) (T : Txt K mg) (C_common : Cal P w K mg base 5 "common" ["forest", "one", "other"] (spCommon C)) (C_wayup : Cal P w K mg base 4 "_way_up" ["forest", "house"] (spWayUp C)) : Cal P w K mg base 6 "way" ["forest", "one", "other"] (spWay C) := by
  refine D.cal sc_way (fun vs H Q E h => ?_) (fun f cdv A outer s H vs Q E hr h => ?_)
  · obtain ⟨f, ps, h, g, rfl, _⟩ := h
    rfl
  · obtain ⟨f, ps, h, g, rfl, HS, hl, gl, k0, k1⟩ := h
    refine ⟨_, (pss_cons (ps_set (i := 3) sc_way.nd rfl (Or.inl rfl) (pcal C_common hr (by decide) rfl (pa_cons (pv 0) (pa_cons (pv 1) (pa_cons (pv 2) pa_nil)))))
      (pss_cons (ps_if (pt_cmpR op_isN (pv 3) pe_non (nomark _)) (pss_one (ps_ret pe_non)) pss_nil)
      (pss_cons (ps_set (i := 4) sc_way.nd rfl (Or.inl rfl) (pcal C_wayup hr (by decide) rfl (pa_cons (pv 0) (pa_cons (pv 1) pa_nil))))
      (pss_cons (ps_set (i := 5) sc_way.nd rfl (Or.inl rfl) (pcal C_wayup hr (by decide) rfl (pa_cons (pv 0) (pa_cons (pv 2) pa_nil))))
      (pss_cons (ps_set (i := 4) sc_way.nd rfl (Or.inl rfl) (pe_slice sl_list (pv 4) po_none (po_some (pe_bm PySem.F.plainAttrs_list PySem.F.slot_list_index PySem.F.type_list_index mt_index (pv 4) (pa_cons (pv 3) pa_nil)))))
      (pss_cons (ps_set (i := 5) sc_way.nd rfl (Or.inl rfl) (pe_slice sl_list (pv 5) po_none (po_some (pe_bm PySem.F.plainAttrs_list PySem.F.slot_list_index PySem.F.type_list_index mt_index (pv 5) (pa_cons (pv 3) pa_nil)))))
      (pss_one (ps_ret (pe_callTy call_tuple_of (by rfl) T.n_tuple (by decide +kernel) (pa_cons (pe_op op_cat (pe_op op_cat (pv 4) (pe_lst (pa_cons (pv 3) pa_nil))) (pe_revL (pv 5))) pa_nil)))))))))), ?_⟩
    have ch := HS.2.1 h hl
    have cg := HS.2.1 g gl
    have hz := HS.2.2
    refine ⟨_, rfl, _, rfl, _, rfl, f, ps, h, g, rfl, HS, hl, gl, fun H1 s1 => ?_⟩
    cases e : fnd (up ps h) (up ps g) with
    | none =>
      refine ⟨_, rfl, rfl, _, rfl, iteT ?_⟩
      exact k0 e _ s1
    | some x =>
      obtain ⟨xm, pre, post, e1, _⟩ := fnd_split e
      have xl : x ∈ up ps h := by rw [e1]; simp
      have il : (up ps h).idxOf x < (up ps h).length := List.idxOf_lt_length_of_mem xl
      have im : (up ps g).idxOf x < (up ps g).length := List.idxOf_lt_length_of_mem xm
      refine ⟨_, rfl, rfl, _, rfl, iteF ?_⟩
      have HS1 := HS.same s1
      -- rise, fall
      refine ⟨_, rfl, _, rfl, f, ps, h, rfl, HS1, hl, fun H2 r s2 hr hR => ?_⟩
      refine ⟨_, rfl, _, rfl, f, ps, g, rfl, HS1.same s2, gl, fun H3 q s3 hq hF => ?_⟩
      have hR3 := s3 _ _ hR
      -- rise = rise[:rise.index(meeting)]
      refine ⟨_, rfl, _, rfl, .inl ⟨rfl, _, SqL.of hR3⟩, _, rfl, r, _, _, (up ps h).idxOf x, _, rfl, rfl, SqL.of hR3, rfl, flat_nv _, idx_at xl, eqV_self x, idx_no, _, rfl, r, _, rfl, SqL.of hR3, fun a ha => ?_⟩
      rw [cut_to _ _ (by rw [List.length_map]; omega)]
      have s4 : L2.Same H3 (L2.upd H3 a (.lst (((up ps h).map nv).take ((up ps h).idxOf x)))) := same_upd ha
      -- fall = fall[:fall.index(meeting)]
      refine ⟨_, rfl, _, rfl, .inl ⟨rfl, _, SqL.of (s4 _ _ hF)⟩, _, rfl, q, _, _, (up ps g).idxOf x, _, rfl, rfl, SqL.of (s4 _ _ hF), rfl, flat_nv _, idx_at xm, eqV_self x, idx_no, _, rfl, q, _, rfl, SqL.of (s4 _ _ hF), fun b hb => ?_⟩
      rw [cut_to _ _ (by rw [List.length_map]; omega)]
      have s5 := s4.trans (same_upd (o := .lst (((up ps g).map nv).take ((up ps g).idxOf x))) hb)
      -- tuple(rise + [meeting] + fall[::-1])
      refine ⟨_, rfl, _, rfl, small (by show 1 ≤ 100000; decide), fun m hm => ?_⟩
      have s6 := s5.trans (same_upd (o := .lst [nv x]) hm)
      have nbm : b ≠ m := fun z => by subst z; rw [upd_same] at hm; cases hm
      have nam : a ≠ m := fun z => by
        subst z
        rw [(same_upd (o := .lst (((up ps g).map nv).take ((up ps g).idxOf x))) hb) _ _ upd_same] at hm
        cases hm
      have nab : a ≠ b := fun z => by subst z; rw [upd_same] at hb; cases hb
      refine ⟨a, m, _, _, rfl, rfl, by rw [upd_ne nam, upd_ne nab, upd_same], upd_same, ?_, fun p hp => ?_⟩
      · rw [List.length_take, List.length_map]
        exact small (by show _ + 1 ≤ _; omega)
      · have s7 := s6.trans (same_upd (o := .lst (((up ps h).map nv).take ((up ps h).idxOf x) ++ [nv x])) hp)
        refine ⟨_, rfl, b, _, rfl, SqL.of ((same_upd hp) _ _ ((same_upd hm) _ _ upd_same)), fun v hv => ?_⟩
        have s8 := s7.trans (same_upd (o := .lst (((up ps g).map nv).take ((up ps g).idxOf x)).reverse) hv)
        have npv : p ≠ v := fun z => by subst z; rw [upd_same] at hv; cases hv
        refine ⟨p, v, _, _, rfl, rfl, by rw [upd_ne npv, upd_same], upd_same, ?_, fun w hw => ?_⟩
        · rw [List.length_append, List.length_reverse, List.length_take, List.length_take, List.length_map, List.length_map]
          exact small (by show _ + 1 + _ ≤ _; omega)
        · have s9 := s8.trans (same_upd (o := .lst ((((up ps h).map nv).take ((up ps h).idxOf x) ++ [nv x]) ++ (((up ps g).map nv).take ((up ps g).idxOf x)).reverse)) hw)
          refine ⟨w, _, rfl, .inl ⟨SqL.of upd_same, fun t ht => ?_⟩⟩
          have sA := (((s1.trans s2).trans s3).trans s9)
          refine k1 x e _ t (sA.trans (same_upd ht)) (sA.free ht) ?_
          rw [upd_same]
          unfold wayOf
          rw [List.map_append, List.map_append, List.map_take, List.map_reverse, List.map_take]
          rfl

end
end W2
namespace W2
open PySem PySem.Spec PyProof.Rows L2
section
variable {P : Program} {w : World} {K : PySem.W.Frag} {mg : Str → Option Value} {base : Heap} {C fI CN fN CD fD fF t1 t2 t3 t4 t5 : Addr}
theorem ok_withitem (D : Def K mg "_with_item" s_withitem ["row", "at", "item"]) (T : Txt K mg)  : Cal P w K mg base 1 "_with_item" ["row", "at", "item"] spWithItem := by
  refine D.cal sc_withitem (fun vs H Q E h => ?_) (fun f cdv A outer s H vs Q E hr h => ?_)
  · obtain ⟨r, xs, i, y, rfl, _⟩ := h
    rfl
  · obtain ⟨r, xs, i, y, rfl, hr', hi, hz, k⟩ := h
    refine ⟨_, (pss_one (ps_ret (pe_op op_catA (pe_op op_catA (pe_slice sl_tup (pv 0) po_none (po_some (pv 1))) (pe_tup (pa_cons (pv 2) pa_nil))) (pe_slice sl_tup (pv 0) (po_some (pe_op op_add (pv 1) pe_int)) po_none)))), ?_⟩
    refine ⟨_, rfl, ?_⟩
    unfold tNoPart
    refine ⟨_, rfl, i, rfl, ?_⟩
    show rSlT K (V.ref r) none (some (i : Int)) H _
    refine slT_of hr' (six_to _ _ hi) fun t0 h0 => ?_
    have s1 := same_upd (o := .tup (cutV xs none (some (i : Int)))) h0
    have e0 : (L2.upd H t0 (.tup (cutV xs none (some (i : Int))))) t0 = some (.tup (xs.take i)) := by rw [upd_same, cut_to _ _ (by omega)]
    generalize L2.upd H t0 (.tup (cutV xs none (some (i : Int)))) = H1 at s1 e0
    refine ⟨_, rfl, small (by show 1 ≤ 100000; decide), fun t1 h1 => ?_⟩
    have s2 := same_upd (o := .tup [y]) h1
    refine catA_of (s2 _ _ e0) upd_same (by rw [List.length_take]; show min _ _ + 1 ≤ 100000; omega) fun t2 H3 s3 e3 => ?_
    have z3 := s1.trans (s2.trans s3)
    refine ⟨_, rfl, _, rfl, _, _, rfl, rfl, _, rfl, ?_⟩
    show rSlT K (V.ref r) (some ((i : Int) + 1)) none H3 _
    refine slT_of (z3 _ _ hr') (six_from _ i hi) fun t4 h4 => ?_
    have s4 := same_upd (o := .tup (cutV xs (some ((i : Int) + 1)) none)) h4
    have e4 : (L2.upd H3 t4 (.tup (cutV xs (some ((i : Int) + 1)) none))) t4 = some (.tup (xs.drop (i + 1))) := by
      rw [upd_same, show cutV xs (some ((i : Int) + 1)) none = xs.drop (i + 1) from cut_from _ (i + 1) (by omega)]
    generalize L2.upd H3 t4 (.tup (cutV xs (some ((i : Int) + 1)) none)) = H4 at s4 e4
    refine catA_of (s4 _ _ e3) e4 (by rw [List.length_append, List.length_take, List.length_drop]; show min _ _ + 1 + _ ≤ 100000; omega) fun t5 H5 s5 e5 => k H5 t5 (z3.trans (s4.trans s5)) ?_
    rw [e5, List.set_eq_take_append_cons_drop, if_pos hi]
    simp

end
end W2
namespace W2
open PySem PySem.Spec PyProof.Rows L2
section
variable {P : Program} {w : World} {K : PySem.W.Frag} {mg : Str → Option Value} {base : Heap} {C fI CN fN CD fD fF t1 t2 t3 t4 t5 : Addr}
theorem ok_raised (D : Def K mg "_raised_worths" s_raised ["forest", "houses", "number"]) (T : Txt K mg)  (FC : ForC K mg C fI) : Cal P w K mg base 1 "_raised_worths" ["forest", "houses", "number"] (spRaised C) := by
  refine D.cal sc_raised (fun vs H Q E h => ?_) (fun f cdv A outer s H vs Q E hr h => ?_)
  · obtain ⟨f, t, ps, ws, l, v, rfl, _⟩ := h
    rfl
  · obtain ⟨f, t, ps, ws, l, v, rfl, ⟨dx, a, b, F⟩, ht, hl, k⟩ := h
    refine ⟨_, (pss_cons (ps_set (i := 3) sc_raised.nd rfl (Or.inl rfl) (pe_callTy call_list_of (by rfl) T.n_list (by decide +kernel) (pa_cons (pe_fld (pv 0) rfl) pa_nil)))
      (pss_cons (ps_for PassesOwn.never rfl (pi_tup (pv 1)) (pg_name (i := 4) sc_raised.nd rfl (Or.inl rfl)) (pss_one (ps_augS (pv 3) (pv 4) (get_listK (K := K) rfl) (pv 2) ip_add set_list)))
      (pss_one (ps_ret (pe_callTy call_tuple_of (by rfl) T.n_tuple (by decide +kernel) (pa_cons (pv 3) pa_nil)))))), ?_⟩
    refine ⟨_, rfl, f, C, dx, _, _, rfl, F.o, FC.own.cl, FC.nW, pf_worths a b, b, _, rfl, .inr (SqT.of F.w), fun D hD => ?_⟩
    have s1 := same_upd (o := .lst (ws.map V.int)) hD
    refine ⟨_, rfl, t, rfl, ⟨_, SqT.of (s1 _ _ ht)⟩, ?_⟩
    refine for_it (walk_tup (K := K) (a := t) (xs := l.map nv)) (fun i σ H' => ∃ v4 : Option V, σ = [some (.ref f), some (.ref t), some (.int v), some (.ref D), v4] ∧ L2.Same H H' ∧ H' D = some (.lst ((addW ws v (l.take i)).map V.int)))
      ⟨none, rfl, s1, upd_same⟩ (fun i σ H' _ ⟨_, _, sm, _⟩ => SqT.of (sm _ _ ht)) ?_ ?_
    · rintro i x σ H' H2 hi ⟨v4, rfl, sm, hd⟩ ⟨rfl, hx⟩
      rw [List.getElem?_map] at hx
      cases hy : l[i]? with
      | none => rw [hy] at hx; cases hx
      | some y =>
        rw [hy] at hx
        have ex : x = nv y := (Option.some.inj hx).symm
        subst ex
        have yl : y < (addW ws v (l.take i)).length := by rw [addW_len]; exact hl y (List.mem_of_getElem? hy)
        refine ⟨_, rfl, _, rfl, D, _, y, .int ((addW ws v (l.take i)).getD y 0), rfl, rfl, SqL.of hd, ?_, ?_⟩
        · rw [List.getElem?_map, List.getD_eq_getElem?_getD, List.getElem?_eq_getElem yl]
          rfl
        refine ⟨_, rfl, _, _, rfl, rfl, D, _, _, _, rfl, rfl, hd, ixN_nat (by rw [List.length_map]; exact yl), ?_⟩
        refine ⟨_, rfl, Same.upd sm hD, ?_⟩
        rw [upd_same, List.take_add_one, hy]
        show _ = some (HO.lst ((addW ws v (l.take i ++ [y])).map V.int))
        rw [addW_snoc, List.map_set]
    · rintro σ H' ⟨v4, rfl, sm, hd⟩
      rw [List.length_map, List.take_length] at hd
      exact ⟨_, rfl, D, _, rfl, .inl ⟨SqL.of hd, fun t2 ht2 => k _ t2 (sm.trans (same_upd ht2)) upd_same⟩⟩

end
end W2
namespace W2
open PySem PySem.Spec PyProof.Rows L2
section
variable {P : Program} {w : World} {K : PySem.W.Frag} {mg : Str → Option Value} {base : Heap} {C fI CN fN CD fD fF t1 t2 t3 t4 t5 : Addr}
theorem ok_turned (D : Def K mg "_turned_parents" s_turned ["forest", "house"]) (T : Txt K mg) (C_way : Cal P w K mg base 6 "way" ["forest", "one", "other"] (spWay C)) (C_root : Cal P w K mg base 5 "root" ["forest", "house"] (spRoot C)) (FC : ForC K mg C fI) : Cal P w K mg base 7 "_turned_parents" ["forest", "house"] (spTurned C) := by
  refine D.cal sc_turned (fun vs H Q E h => ?_) (fun f cdv A outer s H vs Q E hr h => ?_)
  · obtain ⟨f, ps, h, rfl, _⟩ := h
    rfl
  · obtain ⟨f, ps, h, rfl, HS, hl, k⟩ := h
    obtain ⟨⟨ws, dx, a, b, F⟩, TR, n64⟩ := id HS
    obtain ⟨w1, w2⟩ := way_root TR hl
    have ch := up_ch TR hl
    refine ⟨_, (pss_cons (ps_set (i := 2) sc_turned.nd rfl (Or.inl rfl) (pcal C_way hr (by decide) rfl (pa_cons (pv 0) (pa_cons (pv 1) (pa_cons (pcal C_root hr (by decide) rfl (pa_cons (pv 0) (pa_cons (pv 1) pa_nil))) pa_nil)))))
      (pss_cons (ps_set (i := 3) sc_turned.nd rfl (Or.inl rfl) (pe_callTy call_list_of (by rfl) T.n_list (by decide +kernel) (pa_cons (pe_fld (pv 0) rfl) pa_nil)))
      (pss_cons (ps_asg pe_non (pg_sub (pv 3) (pv 1) set_list))
      (pss_cons (ps_for PassesOwn.never rfl (RZ.pi_zipA (by rfl) T.n_zip (pa_cons (pv 2) (pa_cons (pe_slice sl_tup (pv 2) (po_some pe_int) po_none) pa_nil))) (pg_tup rfl (pgs_cons (pg_name (i := 4) sc_turned.nd rfl (Or.inl rfl)) (pgs_cons (pg_name (i := 5) sc_turned.nd rfl (Or.inl rfl)) pgs_nil))) (pss_one (ps_asg (pv 4) (pg_sub (pv 3) (pv 5) set_list))))
      (pss_one (ps_ret (pe_callTy call_tuple_of (by rfl) T.n_tuple (by decide +kernel) (pa_cons (pv 3) pa_nil)))))))), ?_⟩
    refine ⟨_, rfl, _, rfl, _, rfl, _, rfl, f, ps, h, rfl, HS, hl, fun H1 s1 => ?_⟩
    refine ⟨f, ps, h, rt ps h, rfl, HS.same s1, hl, rt_lt TR hl, fun n => (by rw [w1] at n; cases n), fun x e H2 p s2 _ eP => ?_⟩
    have ex : x = rt ps h := by rw [w1] at e; exact (Option.some.inj e).symm
    subst ex
    rw [w2] at eP
    have s12 := s1.trans s2
    have F2 := F.same s12
    refine ⟨_, rfl, f, C, dx, _, _, rfl, F2.o, FC.own.cl, FC.nP, pf_parents a b, a, _, rfl, .inr (SqT.of F2.p), fun D hD => ?_⟩
    have nDp : p ≠ D := ne_of_none eP hD
    refine ⟨_, rfl, _, rfl, D, _, _, _, rfl, rfl, upd_same, ixN_nat (by rw [List.length_map]; exact hl), ?_⟩
    have s3 : L2.Same H2 (L2.upd (L2.upd H2 D (.lst (ps.map ov))) D (.lst ((ps.map ov).set h V.non))) := Same.upd (same_upd hD) hD
    have e3 : (L2.upd (L2.upd H2 D (.lst (ps.map ov))) D (.lst ((ps.map ov).set h V.non))) D = some (.lst ((turnAt ps (up ps h) 0).map ov)) := by
      rw [upd_same]
      obtain ⟨r, er⟩ := ch.head
      show _ = some (HO.lst ((ps.set ((up ps h).getD 0 0) none).map ov))
      rw [List.map_set, er]
      rfl
    generalize L2.upd (L2.upd H2 D (.lst (ps.map ov))) D (.lst ((ps.map ov).set h V.non)) = H3 at s3 e3
    have eP3 := s3 _ _ eP
    have l0 : 0 < (up ps h).length := by obtain ⟨r, er⟩ := ch.head; rw [er]; simp
    refine ⟨_, rfl, _, rfl, 1, rfl, ?_⟩
    unfold tNoPart
    show rSlT K (V.ref p) (some 1) none H3 _
    refine slT_of eP3 (by rw [List.length_map]; exact six_from _ 0 l0) fun p2 h2 => ?_
    have s4 := same_upd (o := .tup (cutV ((up ps h).map nv) (some 1) none)) h2
    have e4 : (L2.upd H3 p2 (.tup (cutV ((up ps h).map nv) (some 1) none))) p2 = some (.tup (((up ps h).drop 1).map nv)) := by
      rw [upd_same, show cutV ((up ps h).map nv) (some (1 : Int)) none = ((up ps h).map nv).drop 1 from cut_from _ 1 (by rw [List.length_map]; exact l0), List.map_drop]
    have e3' := s4 _ _ e3
    have eP4 := s4 _ _ eP3
    generalize L2.upd H3 p2 (.tup (cutV ((up ps h).map nv) (some 1) none)) = H4 at s4 e4 e3' eP4
    have s24 := s3.trans s4
    have nD2 : p2 ≠ D := fun z => by subst z; rw [e4] at e3'; cases e3'
    refine ⟨p, p2, _, _, rfl, .inr ⟨SqT.of eP4, SqT.of e4, ?_⟩⟩
    refine for_it (walk_zipT (K := K) (a := p) (b := p2) (n := (up ps h).length - 1) (by rw [List.length_map, List.length_map, List.length_drop]; omega)) (fun i σ H' => ∃ v4 v5 : Option V, σ = [some (.ref f), some (nv h), some (.ref p), some (.ref D), v4, v5] ∧ L2.Same H2 H' ∧ H' p = some (.tup ((up ps h).map nv)) ∧ H' p2 = some (.tup (((up ps h).drop 1).map nv)) ∧ H' D = some (.lst ((turnAt ps (up ps h) i).map ov)))
      ⟨none, none, rfl, s24, eP4, e4, e3'⟩ (fun i σ H' _ ⟨_, _, _, _, q1, q2, _⟩ => ⟨SqT.of q1, SqT.of q2⟩) ?_ ?_
    · rintro i v σ H' H5 hi ⟨v4, v5, rfl, sm, q1, q2, q3⟩ ⟨t, x, y, rfl, ht, rfl, hx, hy⟩
      have hi1 : i + 1 < (up ps h).length := by omega
      have ex : x = nv ((up ps h).getD i 0) := by
        have hx : ((up ps h).map nv)[i]? = some x := hx
        rw [List.getElem?_map, getD_of (show i < (up ps h).length by omega)] at hx
        exact (Option.some.inj hx).symm
      have ey : y = nv ((up ps h).getD (i + 1) 0) := by
        have hy : (((up ps h).drop 1).map nv)[i]? = some y := hy
        rw [List.getElem?_map, List.getElem?_drop, Nat.add_comm 1 i, getD_of hi1] at hy
        exact (Option.some.inj hy).symm
      subst ex
      subst ey
      have ntD : D ≠ t := ne_of_none q3 ht
      have st := same_upd (o := .tup [nv ((up ps h).getD i 0), nv ((up ps h).getD (i + 1) 0)]) ht
      refine ⟨t, _, rfl, SqT.of upd_same, rfl, _, _, rfl, _, _, rfl, rfl, ?_⟩
      refine ⟨_, rfl, _, rfl, _, rfl, D, _, _, _, rfl, rfl, st _ _ q3, ixN_nat (by rw [List.length_map, turnAt_len]; exact ch.lt _ (List.mem_of_getElem? (getD_of hi1))), ?_⟩
      refine ⟨_, _, rfl, Same.upd (sm.trans st) hD, by rw [upd_ne nDp]; exact st _ _ q1, by rw [upd_ne nD2]; exact st _ _ q2, ?_⟩
      rw [upd_same]
      show _ = some (HO.lst (((turnAt ps (up ps h) i).set ((up ps h).getD (i + 1) 0) (some ((up ps h).getD i 0))).map ov))
      rw [List.map_set]
      rfl
    · rintro σ H' ⟨v4, v5, rfl, sm, _, _, q3⟩
      exact ⟨_, rfl, D, _, rfl, .inl ⟨SqL.of q3, fun t2 ht2 => k _ t2 ((s12.trans sm).trans (same_upd ht2)) upd_same⟩⟩

end
end W2
namespace W2
open PySem PySem.Spec PyProof.Rows L2
section
variable {P : Program} {w : World} {K : PySem.W.Frag} {mg : Str → Option Value} {base : Heap} {C fI CN fN CD fD fF t1 t2 t3 t4 t5 : Addr}
theorem ok_done (D : Def K mg "_done" s_done ["forest", "deed"]) (T : Txt K mg) (C_withitem : Cal P w K mg base 1 "_with_item" ["row", "at", "item"] spWithItem) (C_turned : Cal P w K mg base 7 "_turned_parents" ["forest", "house"] (spTurned C)) (C_raised : Cal P w K mg base 1 "_raised_worths" ["forest", "houses", "number"] (spRaised C)) (C_way : Cal P w K mg base 6 "way" ["forest", "one", "other"] (spWay C)) (FC : ForC K mg C fI) {fdI : FuncData} (FI : FnOk P w K mg base CX0 4 fI fdI ["self", "parents", "worths"] (spInit C)) (bI : Binds K fdI ["self", "parents", "worths"] []) : Cal P w K mg base 8 "_done" ["forest", "deed"] (spDone C) := by
  refine D.cal sc_done (fun vs H Q E h => ?_) (fun f cdv A outer s H vs Q E hr h => ?_)
  · obtain ⟨f, ps, ws, x, d, rfl, _⟩ := h
    rfl
  · obtain ⟨f, ps, ws, x, d, rfl, FR, ⟨t, rfl, et⟩, ok, can, k⟩ := h
    obtain ⟨dx, a, b, F⟩ := id FR.F
    have TR' := do_tree FR.TR ok can
    have n1' : 1 ≤ (doP ps d).length := by rw [doP_len]; exact FR.n1
    have n64' : (doP ps d).length ≤ 64 := by rw [doP_len]; exact FR.n64
    have lw' : (doW ps ws d).length = (doP ps d).length := by rw [doP_len, doW_len]; exact FR.lw
    have lp : (ps.map ov).length = ps.length := List.length_map _
    have lww : (ws.map V.int).length = ws.length := List.length_map _
    have n64 := FR.n64
    have lw := FR.lw
    refine ⟨_, (pss_cons (ps_set (i := 2) sc_done.nd rfl (Or.inl rfl) (pe_ix (ix_tupK (K := K) rfl) (pv 1) pe_int (fun _ _ => rfl)))
      (pss_cons (ps_set (i := 3) sc_done.nd rfl (Or.inl rfl) (pe_ix (ix_tupK (K := K) rfl) (pv 1) pe_int (fun _ _ => rfl)))
      (pss_cons (ps_if (pt_cmpR op_eq (pv 2) pe_str (nomark _)) (pss_one (ps_ret (pe_make FC.M FI (hr.mono (by decide)) rfl FC.mgC bI .nil pass0 (pa_cons (pcal C_withitem hr (by decide) rfl (pa_cons (pe_fld (pv 0) rfl) (pa_cons (pv 3) (pa_cons (pe_ix (ix_tupK (K := K) rfl) (pv 1) pe_int (fun _ _ => rfl)) pa_nil)))) (pa_cons (pe_fld (pv 0) rfl) pa_nil))))) pss_nil)
      (pss_cons (ps_if (pt_cmpR op_eq (pv 2) pe_str (nomark _)) (pss_one (ps_ret (pe_make FC.M FI (hr.mono (by decide)) rfl FC.mgC bI .nil pass0 (pa_cons (pcal C_withitem hr (by decide) rfl (pa_cons (pe_fld (pv 0) rfl) (pa_cons (pv 3) (pa_cons pe_non pa_nil)))) (pa_cons (pe_fld (pv 0) rfl) pa_nil))))) pss_nil)
      (pss_cons (ps_if (pt_cmpR op_eq (pv 2) pe_str (nomark _)) (pss_one (ps_ret (pe_make FC.M FI (hr.mono (by decide)) rfl FC.mgC bI .nil pass0 (pa_cons (pcal C_turned hr (by decide) rfl (pa_cons (pv 0) (pa_cons (pv 3) pa_nil))) (pa_cons (pe_fld (pv 0) rfl) pa_nil))))) pss_nil)
      (pss_cons (ps_if (pt_cmpR op_eq (pv 2) pe_str (nomark _)) (pss_one (ps_ret (pe_make FC.M FI (hr.mono (by decide)) rfl FC.mgC bI .nil pass0 (pa_cons (pe_fld (pv 0) rfl) (pa_cons (pcal C_withitem hr (by decide) rfl (pa_cons (pe_fld (pv 0) rfl) (pa_cons (pv 3) (pa_cons (pe_ix (ix_tupK (K := K) rfl) (pv 1) pe_int (fun _ _ => rfl)) pa_nil)))) pa_nil))))) pss_nil)
      (pss_one (ps_ret (pe_make FC.M FI (hr.mono (by decide)) rfl FC.mgC bI .nil pass0 (pa_cons (pe_fld (pv 0) rfl) (pa_cons (pcal C_raised hr (by decide) rfl (pa_cons (pv 0) (pa_cons (pcal C_way hr (by decide) rfl (pa_cons (pv 0) (pa_cons (pv 3) (pa_cons (pe_ix (ix_tupK (K := K) rfl) (pv 1) pe_int (fun _ _ => rfl)) pa_nil)))) (pa_cons (pe_ix (ix_tupK (K := K) rfl) (pv 1) pe_int (fun _ _ => rfl)) pa_nil)))) pa_nil))))))))))), ?_⟩
    cases d with
    | link i j =>
      have et : H t = some (.tup [.str "link", nv i, nv j]) := et
      have i1 : i < ps.length := ok.1
      refine ⟨_, rfl, t, _, _, _, rfl, rfl, SqT.of et, rfl, _, rfl, t, _, _, _, rfl, rfl, SqT.of et, rfl, _, rfl, rfl, _, rfl, iteB (fun _ => ?_) (fun e => absurd e (by decide +kernel))⟩
      refine ⟨_, rfl, f, C, dx, _, _, rfl, F.o, FC.own.cl, FC.nP, pf_parents a b, _, rfl, _, rfl, t, _, _, _, rfl, rfl, SqT.of et, rfl, a, _, i, nv j, rfl, F.p, by omega, by omega, fun H1 p1 s1 e1 => ?_⟩
      have F1 := F.same s1
      have e1 : H1 p1 = some (.tup ((doP ps (.link i j)).map ov)) := by rw [e1]; show _ = some (HO.tup ((ps.set i (some j)).map ov)); rw [List.map_set]; rfl
      refine ⟨_, rfl, f, C, dx, _, _, rfl, F1.o, FC.own.cl, FC.nW, pf_worths a b, fun y dx2 hy hdx ne => ?_⟩
      exact mk_tail (ws := doW ps ws (.link i j)) e1 F1.w TR' n1' n64' lw' hy hdx ne fun H2 s2 F2 => ⟨rfl, k H2 y (s1.trans s2) (s1.free hy) ⟨_, _, _, F2⟩⟩
    | cut i =>
      have et : H t = some (.tup [.str "cut", nv i]) := et
      have i1 : i < ps.length := ok
      refine ⟨_, rfl, t, _, _, _, rfl, rfl, SqT.of et, rfl, _, rfl, t, _, _, _, rfl, rfl, SqT.of et, rfl, _, rfl, rfl, _, rfl, iteB (fun e => absurd e (by decide +kernel)) (fun _ => ?_)⟩
      refine ⟨_, rfl, rfl, _, rfl, iteB (fun _ => ?_) (fun e => absurd e (by decide +kernel))⟩
      refine ⟨_, rfl, f, C, dx, _, _, rfl, F.o, FC.own.cl, FC.nP, pf_parents a b, _, rfl, a, _, i, .non, rfl, F.p, by omega, by omega, fun H1 p1 s1 e1 => ?_⟩
      have F1 := F.same s1
      have e1 : H1 p1 = some (.tup ((doP ps (.cut i)).map ov)) := by rw [e1]; show _ = some (HO.tup ((ps.set i none).map ov)); rw [List.map_set]; rfl
      refine ⟨_, rfl, f, C, dx, _, _, rfl, F1.o, FC.own.cl, FC.nW, pf_worths a b, fun y dx2 hy hdx ne => ?_⟩
      exact mk_tail (ws := doW ps ws (.cut i)) e1 F1.w TR' n1' n64' lw' hy hdx ne fun H2 s2 F2 => ⟨rfl, k H2 y (s1.trans s2) (s1.free hy) ⟨_, _, _, F2⟩⟩
    | turn i =>
      have et : H t = some (.tup [.str "turn", nv i]) := et
      have i1 : i < ps.length := ok
      refine ⟨_, rfl, t, _, _, _, rfl, rfl, SqT.of et, rfl, _, rfl, t, _, _, _, rfl, rfl, SqT.of et, rfl, _, rfl, rfl, _, rfl, iteB (fun e => absurd e (by decide +kernel)) (fun _ => ?_)⟩
      refine ⟨_, rfl, rfl, _, rfl, iteB (fun e => absurd e (by decide +kernel)) (fun _ => ?_)⟩
      refine ⟨_, rfl, rfl, _, rfl, iteB (fun _ => ?_) (fun e => absurd e (by decide +kernel))⟩
      refine ⟨_, rfl, _, rfl, f, ps, i, rfl, FR.hs, i1, fun H1 p1 s1 e1 => ?_⟩
      have F1 := F.same s1
      refine ⟨_, rfl, f, C, dx, _, _, rfl, F1.o, FC.own.cl, FC.nW, pf_worths a b, fun y dx2 hy hdx ne => ?_⟩
      exact mk_tail (ps := doP ps (.turn i)) (ws := doW ps ws (.turn i)) e1 F1.w TR' n1' n64' lw' hy hdx ne fun H2 s2 F2 => ⟨rfl, k H2 y (s1.trans s2) (s1.free hy) ⟨_, _, _, F2⟩⟩
    | put i v =>
      have et : H t = some (.tup [.str "put", nv i, .int v]) := et
      have i1 : i < ps.length := ok
      refine ⟨_, rfl, t, _, _, _, rfl, rfl, SqT.of et, rfl, _, rfl, t, _, _, _, rfl, rfl, SqT.of et, rfl, _, rfl, rfl, _, rfl, iteB (fun e => absurd e (by decide +kernel)) (fun _ => ?_)⟩
      refine ⟨_, rfl, rfl, _, rfl, iteB (fun e => absurd e (by decide +kernel)) (fun _ => ?_)⟩
      refine ⟨_, rfl, rfl, _, rfl, iteB (fun e => absurd e (by decide +kernel)) (fun _ => ?_)⟩
      refine ⟨_, rfl, rfl, _, rfl, iteB (fun _ => ?_) (fun e => absurd e (by decide +kernel))⟩
      refine ⟨_, rfl, f, C, dx, _, _, rfl, F.o, FC.own.cl, FC.nP, pf_parents a b, _, rfl, f, C, dx, _, _, rfl, F.o, FC.own.cl, FC.nW, pf_worths a b, _, rfl, _, rfl, t, _, _, _, rfl, rfl, SqT.of et, rfl, b, _, i, .int v, rfl, F.w, by omega, by omega, fun H1 p1 s1 e1 => ?_⟩
      have F1 := F.same s1
      have e1 : H1 p1 = some (.tup ((doW ps ws (.put i v)).map V.int)) := by rw [e1]; show _ = some (HO.tup ((ws.set i v).map V.int)); rw [List.map_set]
      refine fun y dx2 hy hdx ne => ?_
      exact mk_tail (ps := doP ps (.put i v)) F1.p e1 TR' n1' n64' lw' hy hdx ne fun H2 s2 F2 => ⟨rfl, k H2 y (s1.trans s2) (s1.free hy) ⟨_, _, _, F2⟩⟩
    | add i j v =>
      have et : H t = some (.tup [.str "add", nv i, nv j, .int v]) := et
      obtain ⟨i1, j1⟩ : i < ps.length ∧ j < ps.length := ok
      obtain ⟨m, em⟩ := (fnd_iff FR.TR i1 j1).mpr can
      have ew : wayD ps i j = wayOf (up ps i) (up ps j) m := by unfold wayD; rw [em]
      refine ⟨_, rfl, t, _, _, _, rfl, rfl, SqT.of et, rfl, _, rfl, t, _, _, _, rfl, rfl, SqT.of et, rfl, _, rfl, rfl, _, rfl, iteB (fun e => absurd e (by decide +kernel)) (fun _ => ?_)⟩
      refine ⟨_, rfl, rfl, _, rfl, iteB (fun e => absurd e (by decide +kernel)) (fun _ => ?_)⟩
      refine ⟨_, rfl, rfl, _, rfl, iteB (fun e => absurd e (by decide +kernel)) (fun _ => ?_)⟩
      refine ⟨_, rfl, rfl, _, rfl, iteB (fun e => absurd e (by decide +kernel)) (fun _ => ?_)⟩
      refine ⟨_, rfl, f, C, dx, _, _, rfl, F.o, FC.own.cl, FC.nP, pf_parents a b, _, rfl, _, rfl, _, rfl, _, rfl, t, _, _, _, rfl, rfl, SqT.of et, rfl, f, ps, i, j, rfl, FR.hs, i1, j1, fun n => (by rw [em] at n; cases n), fun y e H1 p1 s1 _ e1 => ?_⟩
      rw [em] at e
      cases e
      rw [← ew] at e1
      have F1 := F.same s1
      refine ⟨_, rfl, t, _, _, _, rfl, rfl, SqT.of (s1 _ _ et), rfl, f, p1, ps, ws, wayD ps i j, v, rfl, ⟨_, _, _, F1⟩, e1, fun z hz => (by rw [lw]; exact way_mem FR.TR i1 j1 z hz), fun H2 p2 s2 e2 => ?_⟩
      have F2 := F1.same s2
      refine fun y dx2 hy hdx ne => ?_
      have s12 := s1.trans s2
      exact mk_tail (ps := doP ps (.add i j v)) (ws := doW ps ws (.add i j v)) F2.p e2 TR' n1' n64' lw' hy hdx ne fun H3 s3 F3 => ⟨rfl, k H3 y (s12.trans s3) (s12.free hy) ⟨_, _, _, F3⟩⟩

end
end W2
namespace W2
open PySem PySem.Spec PyProof.Rows L2
section
variable {P : Program} {w : World} {K : PySem.W.Frag} {mg : Str → Option Value} {base : Heap} {C fI CN fN CD fD fF t1 t2 t3 t4 t5 : Addr}
theorem ok_can (D : Def K mg "_can_be_done" s_can ["forest", "deed"]) (T : Txt K mg) (C_root : Cal P w K mg base 5 "root" ["forest", "house"] (spRoot C)) (FC : ForC K mg C fI) : Cal P w K mg base 6 "_can_be_done" ["forest", "deed"] (spCan C) := by
  refine D.cal sc_can (fun vs H Q E h => ?_) (fun f cdv A outer s H vs Q E hr h => ?_)
  · obtain ⟨f, ps, ws, x, d, rfl, _⟩ := h
    rfl
  · obtain ⟨f, ps, ws, x, d, rfl, FR, ⟨t, rfl, et⟩, ok, kT, kF⟩ := h
    obtain ⟨dx, a, b, F⟩ := id FR.F
    refine ⟨_, (pss_cons (ps_set (i := 2) sc_can.nd rfl (Or.inl rfl) (pe_ix (ix_tupK (K := K) rfl) (pv 1) pe_int (fun _ _ => rfl)))
      (pss_cons (ps_set (i := 3) sc_can.nd rfl (Or.inl rfl) (pe_ix (ix_tupK (K := K) rfl) (pv 1) pe_int (fun _ _ => rfl)))
      (pss_cons (ps_if (pt_cmpR op_eq (pv 2) pe_str (nomark _)) (pss_one (ps_ret (pe_and (pe_cmpR op_isN (pe_ix (ix_tupK (K := K) rfl) (pe_fld (pv 0) rfl) (pv 3) (fun _ _ => rfl)) pe_non (nomark _)) (pe_one (pe_cmpR op_ne (pcal C_root hr (by decide) rfl (pa_cons (pv 0) (pa_cons (pe_ix (ix_tupK (K := K) rfl) (pv 1) pe_int (fun _ _ => rfl)) pa_nil))) (pv 3) (nomark _)))))) pss_nil)
      (pss_cons (ps_if (pt_cmpR op_eq (pv 2) pe_str (nomark _)) (pss_one (ps_ret (pe_cmpR op_notN (pe_ix (ix_tupK (K := K) rfl) (pe_fld (pv 0) rfl) (pv 3) (fun _ _ => rfl)) pe_non (nomark _)))) pss_nil)
      (pss_cons (ps_if (pt_cmpR op_eq (pv 2) pe_str (nomark _)) (pss_one (ps_ret (pe_cmpR op_eq (pcal C_root hr (by decide) rfl (pa_cons (pv 0) (pa_cons (pv 3) pa_nil))) (pcal C_root hr (by decide) rfl (pa_cons (pv 0) (pa_cons (pe_ix (ix_tupK (K := K) rfl) (pv 1) pe_int (fun _ _ => rfl)) pa_nil))) (nomark _)))) pss_nil)
      (pss_one (ps_ret pe_bl))))))), ?_⟩
    cases d with
    | link i j =>
      have et : H t = some (.tup [.str "link", nv i, nv j]) := et
      refine ⟨_, rfl, t, _, _, _, rfl, rfl, SqT.of et, rfl, _, rfl, t, _, _, _, rfl, rfl, SqT.of et, rfl, _, rfl, rfl, _, rfl, iteB (fun _ => ?_) (fun e => absurd e (by decide +kernel))⟩
      obtain ⟨o, eo⟩ := tree_at ok.1
      refine ⟨_, rfl, f, C, dx, _, _, rfl, F.o, FC.own.cl, FC.nP, pf_parents a b, _, rfl, a, _, _, _, rfl, rfl, SqT.of F.p, at_ov eo, rfl, _, rfl, ?_⟩
      cases o with
      | some q =>
        refine iteB (fun e => absurd e (by simp [ov])) (fun _ => ?_)
        exact kF (fun c => by rw [c.1] at eo; cases eo) _ (L2.Same.refl _)
      | none =>
        refine iteB (fun _ => ?_) (fun e => absurd e (by simp [ov]))
        refine ⟨_, rfl, _, rfl, t, _, _, _, rfl, rfl, SqT.of et, rfl, f, ps, j, rfl, FR.hs, ok.2, fun H1 s1 => ⟨_, rfl, rfl, ?_⟩⟩
        show Q (V.bl (!decide (nv (rt ps j) = nv i))) H1
        rw [dnv]
        by_cases c : rt ps j = i
        · rw [decide_eq_true c]
          exact kF (fun q => q.2 c) _ s1
        · rw [decide_eq_false c]
          exact kT ⟨eo, c⟩ _ s1
    | cut i =>
      have et : H t = some (.tup [.str "cut", nv i]) := et
      refine ⟨_, rfl, t, _, _, _, rfl, rfl, SqT.of et, rfl, _, rfl, t, _, _, _, rfl, rfl, SqT.of et, rfl, _, rfl, rfl, _, rfl, iteB (fun e => absurd e (by decide +kernel)) (fun _ => ?_)⟩
      refine ⟨_, rfl, rfl, _, rfl, iteB (fun _ => ?_) (fun e => absurd e (by decide +kernel))⟩
      obtain ⟨o, eo⟩ := tree_at (show i < ps.length from ok)
      refine ⟨_, rfl, f, C, dx, _, _, rfl, F.o, FC.own.cl, FC.nP, pf_parents a b, _, rfl, a, _, _, _, rfl, rfl, SqT.of F.p, at_ov eo, rfl, ?_⟩
      cases o with
      | some q => exact kT (fun z => by rw [eo] at z; cases z) _ (L2.Same.refl _)
      | none => exact kF (fun c => c eo) _ (L2.Same.refl _)
    | turn i =>
      have et : H t = some (.tup [.str "turn", nv i]) := et
      refine ⟨_, rfl, t, _, _, _, rfl, rfl, SqT.of et, rfl, _, rfl, t, _, _, _, rfl, rfl, SqT.of et, rfl, _, rfl, rfl, _, rfl, iteB (fun e => absurd e (by decide +kernel)) (fun _ => ?_)⟩
      refine ⟨_, rfl, rfl, _, rfl, iteB (fun e => absurd e (by decide +kernel)) (fun _ => ?_)⟩
      refine ⟨_, rfl, rfl, _, rfl, iteB (fun e => absurd e (by decide +kernel)) (fun _ => ?_)⟩
      exact kT trivial _ (L2.Same.refl _)
    | put i v =>
      have et : H t = some (.tup [.str "put", nv i, .int v]) := et
      refine ⟨_, rfl, t, _, _, _, rfl, rfl, SqT.of et, rfl, _, rfl, t, _, _, _, rfl, rfl, SqT.of et, rfl, _, rfl, rfl, _, rfl, iteB (fun e => absurd e (by decide +kernel)) (fun _ => ?_)⟩
      refine ⟨_, rfl, rfl, _, rfl, iteB (fun e => absurd e (by decide +kernel)) (fun _ => ?_)⟩
      refine ⟨_, rfl, rfl, _, rfl, iteB (fun e => absurd e (by decide +kernel)) (fun _ => ?_)⟩
      exact kT trivial _ (L2.Same.refl _)
    | add i j v =>
      have et : H t = some (.tup [.str "add", nv i, nv j, .int v]) := et
      refine ⟨_, rfl, t, _, _, _, rfl, rfl, SqT.of et, rfl, _, rfl, t, _, _, _, rfl, rfl, SqT.of et, rfl, _, rfl, rfl, _, rfl, iteB (fun e => absurd e (by decide +kernel)) (fun _ => ?_)⟩
      refine ⟨_, rfl, rfl, _, rfl, iteB (fun e => absurd e (by decide +kernel)) (fun _ => ?_)⟩
      refine ⟨_, rfl, rfl, _, rfl, iteB (fun _ => ?_) (fun e => absurd e (by decide +kernel))⟩
      refine ⟨_, rfl, _, rfl, f, ps, i, rfl, FR.hs, ok.1, fun H1 s1 => ?_⟩
      refine ⟨_, rfl, _, rfl, t, _, _, _, rfl, rfl, SqT.of (s1 _ _ et), rfl, f, ps, j, rfl, FR.hs.same s1, ok.2, fun H2 s2 => ⟨rfl, ?_⟩⟩
      show Q (V.bl (decide (nv (rt ps i) = nv (rt ps j)))) H2
      rw [dnv]
      by_cases c : rt ps i = rt ps j
      · rw [decide_eq_true c]
        exact kT c _ (s1.trans s2)
      · rw [decide_eq_false c]
        exact kF c _ (s1.trans s2)

end
end W2
namespace W2
open PySem PySem.Spec PyProof.Rows L2
section
variable {P : Program} {w : World} {K : PySem.W.Frag} {mg : Str → Option Value} {base : Heap} {C fI CN fN CD fD fF t1 t2 t3 t4 t5 : Addr}
theorem ok_fits (D : Def K mg "_fits" s_fits ["houses", "part", "kind"]) (T : Txt K mg) (C_ishouse : Cal P w K mg base 2 "is_house" ["many", "thing"] (spIsHouse C)) (C_isint : Cal P w K mg base 1 "is_integer" ["thing"] (spIsInt C)) : Cal P w K mg base 3 "_fits" ["houses", "part", "kind"] (spFits C) := by
  refine D.cal sc_fits (fun vs H Q E h => ?_) (fun f cdv A outer s H vs Q E hr h => ?_)
  · obtain ⟨h, n, x, kd, rfl, _⟩ := h
    rfl
  · obtain ⟨h, n, x, kd, rfl, an, k⟩ := h
    refine ⟨_, (pss_cons (ps_if (pt_cmpR op_eq (pv 2) pe_str (nomark _)) (pss_one (ps_ret (pcal C_ishouse hr (by decide) rfl (pa_cons (pv 0) (pa_cons (pv 1) pa_nil))))) pss_nil)
      (pss_one (ps_ret (pcal C_isint hr (by decide) rfl (pa_cons (pv 1) pa_nil))))), ?_⟩
    refine ⟨_, rfl, rfl, _, rfl, iteB (fun e => ?_) (fun e => ?_)⟩
    · have e2 : kd = "house" := V.str.inj (of_decide_eq_true e)
      refine ⟨_, rfl, _, rfl, h, n, x, rfl, an, ?_⟩
      unfold fitV at k
      rw [if_pos e2] at k
      exact k
    · have e2 : ¬ kd = "house" := fun z => of_decide_eq_false e (by rw [z])
      refine ⟨_, rfl, h, x, rfl, an, ?_⟩
      unfold fitV at k
      rw [if_neg e2] at k
      exact k

end
end W2
namespace W2
open PySem PySem.Spec PyProof.Rows L2
section
variable {P : Program} {w : World} {K : PySem.W.Frag} {mg : Str → Option Value} {base : Heap} {C fI CN fN CD fD fF t1 t2 t3 t4 t5 : Addr}
theorem ok_hasform (D : Def K mg "_has_form" s_hasform ["houses", "thing"]) (T : Txt K mg) (C_fits : Cal P w K mg base 3 "_fits" ["houses", "part", "kind"] (spFits C)) (FC : ForC K mg C fI) (FD : ForD K w mg fF t1 t2 t3 t4 t5) : Cal P w K mg base 4 "_has_form" ["houses", "thing"] (spHasForm C) := by
  refine D.cal sc_hasform (fun vs H Q E h => ?_) (fun f cdv A outer s H vs Q E hr h => ?_)
  · obtain ⟨h, n, x, rfl, _⟩ := h
    rfl
  · obtain ⟨h, n, x, rfl, th, kT, kF⟩ := h
    obtain ⟨t, b, ty, kt, hb1, hb0⟩ := any_tup FC.own th.any
    refine ⟨_, (pss_cons (ps_if (PW.pt (pw_or (pt_not (pt_val (pe_callB (call_isiK1 (K := K) rfl) (by rfl) T.n_isinstance (by decide +kernel) (pa_cons (pv 1) (pa_cons (pe_bltn (v := .ty "tuple") (by rfl) T.n_tuple (by decide +kernel) rfl) pa_nil))))) (pw_or1 (pt_cmpR op_eq (pe_callB (call_lenK (K := K) rfl) (by rfl) T.n_len PySem.boot_len (pa_cons (pv 1) pa_nil)) pe_int (nomark _))))) (pss_one (ps_ret pe_bl)) pss_nil)
      (pss_cons (ps_if (PW.pt (pw_or (pt_not (pt_val (pe_callB (call_isiK1 (K := K) rfl) (by rfl) T.n_isinstance (by decide +kernel) (pa_cons (pe_ix (ix_tupK (K := K) rfl) (pv 1) pe_int (fun _ _ => rfl)) (pa_cons (pe_bltn (v := .ty "str") (by rfl) T.n_str (by decide +kernel) rfl) pa_nil))))) (pw_or1 (pt_cmpR (op_notInKD FD.D) (pe_ix (ix_tupK (K := K) rfl) (pv 1) pe_int (fun _ _ => rfl)) (pe_glob (v := .ref fF) rfl FD.g rfl) (by rfl))))) (pss_one (ps_ret pe_bl)) pss_nil)
      (pss_cons (ps_set (i := 2) sc_hasform.nd rfl (Or.inl rfl) (pe_ix (ix_KD FD.D) (pe_glob (v := .ref fF) rfl FD.g rfl) (pe_ix (ix_tupK (K := K) rfl) (pv 1) pe_int (fun _ _ => rfl)) (fun _ _ => rfl)))
      (pss_cons (ps_if (pt_cmpR op_ne (pe_callB (call_lenK (K := K) rfl) (by rfl) T.n_len PySem.boot_len (pa_cons (pv 1) pa_nil)) (pe_op op_add pe_int (pe_callB (call_lenK (K := K) rfl) (by rfl) T.n_len PySem.boot_len (pa_cons (pv 2) pa_nil))) (nomark _)) (pss_one (ps_ret pe_bl)) pss_nil)
      (pss_one (ps_ret (pe_callB (cr_all rfl) (by rfl) T.n_all (by decide +kernel) (pa_cons (pe_lc (own := [("part", 3), ("kind", 4)]) (g := gTup K 2 (gCons (gName 3) (gCons (gName 4) gNil))) (tt := tYes) (by rfl) sc_hasform.nd (RZ.pi_zipA (by rfl) T.n_zip (pa_cons (pe_slice sl_tup (pv 1) (po_some pe_int) po_none) (pa_cons (pv 2) pa_nil))) (blkOk_by (own := [("part", 3), ("kind", 4)]) (N := ["houses", "thing", "form", "part", "kind"]) (sc := defScope s_hasform) (by decide +kernel)) (fun _ _ _ _ _ => pg_tup rfl (pgs_cons (pg_name (i := 3) sc_hasform.nd rfl (Or.inl rfl)) (pgs_cons (pg_name (i := 4) sc_hasform.nd rfl (Or.inl rfl)) pgs_nil))) (fun _ _ _ _ _ => pts_nil) (fun _ _ _ _ _ => (pcal C_fits hr (by decide) rfl (pa_cons (pv 0) (pa_cons (pv 3) (pa_cons (pv 4) pa_nil)))))) pa_nil)))))))), ?_⟩
    refine ⟨_, rfl, _, _, _, _, b, rfl, .ty _, ty, kt, b, rfl, ?_⟩
    cases b with
    | false =>
      refine iteT (iteT ?_)
      exact kF (fun ⟨d, ⟨a, e, e2⟩, _⟩ => hb0 rfl a _ e e2) _ (L2.Same.refl _)
    | true =>
      obtain ⟨a, xs, rfl, hA⟩ := hb1 rfl
      have no : (∀ d, xs = enc d → ¬ okD n d) → Ret (.bl false) H Q := fun q => kF fun ⟨d, ⟨a', e, e2⟩, o⟩ => by
        cases e
        rw [hA] at e2
        exact q d (HO.tup.inj (Option.some.inj e2)) o
      have yes : (∃ d, xs = enc d ∧ okD n d) → Ret (.bl true) H Q := fun ⟨d, e, o⟩ => kT d ⟨⟨a, rfl, by rw [hA, e]⟩, o⟩
      refine iteF ?_
      refine ⟨_, rfl, a, _, rfl, .inr (SqT.of hA), rfl, _, rfl, iteB (fun e1 => ?_) (fun e1 => ?_)⟩
      · refine no (fun d e o => ?_) _ (L2.Same.refl _)
        have e2 := V.int.inj (of_decide_eq_true e1)
        obtain ⟨r, er⟩ := enc_wd d
        rw [e, er, List.length_cons] at e2
        omega
      match xs, hA, no, yes, e1 with
      | [], _, _, _, e1 => exact absurd e1 (by decide)
      | x0 :: r, hA, no, yes, e1 =>
        have a0 : Any C h H x0 := th.items a _ rfl hA x0 List.mem_cons_self
        obtain ⟨t0, b0, ty0, kt0, hs1, hs0⟩ := any_str FC.own a0
        refine ⟨_, rfl, a, _, _, _, rfl, rfl, SqT.of hA, at0, _, _, _, _, b0, rfl, .ty _, ty0, kt0, b0, rfl, ?_⟩
        cases b0 with
        | false =>
          refine iteT (iteT ?_)
          refine no (fun d e o => ?_) _ (L2.Same.refl _)
          obtain ⟨q, eq⟩ := enc_wd d
          rw [eq] at e
          exact hs0 rfl _ (List.cons.inj e).1
        | true =>
          obtain ⟨z, rfl⟩ := hs1 rfl
          refine iteF ?_
          refine ⟨_, rfl, a, _, _, _, rfl, rfl, SqT.of hA, at0, z, rfl, rfl, _, rfl, ?_⟩
          cases lk : ([("link", V.ref t1), ("cut", .ref t2), ("turn", .ref t3), ("put", .ref t4), ("add", .ref t5)] : List (Str × V)).lookup z with
          | none =>
            refine iteB (fun _ => ?_) (fun e => absurd e (by decide))
            exact no (fun d e o => no_form_word (forms_none lk) d e) _ (L2.Same.refl _)
          | some v0 =>
            refine iteB (fun e => Bool.noConfusion e) (fun _ => ?_)
            obtain ⟨tf, ks, rfl, fm, sq⟩ := forms_some FD lk
            have iff := form_iff (n := n) (r := r) fm
            refine ⟨_, rfl, a, _, _, _, rfl, rfl, SqT.of hA, at0, z, _, rfl, rfl, lk, ?_⟩
            refine ⟨_, rfl, a, _, rfl, .inr (SqT.of hA), _, rfl, tf, _, rfl, .inr (sq H), _, _, rfl, rfl, rfl, _, rfl, iteB (fun e2 => ?_) (fun e2 => ?_)⟩
            · refine no (fun d e o => ?_) _ (L2.Same.refl _)
              have hl := (iff.mpr ⟨d, e, o⟩).1
              have e3 : (!decide (V.int (((V.str z :: r).length : Nat) : Int) = V.int (1 + (((ks.map V.str).length : Nat) : Int)))) = true := e2
              rw [List.length_cons, List.length_map, hl, decide_eq_true (by congr 1; omega)] at e3
              cases e3
            have hl : r.length = ks.length := by
              have e3 : (!decide (V.int (((V.str z :: r).length : Nat) : Int) = V.int (1 + (((ks.map V.str).length : Nat) : Int)))) = false := e2
              have e4 : decide (V.int (((V.str z :: r).length : Nat) : Int) = V.int (1 + (((ks.map V.str).length : Nat) : Int))) = true := by simpa using e3
              have e5 := V.int.inj (of_decide_eq_true e4)
              rw [List.length_cons, List.length_map] at e5
              omega
            have lks : ks.length ≤ 3 := by
              rcases fm_cases fm with ⟨_, rfl⟩ | ⟨_, rfl⟩ | ⟨_, rfl⟩ | ⟨_, rfl⟩ | ⟨_, rfl⟩ <;> decide
            refine ⟨_, rfl, 1, rfl, ?_⟩
            unfold tNoPart
            show rSlT K (V.ref a) (some 1) none H _
            refine slT_of hA (six_from _ 0 (by rw [List.length_cons]; omega)) fun p2 h2 => ?_
            have s1 := same_upd (o := .tup (cutV (V.str z :: r) (some 1) none)) h2
            have e1' : (L2.upd H p2 (.tup (cutV (V.str z :: r) (some 1) none))) p2 = some (.tup r) := by
              rw [upd_same, show cutV (V.str z :: r) (some (1 : Int)) none = (V.str z :: r).drop 1 from cut_from _ 1 (by rw [List.length_cons]; omega)]
              rfl
            generalize L2.upd H p2 (.tup (cutV (V.str z :: r) (some 1) none)) = H1 at s1 e1'
            refine ⟨_, rfl, p2, tf, _, _, rfl, .inr ⟨SqT.of e1', sq H1, fun D hD => ?_⟩⟩
            refine lc_it (walk_zipT (K := K) (a := p2) (b := tf) (xs := r) (ys := ks.map V.str) (n := r.length) (by rw [List.length_map]; omega)) (fun i H' => L2.Same H1 H' ∧ H' D = some (.lst ((((List.zip r ks).take i).map fun p => fitV n p.2 p.1).map V.bl))) ⟨same_upd hD, by rw [upd_same]; rfl⟩ (fun i H' _ p => ⟨SqT.of (p.1 _ _ e1'), sq H'⟩) ?_ ?_
            · rintro i v H' H5 hi ⟨sm, hd⟩ ⟨tt, x, y, rfl, htt, rfl, hx, hy⟩
              have hx : r[i]? = some x := hx
              have hy : (ks.map V.str)[i]? = some y := hy
              rw [List.getElem?_map] at hy
              cases hk : ks[i]? with
              | none => rw [hk] at hy; cases hy
              | some kk =>
                rw [hk] at hy
                have ey : y = V.str kk := (Option.some.inj hy).symm
                subst ey
                have st := same_upd (o := .tup [x, V.str kk]) htt
                have ax : Any C h H x := th.items a _ rfl hA x (List.mem_cons_of_mem _ (List.mem_of_getElem? hx))
                refine ⟨tt, _, rfl, SqT.of upd_same, rfl, _, _, rfl, _, _, rfl, rfl, ?_⟩
                refine ⟨rfl, ?_⟩
                refine ⟨_, rfl, _, rfl, _, rfl, h, _, x, kk, rfl, ax.same ((s1.trans sm).trans st), fun H2 s2 => ?_⟩
                have s6 := st.trans s2
                refine ⟨_, s6 _ _ hd, ?_, Same.upd (sm.trans s6) hD, ?_⟩
                · rw [List.length_map, List.length_map, List.length_take]
                  exact smalls (by omega)
                · have hz : (List.zip r ks)[i]? = some (x, kk) := by rw [List.getElem?_zip_eq_some]; exact ⟨hx, hk⟩
                  rw [upd_same, List.take_add_one, hz, List.map_append, List.map_append]
                  rfl
            rintro H2 ⟨s2, hd⟩
            rw [List.take_of_length_le (by rw [List.length_zip]; omega)] at hd
            refine ⟨D, _, rfl, SqL.of hd, ?_⟩
            have ef : (((List.zip r ks).map fun p => fitV n p.2 p.1).all id) = fitAll n r ks := by
              unfold fitAll
              rw [List.all_map]
              rfl
            rw [ef]
            have s12 := s1.trans s2
            cases e3 : fitAll n r ks with
            | true => exact yes (iff.mp ⟨hl, e3⟩) _ s12
            | false =>
              refine no (fun d e o => ?_) _ s12
              have := (iff.mpr ⟨d, e, o⟩).2
              rw [e3] at this
              cases this

end
end W2
namespace W2
open PySem PySem.Spec PyProof.Rows L2
section
variable {P : Program} {w : World} {K : PySem.W.Frag} {mg : Str → Option Value} {base : Heap} {C fI CN fN CD fD fF t1 t2 t3 t4 t5 : Addr}
theorem ok_isdeed (D : Def K mg "is_deed" s_isdeed ["forest", "thing"]) (T : Txt K mg) (C_hasform : Cal P w K mg base 4 "_has_form" ["houses", "thing"] (spHasForm C)) (C_many : Cal P w K mg base 1 "many" ["forest"] (spMany C)) (C_can : Cal P w K mg base 6 "_can_be_done" ["forest", "deed"] (spCan C)) (FC : ForC K mg C fI) : Cal P w K mg base 7 "is_deed" ["forest", "thing"] (spIsDeed C) := by
  refine D.cal sc_isdeed (fun vs H Q E h => ?_) (fun f cdv A outer s H vs Q E hr h => ?_)
  · obtain ⟨h, f, ps, ws, x, rfl, _⟩ := h
    rfl
  · obtain ⟨h, f, ps, ws, x, rfl, FR, th, kT, kF⟩ := h
    refine ⟨_, (pss_one (ps_ret (pe_and (pcal C_hasform hr (by decide) rfl (pa_cons (pcal C_many hr (by decide) rfl (pa_cons (pv 0) pa_nil)) (pa_cons (pv 1) pa_nil))) (pe_one (pcal C_can hr (by decide) rfl (pa_cons (pv 0) (pa_cons (pv 1) pa_nil))))))), ?_⟩
    refine ⟨_, rfl, f, ps, rfl, FR.hs, fun H1 s1 => ?_⟩
    by_cases fo : ∃ d, FormAt H x ps.length d
    · obtain ⟨d, fo⟩ := fo
      refine ⟨_, rfl, h, ps.length, x, rfl, th.same s1, fun _ _ H2 s2 => ?_, fun n => absurd ⟨d, fo.1.same s1, fo.2⟩ n⟩
      refine ⟨true, rfl, iteT ?_⟩
      have s12 := s1.trans s2
      refine ⟨_, rfl, _, rfl, f, ps, ws, x, d, rfl, FR.same s12, fo.1.same s12, fo.2, fun c H3 s3 => kT d fo c _ (s12.trans s3), fun n H3 s3 => kF (fun ⟨d', fo', c⟩ => n ?_) _ (s12.trans s3)⟩
      obtain ⟨⟨a, e, e2⟩, _⟩ := fo
      obtain ⟨⟨a', e', e2'⟩, _⟩ := fo'
      rw [e] at e'
      cases e'
      rw [e2] at e2'
      rw [enc_inj (HO.tup.inj (Option.some.inj e2'))]
      exact c
    · refine ⟨_, rfl, h, ps.length, x, rfl, th.same s1, fun d fo1 => ?_, fun n H2 s2 => ?_⟩
      · exact absurd (no_form (p := fun _ => True) th s1 (fun ⟨d, q, _⟩ => fo ⟨d, q⟩)) (fun q => q ⟨d, fo1, trivial⟩)
      · exact ⟨false, rfl, iteF (kF (fun ⟨d, q, _⟩ => fo ⟨d, q⟩) _ (s1.trans s2))⟩

end
end W2
namespace W2
open PySem PySem.Spec PyProof.Rows L2
section
variable {P : Program} {w : World} {K : PySem.W.Frag} {mg : Str → Option Value} {base : Heap} {C fI CN fN CD fD fF t1 t2 t3 t4 t5 : Addr}
theorem ok_behind (D : Def K mg "behind" s_behind ["forest", "deed"]) (T : Txt K mg) (C_isdeed : Cal P w K mg base 7 "is_deed" ["forest", "thing"] (spIsDeed C)) (C_done : Cal P w K mg base 8 "_done" ["forest", "deed"] (spDone C)) (FC : ForC K mg C fI) (FN : PySem.XNoDeed.TxtNoDeed K mg CN fN) : CalX P w K mg base 9 "behind" ["forest", "deed"] (spBehind C CN) := by
  refine D.calX sc_behind (fun vs H Q E h => ?_) (fun f cdv A outer s H vs Q E hr h => ?_)
  · obtain ⟨h, f, ps, ws, x, rfl, _⟩ := h
    rfl
  · obtain ⟨h, f, ps, ws, x, rfl, FR, th, kY, kN⟩ := h
    refine ⟨_, (pss_cons (ps_if (pt_not (pt_val (pcal C_isdeed hr (by decide) rfl (pa_cons (pv 0) (pa_cons (pv 1) pa_nil))))) (pss_one (ps_raise_NoDeed rfl FN hr (takes_of rfl rfl rfl rfl))) pss_nil)
      (pss_one (ps_ret (pcal C_done hr (by decide) rfl (pa_cons (pv 0) (pa_cons (pv 1) pa_nil)))))), ?_⟩
    refine ⟨_, rfl, _, rfl, h, f, ps, ws, x, rfl, FR, th, fun d fo c H1 s1 => ⟨true, rfl, iteF ?_⟩, fun n H1 s1 => ⟨false, rfl, iteT ?_⟩⟩
    · exact ⟨_, rfl, _, rfl, f, ps, ws, x, d, rfl, FR.same s1, fo.1.same s1, fo.2, c, fun H2 g s2 _ F2 => kY d fo c H2 g (s1.trans s2) F2⟩
    · exact kN n _ s1

end
end W2
namespace W2
open PySem PySem.Spec PyProof.Rows L2
section
variable {P : Program} {w : World} {K : PySem.W.Frag} {mg : Str → Option Value} {base : Heap} {C fI CN fN CD fD fF t1 t2 t3 t4 t5 : Addr}
theorem ok_led (D : Def K mg "led" s_led ["forest", "deeds"]) (T : Txt K mg) (C_isdeed : Cal P w K mg base 7 "is_deed" ["forest", "thing"] (spIsDeed C)) (C_done : Cal P w K mg base 8 "_done" ["forest", "deed"] (spDone C)) (FC : ForC K mg C fI) (FB : PySem.XBadDeeds.TxtBadDeeds K mg CD fD) : CalX P w K mg base 9 "led" ["forest", "deeds"] (spLed C CD) := by
  refine D.calX sc_led (fun vs H Q E h => ?_) (fun f cdv A outer s H vs Q E hr h => ?_)
  · obtain ⟨h, f, ps, ws, y, rfl, _⟩ := h
    rfl
  · obtain ⟨h, f, ps, ws, y, rfl, FR, hy⟩ := h
    refine ⟨_, (pss_cons (ps_if (pt_not (pt_val (pe_callB call_isiT (by rfl) T.n_isinstance (by decide +kernel) (pa_cons (pv 1) (pa_cons (pe_tup (pa_cons (pe_bltn (v := .ty "list") (by rfl) T.n_list (by decide +kernel) rfl) (pa_cons (pe_bltn (v := .ty "tuple") (by rfl) T.n_tuple (by decide +kernel) rfl) pa_nil))) pa_nil))))) (pss_one (ps_raise_BadDeeds rfl FB hr (takes_of rfl rfl rfl rfl) (pa_cons (pe_un un_neg pe_int) pa_nil))) pss_nil)
      (pss_cons (ps_set (i := 2) sc_led.nd rfl (Or.inl rfl) (pv 0))
      (pss_cons (ps_for (passes_of rfl) rfl (pi_enumA (by rfl) T.n_enumerate (pa_cons (pv 1) pa_nil)) (pg_tup rfl (pgs_cons (pg_name (i := 3) sc_led.nd rfl (Or.inl rfl)) (pgs_cons (pg_name (i := 4) sc_led.nd rfl (Or.inl rfl)) pgs_nil))) (pss_cons (ps_if (pt_not (pt_val (pcal C_isdeed hr (by decide) rfl (pa_cons (pv 2) (pa_cons (pv 4) pa_nil))))) (pss_one (ps_raise_BadDeeds rfl FB hr (takes_of rfl rfl rfl rfl) (pa_cons (pv 3) pa_nil))) pss_nil)
      (pss_one (ps_set (i := 2) sc_led.nd rfl (Or.inl rfl) (pcal C_done hr (by decide) rfl (pa_cons (pv 2) (pa_cons (pv 4) pa_nil)))))))
      (pss_one (ps_ret (pv 2)))))), ?_⟩
    refine ⟨_, rfl, small (by show 2 ≤ 100000; decide), fun tp htp => ?_⟩
    have s1 := same_upd (o := .tup [V.ty "list", V.ty "tuple"]) htp
    have etp : (L2.upd H tp (.tup [V.ty "list", V.ty "tuple"])) tp = some (.tup [V.ty "list", V.ty "tuple"]) := upd_same
    generalize L2.upd H tp (.tup [V.ty "list", V.ty "tuple"]) = H1 at s1 etp
    rcases hy with ⟨a, xs, ds, rfl, hl, th, hlen, hds, okr, kQ, kB⟩ | ⟨nl, an, bad⟩
    · rcases hl with e | e
      · have e1 := s1 _ _ e
        refine ⟨_, tp, _, _, [.type "list", .type "tuple"], true, rfl, etp, .cons (.ty _) (.cons (.ty _) .nil), .base (.lst e1), kitAny_1 (kit_ty (by decide +kernel)), true, rfl, iteF ?_⟩
        refine ⟨_, rfl, _, rfl, a, xs, rfl, .inl ⟨SqL.of e1, ?_⟩⟩
        refine for_it (walk_enum (K := K) (a := a) (xs := xs)) (fun i σ H' => ∃ (g : Addr) (v3 v4 : Option V), σ = [some (.ref f), some (.ref a), some (.ref g), v3, v4] ∧ i ≤ ds.length ∧ L2.Same H H' ∧ Frt C H' g (run (ps, ws) (ds.take i)).1 (run (ps, ws) (ds.take i)).2)
          ⟨f, none, none, rfl, Nat.zero_le _, s1, FR.same s1⟩ (fun i σ H' _ ⟨_, _, _, _, _, sm, _⟩ => SqL.of (sm _ _ e)) ?_ ?_
        · rintro i v σ H' H2 hi ⟨g, v3, v4, rfl, hid, sm, FR'⟩ ⟨t, x0, x, rfl, ht, rfl, hx0, hx⟩
          have ex0 : x0 = .int (i : Nat) := (Option.some.inj hx0).symm
          subst ex0
          have hx : xs[i]? = some x := hx
          have st := same_upd (o := .tup [.int (i : Nat), x]) ht
          have sH := sm.trans st
          have thx : Thing C h H x := th x (List.mem_of_getElem? hx)
          have ln : (run (ps, ws) (ds.take i)).1.length = ps.length := run_len _ _
          refine ⟨t, _, rfl, SqT.of upd_same, rfl, _, _, rfl, _, _, rfl, rfl, ?_⟩
          by_cases hlt : i < ds.length
          · have ed : ds[i]? = some ds[i] := List.getElem?_eq_getElem hlt
            generalize ds[i] = d at ed
            have da : DeedAt H x d := hds i x d ed hx
            obtain ⟨od, cd⟩ := okr i d ed
            have od : okD ps.length d := od
            refine ⟨_, rfl, _, rfl, h, g, _, _, x, rfl, FR'.same st, thx.same sH, fun d' fo c H3 s3 => ⟨true, rfl, iteF ?_⟩, fun n => absurd ⟨d, ⟨da.same sH, by rw [ln]; exact od⟩, cd⟩ n⟩
            have edd : d' = d := da.det (thx.deed_back sH fo.1)
            subst edd
            have FR3 := (FR'.same st).same s3
            refine ⟨_, rfl, _, rfl, g, _, _, x, d', rfl, FR3, fo.1.same s3, fo.2, c, fun H4 g' s4 _ F4 => ?_⟩
            have er : run (ps, ws) (ds.take (i + 1)) = (doP (run (ps, ws) (ds.take i)).1 d', doW (run (ps, ws) (ds.take i)).1 (run (ps, ws) (ds.take i)).2 d') := by
              rw [List.take_add_one, ed]
              exact run_snoc _ _ _
            refine ⟨g', _, _, rfl, hlt, (sH.trans s3).trans s4, ?_⟩
            rw [er]
            exact FR3.next fo.2 c F4
          · have ei : i = ds.length := by omega
            subst ei
            obtain ⟨no, bad⟩ := kB x hx
            rw [List.take_length] at FR' ln
            have no' : ¬ ∃ d, FormAt (L2.upd H' t (.tup [.int (ds.length : Nat), x])) x (run (ps, ws) ds).1.length d ∧ canD (run (ps, ws) ds).1 d := by
              rw [ln]
              exact no_form thx sH no
            refine ⟨_, rfl, _, rfl, h, g, _, _, x, rfl, FR'.same st, thx.same sH, fun d fo c => absurd ⟨d, fo, c⟩ no', fun _ H3 s3 => ⟨false, rfl, iteT ?_⟩⟩
            have s0 := sH.trans s3
            exact ⟨_, rfl, _, rfl, fun dd hdd => bad _ dd (s0.trans (same_upd hdd)) (s0.free hdd) upd_same⟩
        · rintro σ H' ⟨g, v3, v4, rfl, hid, sm, FR'⟩
          have el : ds.length = xs.length := by omega
          rw [← el, List.take_length] at FR'
          exact ⟨_, rfl, kQ el H' g sm FR'.F⟩
      · have e1 := s1 _ _ e
        refine ⟨_, tp, _, _, [.type "list", .type "tuple"], true, rfl, etp, .cons (.ty _) (.cons (.ty _) .nil), .base (.tup e1), (by rw [kitAny_0 (kit_ty (by decide +kernel))]; exact kitAny_1 (kit_ty (by decide +kernel))), true, rfl, iteF ?_⟩
        refine ⟨_, rfl, _, rfl, a, xs, rfl, .inr ⟨SqT.of e1, ?_⟩⟩
        refine for_it (walk_enumT (K := K) (a := a) (xs := xs)) (fun i σ H' => ∃ (g : Addr) (v3 v4 : Option V), σ = [some (.ref f), some (.ref a), some (.ref g), v3, v4] ∧ i ≤ ds.length ∧ L2.Same H H' ∧ Frt C H' g (run (ps, ws) (ds.take i)).1 (run (ps, ws) (ds.take i)).2)
          ⟨f, none, none, rfl, Nat.zero_le _, s1, FR.same s1⟩ (fun i σ H' _ ⟨_, _, _, _, _, sm, _⟩ => SqT.of (sm _ _ e)) ?_ ?_
        · rintro i v σ H' H2 hi ⟨g, v3, v4, rfl, hid, sm, FR'⟩ ⟨t, x0, x, rfl, ht, rfl, hx0, hx⟩
          have ex0 : x0 = .int (i : Nat) := (Option.some.inj hx0).symm
          subst ex0
          have hx : xs[i]? = some x := hx
          have st := same_upd (o := .tup [.int (i : Nat), x]) ht
          have sH := sm.trans st
          have thx : Thing C h H x := th x (List.mem_of_getElem? hx)
          have ln : (run (ps, ws) (ds.take i)).1.length = ps.length := run_len _ _
          refine ⟨t, _, rfl, SqT.of upd_same, rfl, _, _, rfl, _, _, rfl, rfl, ?_⟩
          by_cases hlt : i < ds.length
          · have ed : ds[i]? = some ds[i] := List.getElem?_eq_getElem hlt
            generalize ds[i] = d at ed
            have da : DeedAt H x d := hds i x d ed hx
            obtain ⟨od, cd⟩ := okr i d ed
            have od : okD ps.length d := od
            refine ⟨_, rfl, _, rfl, h, g, _, _, x, rfl, FR'.same st, thx.same sH, fun d' fo c H3 s3 => ⟨true, rfl, iteF ?_⟩, fun n => absurd ⟨d, ⟨da.same sH, by rw [ln]; exact od⟩, cd⟩ n⟩
            have edd : d' = d := da.det (thx.deed_back sH fo.1)
            subst edd
            have FR3 := (FR'.same st).same s3
            refine ⟨_, rfl, _, rfl, g, _, _, x, d', rfl, FR3, fo.1.same s3, fo.2, c, fun H4 g' s4 _ F4 => ?_⟩
            have er : run (ps, ws) (ds.take (i + 1)) = (doP (run (ps, ws) (ds.take i)).1 d', doW (run (ps, ws) (ds.take i)).1 (run (ps, ws) (ds.take i)).2 d') := by
              rw [List.take_add_one, ed]
              exact run_snoc _ _ _
            refine ⟨g', _, _, rfl, hlt, (sH.trans s3).trans s4, ?_⟩
            rw [er]
            exact FR3.next fo.2 c F4
          · have ei : i = ds.length := by omega
            subst ei
            obtain ⟨no, bad⟩ := kB x hx
            rw [List.take_length] at FR' ln
            have no' : ¬ ∃ d, FormAt (L2.upd H' t (.tup [.int (ds.length : Nat), x])) x (run (ps, ws) ds).1.length d ∧ canD (run (ps, ws) ds).1 d := by
              rw [ln]
              exact no_form thx sH no
            refine ⟨_, rfl, _, rfl, h, g, _, _, x, rfl, FR'.same st, thx.same sH, fun d fo c => absurd ⟨d, fo, c⟩ no', fun _ H3 s3 => ⟨false, rfl, iteT ?_⟩⟩
            have s0 := sH.trans s3
            exact ⟨_, rfl, _, rfl, fun dd hdd => bad _ dd (s0.trans (same_upd hdd)) (s0.free hdd) upd_same⟩
        · rintro σ H' ⟨g, v3, v4, rfl, hid, sm, FR'⟩
          have el : ds.length = xs.length := by omega
          rw [← el, List.take_length] at FR'
          exact ⟨_, rfl, kQ el H' g sm FR'.F⟩
    · obtain ⟨t, ty, k1, k2⟩ := any_not (K := K) FC.own (an.same s1) (fun a xs e => by
        subst e
        constructor
        · intro z
          cases an with
          | lst m q => exact (nl a _ rfl).1 q
          | tup q => exact (nl a _ rfl).2 q
          | dic m q => rw [s1 _ _ q] at z; cases z
          | ins m q => rw [s1 _ _ q] at z; cases z
        · intro z
          cases an with
          | lst m q => exact (nl a _ rfl).1 q
          | tup q => exact (nl a _ rfl).2 q
          | dic m q => rw [s1 _ _ q] at z; cases z
          | ins m q => rw [s1 _ _ q] at z; cases z)
      refine ⟨_, tp, _, _, [.type "list", .type "tuple"], false, rfl, etp, .cons (.ty _) (.cons (.ty _) .nil), ty, (show PySem.W.kitAny K t [.type "list", .type "tuple"] = some false by rw [kitAny_0 k1, kitAny_0 k2]; rfl), false, rfl, iteT ?_⟩
      exact ⟨1, rfl, _, rfl, fun dd hdd => bad _ dd (s1.trans (same_upd hdd)) (s1.free hdd) upd_same⟩

end
end W2
namespace W2
open PySem PySem.Spec PyProof.Rows L2
section
variable {P : Program} {w : World} {K : PySem.W.Frag} {mg : Str → Option Value} {base : Heap} {C fI : Addr}
theorem ok_lhand (D : Def K mg "_law_hand" s_lhand ["_law_script"]) (T : Txt K mg)  : Cal P w K mg base 1 "_law_hand" ["_law_script"] (spHand K) := by
  refine D.cal sc_lhand (fun vs H Q E h => ?_) (fun f cdv A outer s H vs Q E hr h => ?_)
  · obtain ⟨s0, ns, rfl, _⟩ := h
    rfl
  · obtain ⟨s0, ns, rfl, hS, k⟩ := h
    refine ⟨_, (pss_one (ps_ret (pe_lst (pa_cons (pe_callTy call_list_of (by rfl) T.n_list (by decide +kernel) (pa_cons (pv 0) pa_nil)) (pa_cons pe_int (pa_cons pe_int (pa_cons pe_int (pa_cons pe_int pa_nil)))))))), ?_⟩
    refine ⟨_, rfl, s0, _, rfl, .inl hS, fun l hl => ⟨small (by show 5 ≤ 100000; decide), fun p hp => ?_⟩⟩
    have npl : p ≠ l := fun z => by rw [z, upd_same] at hp; cases hp
    refine k _ p l ((same_upd hl).trans (same_upd hp)) ((same_upd hl).free hp) ⟨ns, 0, 0, 1, 0, upd_same, by rw [upd_ne npl.symm, upd_same], by decide, by decide, by decide, by decide⟩

end
end W2
namespace W2
open PySem PySem.Spec PyProof.Rows L2
section
variable {P : Program} {w : World} {K : PySem.W.Frag} {mg : Str → Option Value} {base : Heap} {C fI : Addr}
theorem ok_take (D : Def K mg "_law_take" s_take ["_law_hand_here", "_law_size"]) (T : Txt K mg)  : Cal P w K mg base 1 "_law_take" ["_law_hand_here", "_law_size"] spTake := by
  refine D.cal sc_take (fun vs H Q E h => ?_) (fun f cdv A outer s H vs Q E hr h => ?_)
  · obtain ⟨h, l, n, rfl, _⟩ := h
    rfl
  · obtain ⟨h, l, n, rfl, HH, n0, n1, k⟩ := h
    refine ⟨_, (pss_cons (ps_asg (pe_op op_add (pe_ix (ix_listK (K := K) rfl) (pv 0) pe_int (fun _ _ => rfl)) pe_int) (pg_sub (pv 0) pe_int set_list))
      (C8.pss_cut (ps_if (PW.pt (pw_and (pt_cmpR op_eq (pe_ix (ix_listK (K := K) rfl) (pv 0) pe_int (fun _ _ => rfl)) pe_int (nomark _)) (pw_and1 (pt_cmpR op_lt (pe_ix (ix_listK (K := K) rfl) (pv 0) pe_int (fun _ _ => rfl)) (pe_callB (call_lenK (K := K) rfl) (by rfl) T.n_len PySem.boot_len (pa_cons (pe_ix (ix_listK (K := K) rfl) (pv 0) pe_int (fun _ _ => rfl)) pa_nil)) (nomark _))))) (pss_cons (ps_set (i := 2) sc_take.nd rfl (Or.inl rfl) (pe_callTy call_int1 (by rfl) T.n_int (by decide +kernel) (pa_cons (pe_ix (ix_listK (K := K) rfl) (pe_ix (ix_listK (K := K) rfl) (pv 0) pe_int (fun _ _ => rfl)) (pe_ix (ix_listK (K := K) rfl) (pv 0) pe_int (fun _ _ => rfl)) (fun _ _ => rfl)) pa_nil)))
      (pss_cons (ps_asg (pe_op op_add (pe_ix (ix_listK (K := K) rfl) (pv 0) pe_int (fun _ _ => rfl)) pe_int) (pg_sub (pv 0) pe_int set_list))
      (pss_one (ps_if (pt_cmpR op_ge (pv 2) (pe_op op_pow pe_int pe_int) (nomark _)) (pss_one (ps_asg (pv 2) (pg_sub (pv 0) pe_int set_list))) (pss_one (ps_asg (pe_op op_mod (pe_callTy call_int1 (by rfl) T.n_int (by decide +kernel) (pa_cons (pe_op op_add (pe_op op_add (pe_op op_mul (pe_ix (ix_listK (K := K) rfl) (pv 0) pe_int (fun _ _ => rfl)) pe_int) (pe_op op_mod (pe_callTy call_int1 (by rfl) T.n_int (by decide +kernel) (pa_cons (pv 2) pa_nil)) pe_int)) pe_int) pa_nil)) pe_int) (pg_sub (pv 0) pe_int set_list))))))) pss_nil)
      (pss_cons (ps_if (pt_cmpR op_gt (pe_ix (ix_listK (K := K) rfl) (pv 0) pe_int (fun _ _ => rfl)) pe_int (nomark _)) (pss_cons (ps_set (i := 3) sc_take.nd rfl (Or.inl rfl) (pe_op op_mod (pe_callTy call_int1 (by rfl) T.n_int (by decide +kernel) (pa_cons (pe_ix (ix_listK (K := K) rfl) (pv 0) pe_int (fun _ _ => rfl)) pa_nil)) (pv 1)))
      (pss_cons (ps_asg (pe_op op_fdivW (pe_callTy call_int1 (by rfl) T.n_int (by decide +kernel) (pa_cons (pe_ix (ix_listK (K := K) rfl) (pv 0) pe_int (fun _ _ => rfl)) pa_nil)) (pv 1)) (pg_sub (pv 0) pe_int set_list))
      (pss_one (ps_ret (pv 3))))) pss_nil)
      (pss_cons (ps_asg (pe_op op_mod (pe_callTy call_int1 (by rfl) T.n_int (by decide +kernel) (pa_cons (pe_op op_add (pe_op op_mul (pe_ix (ix_listK (K := K) rfl) (pv 0) pe_int (fun _ _ => rfl)) pe_int) (pe_op op_mul pe_int (pe_ix (ix_listK (K := K) rfl) (pv 0) pe_int (fun _ _ => rfl)))) pa_nil)) pe_int) (pg_sub (pv 0) pe_int set_list))
      (pss_cons (ps_set (i := 4) sc_take.nd rfl (Or.inl rfl) (pe_op op_mod (pe_callTy call_int1 (by rfl) T.n_int (by decide +kernel) (pa_cons (pe_op op_mul (pe_ix (ix_listK (K := K) rfl) (pv 0) pe_int (fun _ _ => rfl)) (pe_op op_add (pe_op op_fdivW (pe_ix (ix_listK (K := K) rfl) (pv 0) pe_int (fun _ _ => rfl)) pe_int) pe_int)) pa_nil)) pe_int))
      (pss_cons (ps_set (i := 4) sc_take.nd rfl (Or.inl rfl) (pe_op op_mod (pe_callTy call_int1 (by rfl) T.n_int (by decide +kernel) (pa_cons (pe_op op_mul (pv 4) (pe_op op_add (pe_op op_fdivW (pv 4) pe_int) pe_int)) pa_nil)) pe_int))
      (pss_one (ps_ret (pe_op op_mod (pe_callTy call_int1 (by rfl) T.n_int (by decide +kernel) (pa_cons (pe_op op_fdivW (pv 4) pe_int) pa_nil)) (pv 1)))))))))), ?_⟩
    obtain ⟨ns, i, b, sd, c, X⟩ := HH
    have hO := X.o
    have nl : l ≠ h := by
      intro z
      subst z
      have e := hO.symm.trans X.n
      cases ns with
      | nil => cases e
      | cons z r => cases e
    have i0 := X.i0
    have b0 := X.b0
    have s0 := X.s0
    have s1 := X.s1
    -- hand[4] = hand[4] + 1
    refine ⟨_, rfl, h, _, _, _, rfl, rfl, SqL.of hO, rfl, _, _, rfl, rfl, _, rfl, h, _, _, _, rfl, rfl, hO, rfl, ?_⟩
    generalize hH1 : L2.upd H h _ = H1
    have t1 : Bt h H H1 := by rw [← hH1]; exact (Bt.refl h H).upd
    have hO1 : H1 h = some (.lst [.ref l, .int i, .int b, .int sd, .int (c + 1)]) := by rw [← hH1]; exact upd_same
    have hn1 : H1 l = some (.lst (ns.map V.int)) := t1 _ _ nl X.n
    generalize c + 1 = c1 at hO1
    -- the first if
    refine ⟨fun σ H' => ∃ (v2 : Option V) (j : Int) (b' s' : Int), σ = [some (.ref h), some (.int n), v2, none, none] ∧ Bt h H H' ∧ HandAt H' h l ns j b' s' c1, ?_, ?_⟩
    · refine ⟨_, rfl, h, _, _, _, rfl, rfl, SqL.of hO1, rfl, rfl, _, rfl, ?_⟩
      refine iteB (fun _ => ?_) (fun _ => ⟨_, _, _, _, rfl, t1, hO1, hn1, i0, b0, s0, s1⟩)
      refine ⟨_, rfl, h, _, _, _, rfl, rfl, SqL.of hO1, rfl, _, rfl, h, _, _, _, rfl, rfl, SqL.of hO1, rfl, l, _, rfl, .inl (SqL.of hn1), _, _, rfl, rfl, _, rfl, ?_⟩
      refine iteB (fun lt => ?_) (fun _ => ⟨_, _, _, _, rfl, t1, hO1, hn1, i0, b0, s0, s1⟩)
      have lt' : i < ((ns.map V.int).length : Int) := of_decide_eq_true lt
      rw [List.length_map] at lt'
      have hj : i.toNat < ns.length := by omega
      have hz : (ns.map V.int)[i.toNat]? = some (.int ns[i.toNat]) := by rw [List.getElem?_map, List.getElem?_eq_getElem hj]; rfl
      generalize ns[i.toNat] = z at hz
      have hat : atI (ns.map V.int) i = some (.int z) := at_of (by omega) hz
      -- cell = int(hand[0][hand[1]])
      refine ⟨_, rfl, h, _, _, _, rfl, rfl, SqL.of hO1, rfl, _, rfl, h, _, _, _, rfl, rfl, SqL.of hO1, rfl, l, _, _, _, rfl, rfl, SqL.of hn1, hat, .inl ⟨z, rfl, ?_⟩⟩
      -- hand[1] = hand[1] + 1
      refine ⟨_, rfl, h, _, _, _, rfl, rfl, SqL.of hO1, rfl, _, _, rfl, rfl, _, rfl, h, _, _, _, rfl, rfl, hO1, rfl, ?_⟩
      generalize hH2 : L2.upd H1 h _ = H2
      have t2 : Bt h H H2 := by rw [← hH2]; exact t1.upd
      have hO2 : H2 h = some (.lst [.ref l, .int (i + 1), .int b, .int sd, .int c1]) := by rw [← hH2]; exact upd_same
      have hn2 : H2 l = some (.lst (ns.map V.int)) := t2 _ _ nl X.n
      -- if cell >= 10 ** 18
      refine ⟨_, rfl, 10, 18, rfl, rfl, ⟨by decide, by decide, by decide⟩, _, _, rfl, rfl, _, rfl, ?_⟩
      refine iteB (fun ge => ?_) (fun _ => ?_)
      · have ge' : (10 : Int) ^ (18 : Int).toNat ≤ z := of_decide_eq_true ge
        have z0 : 0 ≤ z := Int.le_trans (by decide) ge'
        refine ⟨_, rfl, _, rfl, h, _, _, _, rfl, rfl, hO2, rfl, ?_⟩
        exact ⟨_, i + 1, z, sd, rfl, t2.upd, upd_same, by rw [upd_ne nl]; exact hn2, by omega, z0, s0, s1⟩
      · refine ⟨_, rfl, h, _, _, _, rfl, rfl, SqL.of hO2, rfl, _, _, rfl, rfl, .inl ⟨by omega, by omega⟩, _, rfl, .inl ⟨_, rfl, _, _, rfl, rfl, M31, _, _, rfl, rfl, _, _, rfl, rfl, .inl ⟨_, rfl, _, _, rfl, rfl, M31, _, rfl, h, _, _, _, rfl, rfl, hO2, rfl, ?_⟩⟩⟩
        exact ⟨_, i + 1, b, _, rfl, t2.upd, upd_same, by rw [upd_ne nl]; exact hn2, by omega, b0, Int.emod_nonneg _ (by decide), Int.emod_lt_of_pos _ (by decide)⟩
    · rintro σ H2 ⟨v2, j, b', s', rfl, t2, Y⟩
      have hO2 := Y.o
      -- if hand[2] > 0
      refine ⟨_, rfl, h, _, _, _, rfl, rfl, SqL.of hO2, rfl, _, _, rfl, rfl, _, rfl, ?_⟩
      refine iteB (fun _ => ?_) (fun _ => ?_)
      · refine ⟨_, rfl, h, _, _, _, rfl, rfl, SqL.of hO2, rfl, .inl ⟨_, rfl, _, rfl, _, _, rfl, rfl, n0, ?_⟩⟩
        refine ⟨_, rfl, h, _, _, _, rfl, rfl, SqL.of hO2, rfl, .inl ⟨_, rfl, _, rfl, _, _, rfl, rfl, wide_div n0 (b := 30) (by omega) (by decide) (by decide), _, rfl, h, _, _, _, rfl, rfl, hO2, rfl, ?_⟩⟩
        refine ⟨_, rfl, k _ _ t2.upd ⟨ns, j, b' / n, s', c1, upd_same, by rw [upd_ne nl]; exact Y.n, Y.i0, Int.ediv_nonneg Y.b0 (by omega), Y.s0, Y.s1⟩ (Int.emod_nonneg _ (by omega)) (Int.emod_lt_of_pos _ n0)⟩
      · have s0 := Y.s0
        have s1 := Y.s1
        -- hand[3] = int(hand[3] * 69621 + 7919 * hand[4]) % 2147483647
        refine ⟨_, rfl, h, _, _, _, rfl, rfl, SqL.of hO2, rfl, _, _, rfl, rfl, .inl ⟨by omega, by omega⟩, _, rfl, h, _, _, _, rfl, rfl, SqL.of hO2, rfl, _, _, rfl, rfl, .inl ⟨by decide, by decide⟩, _, _, rfl, rfl, .inl ⟨_, rfl, _, _, rfl, rfl, M31, _, rfl, h, _, _, _, rfl, rfl, hO2, rfl, ?_⟩⟩
        generalize hz : ((s' * 69621 + 7919 * c1) % 2147483647 : Int) = z
        have z0 : 0 ≤ z := by rw [← hz]; exact Int.emod_nonneg _ (by decide)
        have z1 : z < 2147483647 := by rw [← hz]; exact Int.emod_lt_of_pos _ (by decide)
        generalize hH3 : L2.upd H2 h _ = H3
        have t3 : Bt h H H3 := by rw [← hH3]; exact t2.upd
        have hO3 : H3 h = some (.lst [.ref l, .int j, .int b', .int z, .int c1]) := by rw [← hH3, ← hz]; exact upd_same
        have hn3 : H3 l = some (.lst (ns.map V.int)) := t3 _ _ nl X.n
        -- number = int(hand[3] * (hand[3] // 1009 + 69621)) % 2147483647
        refine ⟨_, rfl, h, _, _, _, rfl, rfl, SqL.of hO3, rfl, _, rfl, h, _, _, _, rfl, rfl, SqL.of hO3, rfl, _, _, rfl, rfl, wide_div (by decide) (b := 30) (by decide) (by decide) (by decide), _, _, rfl, rfl, _, _, rfl, rfl, .inl ⟨by omega, by omega⟩, .inl ⟨_, rfl, _, _, rfl, rfl, M31, ?_⟩⟩
        generalize hu : (z * (z / 1009 + 69621) % 2147483647 : Int) = u
        have u0 : 0 ≤ u := by rw [← hu]; exact Int.emod_nonneg _ (by decide)
        have u1 : u < 2147483647 := by rw [← hu]; exact Int.emod_lt_of_pos _ (by decide)
        show _
        refine ⟨.int u, (by rw [← hu]; rfl), .int u, (by rw [← hu]; rfl), _, _, rfl, rfl, wide_div (by decide) (b := 30) (by decide) (by decide) (by decide), _, _, rfl, rfl, _, _, rfl, rfl, .inl ⟨by omega, by omega⟩, .inl ⟨_, rfl, _, _, rfl, rfl, M30, ?_⟩⟩
        refine ⟨_, rfl, _, _, rfl, rfl, wide_div (by decide) (b := 30) (by decide) (by decide) (by decide), .inl ⟨_, rfl, _, rfl, _, _, rfl, rfl, n0, ?_⟩⟩
        exact k _ _ t3 ⟨ns, j, b', z, c1, hO3, hn3, Y.i0, Y.b0, z0, z1⟩ (Int.emod_nonneg _ (by omega)) (Int.emod_lt_of_pos _ n0)

end
end W2
namespace W2
open PySem PySem.Spec PyProof.Rows L2
section
variable {P : Program} {w : World} {K : PySem.W.Frag} {mg : Str → Option Value} {base : Heap} {C fI : Addr}
theorem ok_pick (D : Def K mg "_law_pick" s_pick ["_law_hand_here", "_law_things"]) (T : Txt K mg) (C_take : Cal P w K mg base 1 "_law_take" ["_law_hand_here", "_law_size"] spTake) : Cal P w K mg base 2 "_law_pick" ["_law_hand_here", "_law_things"] spPick := by
  refine D.cal sc_pick (fun vs H Q E h => ?_) (fun f cdv A outer s H vs Q E hr h => ?_)
  · obtain ⟨h, l, t, xs, rfl, _⟩ := h
    rfl
  · obtain ⟨h, l, t, xs, rfl, HH, ht, nth, h0, hz, k⟩ := h
    refine ⟨_, (pss_one (ps_ret (pe_ix (ix_listK (K := K) rfl) (pv 1) (pcal C_take hr (by decide) rfl (pa_cons (pv 0) (pa_cons (pe_callB (call_lenK (K := K) rfl) (by rfl) T.n_len PySem.boot_len (pa_cons (pv 1) pa_nil)) pa_nil))) (fun _ _ => rfl)))), ?_⟩
    refine ⟨_, rfl, _, rfl, _, rfl, t, _, rfl, .inl (SqL.of ht), h, l, _, rfl, HH, by omega, by omega, fun H1 r b1 hh1 r0 r1 => ?_⟩
    have hr : r.toNat < xs.length := by omega
    have hat : atI xs r = some xs[r.toNat] := at_of (by omega) (List.getElem?_eq_getElem hr)
    exact ⟨t, _, _, _, rfl, rfl, SqL.of (b1 _ _ nth ht), hat, k _ _ b1 hh1 (List.getElem_mem hr)⟩

end
end W2
namespace W2
open PySem PySem.Spec PyProof.Rows L2
section
variable {P : Program} {w : World} {K : PySem.W.Frag} {mg : Str → Option Value} {base : Heap} {C fI : Addr}
theorem ok_lisint (D : Def K mg "_law_is_integer" s_lisint ["_law_thing"]) (T : Txt K mg)  (FC : ForC K mg C fI) : Cal P w K mg base 1 "_law_is_integer" ["_law_thing"] (spIsInt C) := by
  refine D.cal sc_lisint (fun vs H Q E h => ?_) (fun f cdv A outer s H vs Q E hr h => ?_)
  · obtain ⟨h, x, rfl, _⟩ := h
    rfl
  · obtain ⟨h, x, rfl, a, k⟩ := h
    obtain ⟨t, ty, k1, k2⟩ := any_kit FC.own a
    refine ⟨_, (pss_one (ps_ret (pe_and (pe_callB (call_isiK1 (K := K) rfl) (by rfl) T.n_isinstance (by decide +kernel) (pa_cons (pv 0) (pa_cons (pe_bltn (v := .ty "int") (by rfl) T.n_int (by decide +kernel) rfl) pa_nil))) (pe_one (pe_not (pe_callB (call_isiK1 (K := K) rfl) (by rfl) T.n_isinstance (by decide +kernel) (pa_cons (pv 0) (pa_cons (pe_bltn (v := .ty "bool") (by rfl) T.n_bool (by decide +kernel) rfl) pa_nil)))))))), ?_⟩
    refine ⟨_, rfl, _, _, _, _, _, rfl, .ty _, ty, k1, _, rfl, iteB (fun e => ?_) (fun e => ?_)⟩
    · refine ⟨_, rfl, _, _, _, _, _, rfl, .ty _, ty, k2, _, rfl, ?_⟩
      have e2 : (!isB x) = isI x := by cases x <;> first | rfl | cases e
      rw [e2]
      exact k _ (L2.Same.refl _)
    · have e2 : isI x = false := by cases x <;> first | rfl | cases e
      have r := k _ (L2.Same.refl _)
      rw [e2] at r
      exact r

end
end W2
namespace W2
open PySem PySem.Spec PyProof.Rows L2
section
variable {P : Program} {w : World} {K : PySem.W.Frag} {mg : Str → Option Value} {base : Heap} {C fI : Addr}
theorem ok_within (D : Def K mg "_law_is_within" s_within ["_law_thing", "_law_least", "_law_most"]) (T : Txt K mg) (C_lisint : Cal P w K mg base 1 "_law_is_integer" ["_law_thing"] (spIsInt C)) : Cal P w K mg base 2 "_law_is_within" ["_law_thing", "_law_least", "_law_most"] (spWithin C) := by
  refine D.cal sc_within (fun vs H Q E h => ?_) (fun f cdv A outer s H vs Q E hr h => ?_)
  · obtain ⟨h, a, b, x, rfl, _⟩ := h
    rfl
  · obtain ⟨h, a, b, x, rfl, an, k⟩ := h
    refine ⟨_, (pss_one (ps_ret (pe_and (pcal C_lisint hr (by decide) rfl (pa_cons (pv 0) pa_nil)) (pe_and (pe_cmpR op_le (pv 1) (pv 0) (nomark _)) (pe_one (pe_cmpR op_le (pv 0) (pv 2) (nomark _))))))), ?_⟩
    refine ⟨_, rfl, h, x, rfl, an, fun H1 s1 => ⟨_, rfl, iteB (fun e => ?_) (fun e => ?_)⟩⟩
    · obtain ⟨i, rfl⟩ := isI_of e
      have r := k _ s1
      refine ⟨_, rfl, _, rfl, _, _, rfl, rfl, _, rfl, iteB (fun e1 => ⟨_, rfl, _, rfl, _, _, rfl, rfl, ?_⟩) (fun e1 => ?_)⟩
      · have r : Q (.bl (decide (a ≤ i) && decide (i ≤ b))) H1 := r
        rw [e1, Bool.true_and] at r
        exact r
      · have r : Q (.bl (decide (a ≤ i) && decide (i ≤ b))) H1 := r
        rw [e1, Bool.false_and] at r
        exact r
    · have r := k _ s1
      have e2 : wiV a b x = false := by cases x <;> first | rfl | cases e
      rw [e2] at r
      exact r

end
end W2
namespace W2
open PySem PySem.Spec PyProof.Rows L2
section
variable {P : Program} {w : World} {K : PySem.W.Frag} {mg : Str → Option Value} {base : Heap} {C fI : Addr}
theorem ok_same (D : Def K mg "_law_same" s_same ["_law_actual", "_law_due"]) (T : Txt K mg) (C_lisint : Cal P w K mg base 1 "_law_is_integer" ["_law_thing"] (spIsInt C)) : ∀ d : Nat, Cal P w K mg base (2 + d) "_law_same" ["_law_actual", "_law_due"] (spSame d) := by
  intro d
  induction d with
  | zero =>
    obtain ⟨f, fd, F, hm, b⟩ := D.ex
    exact ⟨f, fd, ⟨fun vs H Q E ⟨_, _, _, h, _⟩ => h.elim, fun A outer s H args us vs Q E _ _ _ _ ⟨_, _, _, h, _⟩ => h.elim⟩, hm, F.kp, b⟩
  | succ d C_same =>
    refine D.cal (k := 2 + d) sc_same (fun vs H Q E h => ?_) (fun f cdv A outer s H vs Q E hr h => ?_)
    · obtain ⟨x, y, rfl, _⟩ := h
      rfl
    · obtain ⟨x, y, rfl, hxy, k⟩ := h
      refine ⟨_, (pss_cons (ps_if (pt_cmpR op_isN (pv 1) pe_non (nomark _)) (pss_one (ps_ret (pe_cmpR op_isN (pv 0) pe_non (nomark _)))) pss_nil)
      (pss_cons (ps_if (pt_cmpR op_isB (pv 1) pe_bl (nomark _)) (pss_one (ps_ret (pe_cmpR op_isB (pv 0) pe_bl (nomark _)))) pss_nil)
      (pss_cons (ps_if (pt_cmpR op_isB (pv 1) pe_bl (nomark _)) (pss_one (ps_ret (pe_cmpR op_isB (pv 0) pe_bl (nomark _)))) pss_nil)
      (pss_cons (ps_if (pt_val (pe_callB (call_isiK1 (K := K) rfl) (by rfl) T.n_isinstance (by decide +kernel) (pa_cons (pv 1) (pa_cons (pe_bltn (v := .ty "int") (by rfl) T.n_int (by decide +kernel) rfl) pa_nil)))) (pss_one (ps_ret (pe_and (pcal C_lisint hr (by omega) rfl (pa_cons (pv 0) pa_nil)) (pe_one (pe_cmpR op_eq (pv 0) (pv 1) (nomark _)))))) pss_nil)
      (pss_cons (ps_if (pt_val (pe_callB (call_isiK1 (K := K) rfl) (by rfl) T.n_isinstance (by decide +kernel) (pa_cons (pv 1) (pa_cons (pe_bltn (v := .ty "str") (by rfl) T.n_str (by decide +kernel) rfl) pa_nil)))) (pss_one (ps_ret (pe_and (pe_callB (call_isiK1 (K := K) rfl) (by rfl) T.n_isinstance (by decide +kernel) (pa_cons (pv 0) (pa_cons (pe_bltn (v := .ty "str") (by rfl) T.n_str (by decide +kernel) rfl) pa_nil))) (pe_one (pe_cmpR op_eq (pv 0) (pv 1) (nomark _)))))) pss_nil)
      (pss_cons (ps_if (PW.pt (pw_or (pt_cmpR op_ne (pe_callB (call_isiK1 (K := K) rfl) (by rfl) T.n_isinstance (by decide +kernel) (pa_cons (pv 1) (pa_cons (pe_bltn (v := .ty "tuple") (by rfl) T.n_tuple (by decide +kernel) rfl) pa_nil))) (pe_callB (call_isiK1 (K := K) rfl) (by rfl) T.n_isinstance (by decide +kernel) (pa_cons (pv 0) (pa_cons (pe_bltn (v := .ty "tuple") (by rfl) T.n_tuple (by decide +kernel) rfl) pa_nil))) (nomark _)) (pw_or1 (pt_cmpR op_ne (pe_callB (call_isiK1 (K := K) rfl) (by rfl) T.n_isinstance (by decide +kernel) (pa_cons (pv 1) (pa_cons (pe_bltn (v := .ty "list") (by rfl) T.n_list (by decide +kernel) rfl) pa_nil))) (pe_callB (call_isiK1 (K := K) rfl) (by rfl) T.n_isinstance (by decide +kernel) (pa_cons (pv 0) (pa_cons (pe_bltn (v := .ty "list") (by rfl) T.n_list (by decide +kernel) rfl) pa_nil))) (nomark _))))) (pss_one (ps_ret pe_bl)) pss_nil)
      (pss_cons (ps_if (pt_cmpR op_ne (pe_callB (call_lenK (K := K) rfl) (by rfl) T.n_len PySem.boot_len (pa_cons (pv 0) pa_nil)) (pe_callB (call_lenK (K := K) rfl) (by rfl) T.n_len PySem.boot_len (pa_cons (pv 1) pa_nil)) (nomark _)) (pss_one (ps_ret pe_bl)) pss_nil)
      (pss_cons (ps_for PassesOwn.never rfl (RZ.pi_zipA (by rfl) T.n_zip (pa_cons (pv 0) (pa_cons (pv 1) pa_nil))) (pg_tup rfl (pgs_cons (pg_name (i := 2) sc_same.nd rfl (Or.inl rfl)) (pgs_cons (pg_name (i := 3) sc_same.nd rfl (Or.inl rfl)) pgs_nil))) (pss_one (ps_if (pt_not (pt_val (pcal C_same hr (by omega) rfl (pa_cons (pv 2) (pa_cons (pv 3) pa_nil))))) (pss_one (ps_ret pe_bl)) pss_nil)))
      (pss_one (ps_ret pe_bl)))))))))), ?_⟩
      rcases hxy with ⟨rfl, rfl⟩ | ⟨i, rfl, rfl⟩ | ⟨z, rfl, rfl⟩ | ⟨b0, rfl, rfl⟩ | ⟨a, b, xs, ys, rfl, rfl, h3, h4, h5, h6⟩
      · exact ⟨_, rfl, rfl, _, rfl, iteT ⟨_, rfl, rfl, k _ (L2.Same.refl _)⟩⟩
      · refine ⟨_, rfl, rfl, _, rfl, iteF ?_⟩
        refine ⟨_, rfl, true, rfl, _, rfl, iteF ?_⟩
        refine ⟨_, rfl, false, rfl, _, rfl, iteF ?_⟩
        refine ⟨_, rfl, _, _, _, _, true, rfl, .ty _, .base (.int i), kit_ty (by decide +kernel), true, rfl, iteT ?_⟩
        refine ⟨_, rfl, 0, _, rfl, .int i, fun H1 s1 => ⟨true, rfl, iteT ⟨_, rfl, _, rfl, rfl, ?_⟩⟩⟩
        rw [decide_eq_true rfl]
        exact k _ s1
      · refine ⟨_, rfl, rfl, _, rfl, iteF ?_⟩
        refine ⟨_, rfl, true, rfl, _, rfl, iteF ?_⟩
        refine ⟨_, rfl, false, rfl, _, rfl, iteF ?_⟩
        refine ⟨_, rfl, _, _, _, _, false, rfl, .ty _, .base (.str z), kit_ty (by decide +kernel), false, rfl, iteF ?_⟩
        refine ⟨_, rfl, _, _, _, _, true, rfl, .ty _, .base (.str z), kit_ty (by decide +kernel), true, rfl, iteT ?_⟩
        refine ⟨_, rfl, _, _, _, _, true, rfl, .ty _, .base (.str z), kit_ty (by decide +kernel), true, rfl, iteT ⟨_, rfl, _, rfl, rfl, ?_⟩⟩
        rw [decide_eq_true rfl]
        exact k _ (L2.Same.refl _)
      · refine ⟨_, rfl, rfl, _, rfl, iteF ?_⟩
        cases b0 with
        | true => exact ⟨_, rfl, true, rfl, _, rfl, iteT ⟨_, rfl, true, rfl, k _ (L2.Same.refl _)⟩⟩
        | false => exact ⟨_, rfl, true, rfl, _, rfl, iteF ⟨_, rfl, false, rfl, _, rfl, iteT ⟨_, rfl, false, rfl, k _ (L2.Same.refl _)⟩⟩⟩
      · refine ⟨_, rfl, rfl, _, rfl, iteF ?_⟩
        refine ⟨_, rfl, true, rfl, _, rfl, iteF ?_⟩
        refine ⟨_, rfl, false, rfl, _, rfl, iteF ?_⟩
        refine ⟨_, rfl, _, _, _, _, false, rfl, .ty _, .base (.tup h4), kit_ty (by decide +kernel), false, rfl, iteF ?_⟩
        refine ⟨_, rfl, _, _, _, _, false, rfl, .ty _, .base (.tup h4), kit_ty (by decide +kernel), false, rfl, iteF ?_⟩
        refine ⟨_, rfl, _, _, _, _, true, rfl, .ty _, .base (.tup h4), kit_ty (by decide +kernel), _, rfl, _, _, _, _, true, rfl, .ty _, .base (.tup h3), kit_ty (by decide +kernel), rfl, _, rfl, iteF ?_⟩
        refine ⟨_, rfl, _, _, _, _, false, rfl, .ty _, .base (.tup h4), kit_ty (by decide +kernel), _, rfl, _, _, _, _, false, rfl, .ty _, .base (.tup h3), kit_ty (by decide +kernel), rfl, _, rfl, iteF ?_⟩
        refine ⟨_, rfl, a, _, rfl, .inr (SqT.of h3), _, rfl, b, _, rfl, .inr (SqT.of h4), rfl, _, rfl, ?_⟩
        rw [h5, decide_eq_true rfl]
        refine iteF ?_
        refine ⟨_, rfl, _, rfl, a, b, xs, ys, rfl, .inr ⟨SqT.of h3, SqT.of h4, RZ.for_zipT h5 (fun i σ H' => ∃ v2 v3 : Option V, σ = [some (.ref a), some (.ref b), v2, v3] ∧ L2.Same H H') ⟨none, none, rfl, L2.Same.refl _⟩ (fun i σ H' ⟨_, _, _, sm⟩ => ⟨SqT.of (sm _ _ h3), SqT.of (sm _ _ h4)⟩) ?_ ?_⟩⟩
        · rintro i x y t σ H' hx hy ⟨v2, v3, rfl, sm⟩ ht
          have s1 := sm.trans (same_upd (o := .tup [x, y]) ht)
          refine ⟨t, [x, y], rfl, SqT.of upd_same, rfl, x, [y], rfl, y, [], rfl, rfl, ?_⟩
          refine ⟨_, rfl, _, rfl, x, y, rfl, (h6 i x y hx hy).same s1, fun H5 s5 => ⟨true, rfl, iteF ⟨_, _, rfl, s1.trans s5⟩⟩⟩
        · rintro σ H' ⟨v2, v3, rfl, sm⟩
          exact k _ sm

end
end W2
namespace W2
open PySem PySem.Spec PyProof.Rows L2
section
variable {P : Program} {w : World} {K : PySem.W.Frag} {mg : Str → Option Value} {base : Heap} {C fI : Addr}
theorem ok_odd (D : Def K mg "_law_odd" s_odd ["_law_hand_here"]) (T : Txt K mg) (C_take : Cal P w K mg base 1 "_law_take" ["_law_hand_here", "_law_size"] spTake) : Cal P w K mg base 2 "_law_odd" ["_law_hand_here"] (spOdd C) := by
  refine D.cal sc_odd (fun vs H Q E h => ?_) (fun f cdv A outer s H vs Q E hr h => ?_)
  · obtain ⟨h, l, rfl, _⟩ := h
    rfl
  · obtain ⟨h, l, rfl, HH, k⟩ := h
    refine ⟨_, (pss_cons (ps_set (i := 1) sc_odd.nd rfl (Or.inl rfl) (pcal C_take hr (by decide) rfl (pa_cons (pv 0) (pa_cons pe_int pa_nil))))
      (pss_cons (ps_if (pt_cmpR op_lt (pv 1) pe_int (nomark _)) (pss_one (ps_ret (pe_ix (ix_listK (K := K) rfl) (pe_lst (pa_cons pe_non (pa_cons pe_bl (pa_cons pe_bl (pa_cons pe_str (pa_cons pe_str (pa_cons pe_str pa_nil))))))) (pv 1) (fun _ _ => rfl)))) pss_nil)
      (pss_cons (ps_if (pt_cmpR op_lt (pv 1) pe_int (nomark _)) (pss_one (ps_ret (pe_ix (ix_listK (K := K) rfl) (pe_lst (pa_cons (pe_tup pa_nil) (pa_cons (pe_lst pa_nil) (pa_cons (pe_dnewK) (pa_cons (pe_tup (pa_cons pe_int pa_nil)) (pa_cons (pe_lst (pa_cons pe_int (pa_cons pe_int pa_nil))) (pa_cons (pe_tup (pa_cons (pe_tup pa_nil) pa_nil)) pa_nil))))))) (pe_op op_sub (pv 1) pe_int) (fun _ _ => rfl)))) pss_nil)
      (pss_one (ps_ret (pe_ix (ix_listK (K := K) rfl) (pe_lst (pa_cons (pe_un un_neg pe_int) (pa_cons pe_int (pa_cons (pe_op op_sub (pe_op op_pow pe_int pe_int) pe_int) (pa_cons (pe_tup (pa_cons pe_int (pa_cons pe_int pa_nil))) (pa_cons (pe_tup (pa_cons pe_str pa_nil)) (pa_cons (pe_tup (pa_cons pe_str (pa_cons pe_int pa_nil))) pa_nil))))))) (pe_op op_sub (pv 1) pe_int) (fun _ _ => rfl))))))), ?_⟩
    refine ⟨_, rfl, h, l, 18, rfl, HH, by decide, by decide, fun H1 r b1 hh1 r0 r1 => ?_⟩
    obtain ⟨lh, eh⟩ := hh1.lst
    have end_ : ∀ H2, Same H1 H2 → ∀ x, Thing C h H2 x → Q x H2 := fun H2 s2 x t => k H2 x (b1.trans (Bt.of s2)) (hh1.same s2) t
    refine ⟨_, rfl, _, _, rfl, rfl, _, rfl, iteB (fun e1 => ?_) (fun e1 => ?_)⟩
    · have e2 := of_decide_eq_true e1
      refine ⟨small (by show 6 ≤ 100000; decide), fun t ht => ?_⟩
      refine ⟨_, rfl, rIxL_any upd_same r0 e2 (fun v hv => end_ _ (same_upd ht) _ ?_)⟩
      simp only [List.mem_cons, List.not_mem_nil, or_false] at hv
      rcases hv with rfl | rfl | rfl | rfl | rfl | rfl
      · exact .flat .non (fun b z => nomatch z)
      · exact .flat (.bl _) (fun b z => nomatch z)
      · exact .flat (.bl _) (fun b z => nomatch z)
      · exact .flat (.str _) (fun b z => nomatch z)
      · exact .flat (.str _) (fun b z => nomatch z)
      · exact .flat (.str _) (fun b z => nomatch z)
    have e2 := of_decide_eq_false e1
    refine ⟨_, rfl, _, _, rfl, rfl, _, rfl, iteB (fun e3 => ?_) (fun e3 => ?_)⟩
    · have e4 := of_decide_eq_true e3
      refine ⟨small (by show 0 ≤ 100000; decide), fun t1 h1 => ?_⟩
      have z1 := same_upd (o := .tup []) h1
      refine ⟨small (by show 0 ≤ 100000; decide), fun t2 h2 => ?_⟩
      have z2 := same_upd (o := .lst []) h2
      have n2 := (ne_of_none (z1 _ _ eh) h2).symm
      refine fun t3 h3 => ?_
      have z3 := same_upd (o := .dK []) h3
      have n3 := (ne_of_none ((z1.trans z2) _ _ eh) h3).symm
      refine ⟨small (by show 1 ≤ 100000; decide), fun t4 h4 => ?_⟩
      have z4 := same_upd (o := .tup [V.int 0]) h4
      refine ⟨small (by show 2 ≤ 100000; decide), fun t5 h5 => ?_⟩
      have z5 := same_upd (o := .lst [V.int 0, V.int 0]) h5
      have n5 := (ne_of_none ((((z1.trans z2).trans z3).trans z4) _ _ eh) h5).symm
      refine ⟨small (by show 0 ≤ 100000; decide), fun t6 h6 => ?_⟩
      have z6 := same_upd (o := .tup []) h6
      refine ⟨small (by show 1 ≤ 100000; decide), fun t7 h7 => ?_⟩
      have z7 := same_upd (o := .tup [V.ref t6]) h7
      refine ⟨small (by show 6 ≤ 100000; decide), fun t8 h8 => ?_⟩
      have z8 := same_upd (o := .lst [V.ref t1, V.ref t2, V.ref t3, V.ref t4, V.ref t5, V.ref t7]) h8
      have y7 := z7.trans z8
      have y6 := z6.trans y7
      have y5 := z5.trans y6
      have y4 := z4.trans y5
      have y3 := z3.trans y4
      have y2 := z2.trans y3
      have y1 := z1.trans y2
      refine ⟨_, rfl, _, _, rfl, rfl, rIxL_any upd_same (by show 0 ≤ r - 6; omega) (by show r - 6 < 6; omega) (fun v hv => end_ _ y1 _ ?_)⟩
      simp only [List.mem_cons, List.not_mem_nil, or_false] at hv
      rcases hv with rfl | rfl | rfl | rfl | rfl | rfl
      · exact .tup (y2 _ _ upd_same) (fun y hy => nomatch hy)
      · exact .lst n2 (y3 _ _ upd_same)
      · exact .dic n3 (y4 _ _ upd_same)
      · refine .tup (y5 _ _ upd_same) (fun y hy => ?_)
        simp only [List.mem_cons, List.not_mem_nil, or_false] at hy
        subst hy
        exact .int _
      · exact .lst n5 (y6 _ _ upd_same)
      · refine .tup (z8 _ _ upd_same) (fun y hy => ?_)
        simp only [List.mem_cons, List.not_mem_nil, or_false] at hy
        subst hy
        exact .tup (y7 _ _ upd_same)
    · have e4 := of_decide_eq_false e3
      refine ⟨1, rfl, 10, 20, rfl, rfl, ⟨by decide, by decide, by decide⟩, _, _, rfl, rfl, ?_⟩
      refine ⟨small (by show 2 ≤ 100000; decide), fun t1 h1 => ?_⟩
      have z1 := same_upd (o := .tup [V.int 0, V.int 1]) h1
      refine ⟨small (by show 1 ≤ 100000; decide), fun t2 h2 => ?_⟩
      have z2 := same_upd (o := .tup [V.str "turn"]) h2
      refine ⟨small (by show 2 ≤ 100000; decide), fun t3 h3 => ?_⟩
      have z3 := same_upd (o := .tup [V.str "root", V.int 99]) h3
      refine ⟨small (by show 6 ≤ 100000; decide), fun t8 h8 => ?_⟩
      have z8 := same_upd (o := .lst [V.int (-1), V.int 64, V.int (10 ^ Int.toNat 20 - 1), V.ref t1, V.ref t2, V.ref t3]) h8
      have y3 := z3.trans z8
      have y2 := z2.trans y3
      have y1 := z1.trans y2
      refine ⟨_, rfl, _, _, rfl, rfl, rIxL_any upd_same (by show 0 ≤ r - 12; omega) (by show r - 12 < 6; omega) (fun v hv => end_ _ y1 _ ?_)⟩
      simp only [List.mem_cons, List.not_mem_nil, or_false] at hv
      rcases hv with rfl | rfl | rfl | rfl | rfl | rfl
      · exact .flat (.int _) (fun b z => nomatch z)
      · exact .flat (.int _) (fun b z => nomatch z)
      · exact .flat (.int _) (fun b z => nomatch z)
      · refine .tup (y2 _ _ upd_same) (fun y hy => ?_)
        simp only [List.mem_cons, List.not_mem_nil, or_false] at hy
        rcases hy with rfl | rfl
        · exact .int _
        · exact .int _
      · refine .tup (y3 _ _ upd_same) (fun y hy => ?_)
        simp only [List.mem_cons, List.not_mem_nil, or_false] at hy
        subst hy
        exact .str _
      · refine .tup (z8 _ _ upd_same) (fun y hy => ?_)
        simp only [List.mem_cons, List.not_mem_nil, or_false] at hy
        rcases hy with rfl | rfl
        · exact .str _
        · exact .int _

end
end W2
namespace W2
open PySem PySem.Spec PyProof.Rows L2
section
variable {P : Program} {w : World} {K : PySem.W.Frag} {mg : Str → Option Value} {base : Heap} {C fI : Addr}
theorem ok_value (D : Def K mg "_law_value" s_value ["_law_hand_here"]) (T : Txt K mg) (C_pick : Cal P w K mg base 2 "_law_pick" ["_law_hand_here", "_law_things"] spPick) (C_take : Cal P w K mg base 1 "_law_take" ["_law_hand_here", "_law_size"] spTake) : Cal P w K mg base 3 "_law_value" ["_law_hand_here"] spValue := by
  refine D.cal sc_value (fun vs H Q E h => ?_) (fun f cdv A outer s H vs Q E hr h => ?_)
  · obtain ⟨h, l, rfl, _⟩ := h
    rfl
  · obtain ⟨h, l, rfl, HH, k⟩ := h
    refine ⟨_, (pss_one (ps_ret (pcal C_pick hr (by decide) rfl (pa_cons (pv 0) (pa_cons (pe_lst (pa_cons pe_int (pa_cons pe_int (pa_cons (pe_un un_neg pe_int) (pa_cons pe_int (pa_cons pe_int (pa_cons (pe_op op_pow pe_int pe_int) (pa_cons (pe_op op_sub (pcal C_take hr (by decide) rfl (pa_cons (pv 0) (pa_cons pe_int pa_nil))) pe_int) (pa_cons (pe_op op_sub (pcal C_take hr (by decide) rfl (pa_cons (pv 0) (pa_cons pe_int pa_nil))) pe_int) (pa_cons (pcal C_take hr (by decide) rfl (pa_cons (pv 0) (pa_cons (pe_op op_pow pe_int pe_int) pa_nil))) pa_nil)))))))))) pa_nil))))), ?_⟩
    refine ⟨_, rfl, 1, rfl, 10, 19, rfl, rfl, ⟨by decide, by decide, by decide⟩, ?_⟩
    refine ⟨_, rfl, h, l, 20, rfl, HH, by decide, by decide, fun H1 r1 b1 hh1 _ _ => ⟨_, _, rfl, rfl, ?_⟩⟩
    refine ⟨_, rfl, h, l, 20, rfl, hh1, by decide, by decide, fun H2 r2 b2 hh2 _ _ => ⟨_, _, rfl, rfl, ?_⟩⟩
    refine ⟨_, rfl, 10, 6, rfl, rfl, ⟨by decide, by decide, by decide⟩, h, l, _, rfl, hh2, by decide, by decide, fun H3 r3 b3 hh3 _ _ => ?_⟩
    refine ⟨small (by show 9 ≤ 100000; decide), fun t ht => ?_⟩
    obtain ⟨lh, eh⟩ := hh3.lst
    have nth : t ≠ h := (ne_of_none eh ht).symm
    refine ⟨h, l, t, _, rfl, hh3.upd ht, upd_same, nth, by simp, by simp, fun H4 x b4 hh4 hx => ?_⟩
    have b : Bt h H H4 := ((b1.trans b2).trans b3).trans ((Bt.of (same_upd ht)).trans b4)
    simp only [List.mem_cons, List.not_mem_nil, or_false] at hx
    rcases hx with rfl | rfl | rfl | rfl | rfl | rfl | rfl | rfl | rfl
    all_goals exact k _ _ b hh4

end
end W2
namespace W2
open PySem PySem.Spec PyProof.Rows L2
section
variable {P : Program} {w : World} {K : PySem.W.Frag} {mg : Str → Option Value} {base : Heap} {C fI : Addr}
theorem ok_parents (D : Def K mg "_law_parents" s_parents ["_law_hand_here", "_law_size"]) (T : Txt K mg) (C_take : Cal P w K mg base 1 "_law_take" ["_law_hand_here", "_law_size"] spTake) : Cal P w K mg base 2 "_law_parents" ["_law_hand_here", "_law_size"] spParents := by
  refine D.cal sc_parents (fun vs H Q E h => ?_) (fun f cdv A outer s H vs Q E hr h => ?_)
  · obtain ⟨h, l, n, rfl, _⟩ := h
    rfl
  · obtain ⟨h, l, n, rfl, HH, n1, n64, k⟩ := h
    refine ⟨_, (pss_cons (ps_set (i := 2) sc_parents.nd rfl (Or.inl rfl) (pe_listRg rfl (by rfl) T.n_list (prg_1 (by rfl) T.n_range (pv 1))))
      (pss_cons (ps_for PassesOwn.never rfl (pi_range1 rfl T.n_range (pa_cons (pv 1) pa_nil)) (pg_name (i := 3) sc_parents.nd rfl (Or.inl rfl)) (pss_cons (ps_set (i := 4) sc_parents.nd rfl (Or.inl rfl) (pe_op op_add (pv 3) (pcal C_take hr (by decide) rfl (pa_cons (pv 0) (pa_cons (pe_op op_sub (pv 1) (pv 3)) pa_nil)))))
      (pss_one (ps_asg (pe_tup (pa_cons (pe_ix (ix_listK (K := K) rfl) (pv 2) (pv 4) (fun _ _ => rfl)) (pa_cons (pe_ix (ix_listK (K := K) rfl) (pv 2) (pv 3) (fun _ _ => rfl)) pa_nil))) (pg_tup rfl (pgs_cons (pg_sub (pv 2) (pv 3) set_list) (pgs_cons (pg_sub (pv 2) (pv 4) set_list) pgs_nil)))))))
      (pss_cons (ps_set (i := 5) sc_parents.nd rfl (Or.inl rfl) (pe_op op_rep (pe_lst (pa_cons pe_non pa_nil)) (pv 1)))
      (pss_cons (ps_set (i := 6) sc_parents.nd rfl (Or.inl rfl) (pcal C_take hr (by decide) rfl (pa_cons (pv 0) (pa_cons pe_int pa_nil))))
      (pss_cons (ps_for PassesOwn.never rfl (pi_range2 rfl T.n_range (pa_cons pe_int (pa_cons (pv 1) pa_nil))) (pg_name (i := 3) sc_parents.nd rfl (Or.inl rfl)) (C8.pss_cut (ps_if (pt_cmpR op_eq (pv 6) pe_int (nomark _)) (pss_one (ps_asg (pe_ix (ix_listK (K := K) rfl) (pv 2) (pe_op op_sub (pv 3) pe_int) (fun _ _ => rfl)) (pg_sub (pv 5) (pe_ix (ix_listK (K := K) rfl) (pv 2) (pv 3) (fun _ _ => rfl)) set_list))) (pss_one (ps_if (pt_cmpR op_eq (pv 6) pe_int (nomark _)) (pss_one (ps_asg (pe_ix (ix_listK (K := K) rfl) (pv 2) (pe_callB (call_max2 rfl) (by rfl) T.n_max (by decide +kernel) (pa_cons pe_int (pa_cons (pe_op op_sub (pe_op op_sub (pv 3) pe_int) (pcal C_take hr (by decide) rfl (pa_cons (pv 0) (pa_cons pe_int pa_nil)))) pa_nil))) (fun _ _ => rfl)) (pg_sub (pv 5) (pe_ix (ix_listK (K := K) rfl) (pv 2) (pv 3) (fun _ _ => rfl)) set_list))) (pss_one (ps_if (PW.pt (pw_or (pt_cmpR op_gt (pv 6) pe_int (nomark _)) (pw_or1 (pt_cmpR op_gt (pcal C_take hr (by decide) rfl (pa_cons (pv 0) (pa_cons pe_int pa_nil))) pe_int (nomark _))))) (pss_one (ps_asg (pe_ix (ix_listK (K := K) rfl) (pv 2) (pcal C_take hr (by decide) rfl (pa_cons (pv 0) (pa_cons (pv 3) pa_nil))) (fun _ _ => rfl)) (pg_sub (pv 5) (pe_ix (ix_listK (K := K) rfl) (pv 2) (pv 3) (fun _ _ => rfl)) set_list))) pss_nil)))))
      (pss_one (ps_if (PW.pt (pw_and (pt_cmpR op_eq (pv 6) pe_int (nomark _)) (pw_and1 (pt_cmpR op_eq (pcal C_take hr (by decide) rfl (pa_cons (pv 0) (pa_cons pe_int pa_nil))) pe_int (nomark _))))) (pss_one (ps_asg pe_non (pg_sub (pv 5) (pe_ix (ix_listK (K := K) rfl) (pv 2) (pv 3) (fun _ _ => rfl)) set_list))) pss_nil))))
      (pss_one (ps_ret (pv 5)))))))), ?_⟩
    obtain ⟨lh, eh⟩ := HH.lst
    -- order = list(range(size))
    refine ⟨_, rfl, _, rfl, RgOk.of_le (by decide) (by omega) (by decide) (by omega), fun o ho => ?_⟩
    rw [rgV_nv]
    have noh : o ≠ h := (ne_of_none eh ho).symm
    obtain ⟨lr, er⟩ := HH.row
    have nol : o ≠ l := (ne_of_none er ho).symm
    -- the shuffle
    refine ⟨_, rfl, _, rfl, by omega, by omega, ?_⟩
    rw [Int.toNat_natCast]
    refine for_range (lo := 0) (n := n) (fun i σ H' => ∃ (v3 v4 : Option V) (od : List Nat), σ = [some (.ref h), some (nv n), some (.ref o), v3, v4, none, none] ∧ Bt h H H' ∧ Hand H' h l ∧ H' o = some (.lst (od.map nv)) ∧ od.Perm (List.range n))
      ⟨none, none, List.range n, rfl, (Bt.refl h H).new ho, HH.upd ho, upd_same, .refl _⟩ ?_ ?_
    · rintro i σ H2 hi ⟨v3, v4, od, rfl, b2, hh2, ho2, pm⟩
      rw [Int.zero_add]
      have lod : od.length = n := by rw [pm.length_eq, List.length_range]
      refine ⟨_, rfl, _, rfl, _, rfl, _, rfl, _, _, rfl, rfl, h, l, _, rfl, hh2, by omega, by omega, fun H3 r b3 hh3 r0 r1 => ⟨_, _, rfl, rfl, ?_⟩⟩
      have ho3 := b3 _ _ noh ho2
      obtain ⟨j, ej, hj⟩ : ∃ j : Nat, (i : Int) + r = (j : Int) ∧ j < n := ⟨((i : Int) + r).toNat, by omega, by omega⟩
      have hi2 : i < od.length := by omega
      have hj2 : j < od.length := by omega
      have gi : (od.map nv)[i]? = some (nv od[i]) := by rw [List.getElem?_map, List.getElem?_eq_getElem hi2]; rfl
      have gj : (od.map nv)[j]? = some (nv od[j]) := by rw [List.getElem?_map, List.getElem?_eq_getElem hj2]; rfl
      refine ⟨_, rfl, _, rfl, o, _, _, _, rfl, rfl, SqL.of ho3, at_of ej gj, _, rfl, _, rfl, o, _, _, _, rfl, rfl, SqL.of ho3, atI_nat gi, small (by show 2 ≤ 100000; decide), fun t ht => ?_⟩
      have not : o ≠ t := ne_of_none ho3 ht
      obtain ⟨lh3, eh3⟩ := hh3.lst
      have nht : h ≠ t := ne_of_none eh3 ht
      have ho4 : (L2.upd H3 t (.tup [nv od[j], nv od[i]])) o = some (.lst (od.map nv)) := by rw [upd_ne not]; exact ho3
      have hij : ixN ((od.map nv).set i (nv od[j])).length ((i : Int) + r) = some j := by
        rw [ej, List.length_set, List.length_map]
        exact ixN_nat hj2
      refine ⟨t, _, rfl, SqT.of upd_same, rfl, _, _, rfl, _, rfl, _, rfl, o, _, _, i, rfl, rfl, ho4, ixN_nat (by rw [List.length_map]; exact hi2), _, _, rfl, _, rfl, _, rfl, o, _, _, j, rfl, rfl, upd_same, hij, rfl, ?_⟩
      refine ⟨_, _, (od.set i od[j]).set j od[i], rfl, fun c u nc e => ?_, ?_, ?_, ?_⟩
      · have e3 := b3 _ _ nc (b2 _ _ nc e)
        have nco : c ≠ o := ne_of_none e ho
        rw [upd_ne nco, upd_ne nco, upd_ne (ne_of_none e3 ht)]
        exact e3
      · exact ((hh3.upd ht).set noh nol).set noh nol
      · rw [upd_same, List.map_set, List.map_set]
      · exact (List.set_set_perm hi2 hj2).trans pm
    rintro σ H2 ⟨v3, v4, od, rfl, b2, hh2, ho2, pm⟩
    have lod : od.length = n := by rw [pm.length_eq, List.length_range]
    have ndo : od.Nodup := pm.nodup_iff.mpr List.nodup_range
    -- found = [None] * size
    refine ⟨small (by show 1 ≤ 100000; decide), fun z hz => ⟨_, rfl, z, _, _, rfl, rfl, upd_same, by omega, by omega, ?_, fun fd hfd => ?_⟩⟩
    · show 1 * (n : Int).toNat ≤ sizeLine
      rw [Int.toNat_natCast, Nat.one_mul]
      exact small (by omega)
    rw [Int.toNat_natCast, flat_rep]
    have b3 : Bt h H (L2.upd (L2.upd H2 z (.lst [V.non])) fd (.lst ((List.replicate n (none : Option Nat)).map ov))) := (b2.new hz).new hfd
    have hh3 : Hand (L2.upd (L2.upd H2 z (.lst [V.non])) fd (.lst ((List.replicate n (none : Option Nat)).map ov))) h l := (hh2.upd hz).upd hfd
    have noz : o ≠ z := ne_of_none ho2 hz
    have ho3a : (L2.upd H2 z (.lst [V.non])) o = some (.lst (od.map nv)) := by rw [upd_ne noz]; exact ho2
    have nof : o ≠ fd := ne_of_none ho3a hfd
    have ho3 : (L2.upd (L2.upd H2 z (.lst [V.non])) fd (.lst ((List.replicate n (none : Option Nat)).map ov))) o = some (.lst (od.map nv)) := by rw [upd_ne nof]; exact ho3a
    have hf3 : (L2.upd (L2.upd H2 z (.lst [V.non])) fd (.lst ((List.replicate n (none : Option Nat)).map ov))) fd = some (.lst ((List.replicate n (none : Option Nat)).map ov)) := upd_same
    have nfh : fd ≠ h := by
      obtain ⟨l2, e2⟩ := (hh2.upd (o := .lst [V.non]) hz).lst
      exact (ne_of_none e2 hfd).symm
    have nfl : fd ≠ l := by
      obtain ⟨l2, e2⟩ := (hh2.upd (o := .lst [V.non]) hz).row
      exact (ne_of_none e2 hfd).symm
    have hfn : H fd = none := (b2.new (o := .lst [V.non]) hz).free nfh hfd
    generalize L2.upd (L2.upd H2 z (.lst [V.non])) fd (.lst ((List.replicate n (none : Option Nat)).map ov)) = H3 at b3 hh3 ho3 hf3
    -- shape = take(hand, 5)
    refine ⟨_, rfl, h, l, _, rfl, hh3, by decide, by decide, fun H4 shape b4 hh4 sh0 sh1 => ?_⟩
    have ho4 := b4 _ _ noh ho3
    have hf4 := b4 _ _ nfh hf3
    refine ⟨_, rfl, 1, _, rfl, ⟨by omega, by omega, by omega, by omega⟩, ?_⟩
    rw [show ((n : Int) - 1).toNat = n - 1 by omega]
    refine for_range (lo := 1) (n := n - 1) (fun i σ H' => ∃ (v3 : Option V) (ps : List (Option Nat)), σ = [some (.ref h), some (nv n), some (.ref o), v3, v4, some (.ref fd), some (.int shape)] ∧ Bt h H H' ∧ Hand H' h l ∧ H' o = some (.lst (od.map nv)) ∧ H' fd = some (.lst (ps.map ov)) ∧ ps.length = n ∧ Par od ps)
      ⟨v3, List.replicate n none, rfl, b3.trans b4, hh4, ho4, hf4, List.length_replicate, fun k g hg => .inl ?_⟩ ?_ ?_
    · have : g < n := List.mem_range.mp (pm.mem_iff.mp (List.mem_of_getElem? hg))
      rw [List.getElem?_replicate, if_pos this]
    · rintro i σ H5 hi ⟨v3, ps, rfl, b5, hh5, ho5, hf5, lps, par⟩
      have ek : ((1 : Int) + (i : Int)) = ((i + 1 : Nat) : Int) := by omega
      rw [ek]
      have hk : i + 1 < od.length := by omega
      have gk : od[i + 1]? = some od[i + 1] := List.getElem?_eq_getElem hk
      generalize od[i + 1] = g at gk
      have gl : g < ps.length := by
        rw [lps]
        exact List.mem_range.mp (pm.mem_iff.mp (List.mem_of_getElem? gk))
      have gkm : (od.map nv)[i + 1]? = some (nv g) := by rw [List.getElem?_map, gk]; rfl
      -- what a store at found[order[k]] leaves
      have put : ∀ (H6 : Hp) (ps : List (Option Nat)) (v : Option Nat) (Q6 : L2.St → Hp → Prop), ps.length = n → Par od ps → (v = none ∨ ∃ (j p : Nat), j < i + 1 ∧ od[j]? = some p ∧ v = some p) → Bt h H H6 → Hand H6 h l → H6 o = some (.lst (od.map nv)) → H6 fd = some (.lst (ps.map ov)) →
          (∀ H7 ps', Bt h H H7 → Hand H7 h l → H7 o = some (.lst (od.map nv)) → H7 fd = some (.lst (List.map ov ps')) → ps'.length = n → Par od ps' → Q6 [some (.ref h), some (nv n), some (.ref o), some (nv (i + 1)), v4, some (.ref fd), some (.int shape)] H7) →
          gSub (tVar 5) (tOp (rIxL K) (tVar 2) (tVar 3)) rSetL (ov v) [some (.ref h), some (nv n), some (.ref o), some (nv (i + 1)), v4, some (.ref fd), some (.int shape)] H6 Q6 := by
        intro H6 ps v Q6 lps par hv b6 hh6 ho6 hf6 kk
        refine ⟨_, rfl, _, rfl, _, rfl, o, _, _, _, rfl, rfl, SqL.of ho6, atI_nat gkm, fd, _, _, g, rfl, rfl, hf6, ixN_nat (by rw [List.length_map, lps, ← lod]; rw [lod]; have : g < n := List.mem_range.mp (pm.mem_iff.mp (List.mem_of_getElem? gk)); exact this), ?_⟩
        have glt : g < ps.length := by rw [lps]; exact List.mem_range.mp (pm.mem_iff.mp (List.mem_of_getElem? gk))
        refine kk _ (ps.set g v) (fun c u nc e => ?_) (hh6.set nfh nfl) (by rw [upd_ne nof]; exact ho6) (by rw [upd_same, List.map_set]) (by rw [List.length_set]; exact lps) (par_set par ndo gk glt hv)
        rw [upd_ne (ne_of_none e hfn)]
        exact b6 _ _ nc e
      -- the item of the order at a place ahead
      have itm : ∀ (j : Nat), j < i + 1 → ∃ p, od[j]? = some p ∧ (od.map nv)[j]? = some (ov (some p)) := fun j hj => by
        have hj2 : j < od.length := by omega
        exact ⟨od[j], List.getElem?_eq_getElem hj2, by rw [List.getElem?_map, List.getElem?_eq_getElem hj2]; rfl⟩
      refine ⟨fun σ H' => ∃ (ps : List (Option Nat)), σ = [some (.ref h), some (nv n), some (.ref o), some (nv (i + 1)), v4, some (.ref fd), some (.int shape)] ∧ Bt h H H' ∧ Hand H' h l ∧ H' o = some (.lst (od.map nv)) ∧ H' fd = some (.lst (ps.map ov)) ∧ ps.length = n ∧ Par od ps, ?_, ?_⟩
      · refine ⟨_, rfl, rfl, _, rfl, iteB (fun _ => ?_) (fun _ => ?_)⟩
        · obtain ⟨p, ep, hp⟩ := itm i (by omega)
          exact ⟨_, rfl, _, rfl, _, _, rfl, rfl, o, _, _, _, rfl, rfl, SqL.of ho5, at_of (j := i) (by omega) hp, put H5 ps (some p) _ lps par (.inr ⟨i, p, by omega, ep, rfl⟩) b5 hh5 ho5 hf5 fun H7 ps' a1 a2 a3 a4 a5 a6 => ⟨ps', rfl, a1, a2, a3, a4, a5, a6⟩⟩
        · refine ⟨_, rfl, rfl, _, rfl, iteB (fun _ => ?_) (fun _ => ?_)⟩
          · refine ⟨_, rfl, _, rfl, _, _, rfl, rfl, _, rfl, h, l, _, rfl, hh5, by decide, by decide, fun H6 r b6 hh6 r0 r1 => ⟨_, _, rfl, rfl, _, _, rfl, ?_⟩⟩
            have ho6 := b6 _ _ noh ho5
            have hf6 := b6 _ _ nfh hf5
            obtain ⟨j, ej, hj⟩ : ∃ j : Nat, (if ((i + 1 : Nat) : Int) - 1 - r > 0 then ((i + 1 : Nat) : Int) - 1 - r else 0) = (j : Int) ∧ j < i + 1 := by
              by_cases c : ((i + 1 : Nat) : Int) - 1 - r > 0
              · rw [if_pos c]
                exact ⟨(((i + 1 : Nat) : Int) - 1 - r).toNat, by omega, by omega⟩
              · rw [if_neg c]
                exact ⟨0, rfl, by omega⟩
            obtain ⟨p, ep, hp⟩ := itm j hj
            exact ⟨o, _, _, _, rfl, rfl, SqL.of ho6, at_of ej hp, put H6 ps (some p) _ lps par (.inr ⟨j, p, hj, ep, rfl⟩) (b5.trans b6) hh6 ho6 hf6 fun H7 ps' a1 a2 a3 a4 a5 a6 => ⟨ps', rfl, a1, a2, a3, a4, a5, a6⟩⟩
          · have last : ∀ H6, Bt h H H6 → Hand H6 h l → H6 o = some (.lst (od.map nv)) → H6 fd = some (.lst (ps.map ov)) → tAsg (tOp (rIxL K) (tVar 2) (tCall spTake [] E0 (tCons (tVar 0) (tCons (tVar 3) tNil)))) (gSub (tVar 5) (tOp (rIxL K) (tVar 2) (tVar 3)) rSetL)
                { nx := fun σ H' => ∃ (ps : List (Option Nat)), σ = [some (.ref h), some (nv n), some (.ref o), some (nv (i + 1)), v4, some (.ref fd), some (.int shape)] ∧ Bt h H H' ∧ Hand H' h l ∧ H' o = some (.lst (od.map nv)) ∧ H' fd = some (.lst (ps.map ov)) ∧ ps.length = n ∧ Par od ps, rt := fun _ _ => False } [some (.ref h), some (nv n), some (.ref o), some (nv (i + 1)), v4, some (.ref fd), some (.int shape)] H6 := by
              intro H6 b6 hh6 ho6 hf6
              refine ⟨_, rfl, _, rfl, _, rfl, h, l, _, rfl, hh6, by omega, by omega, fun H7 r b7 hh7 r0 r1 => ?_⟩
              have ho7 := b7 _ _ noh ho6
              have hf7 := b7 _ _ nfh hf6
              obtain ⟨p, ep, hp⟩ := itm r.toNat (by omega)
              exact ⟨o, _, _, _, rfl, rfl, SqL.of ho7, at_of (j := r.toNat) (by omega) hp, put H7 ps (some p) _ lps par (.inr ⟨r.toNat, p, by omega, ep, rfl⟩) (b6.trans b7) hh7 ho7 hf7 fun H7 ps' a1 a2 a3 a4 a5 a6 => ⟨ps', rfl, a1, a2, a3, a4, a5, a6⟩⟩
            refine ⟨_, rfl, _, _, rfl, rfl, _, rfl, iteB (fun _ => ?_) (fun _ => ?_)⟩
            · exact iteT (last H5 b5 hh5 ho5 hf5)
            · refine ⟨_, rfl, h, l, _, rfl, hh5, by decide, by decide, fun H6 r b6 hh6 r0 r1 => ⟨_, _, rfl, rfl, _, rfl, iteB (fun _ => ?_) (fun _ => ?_)⟩⟩
              · exact last H6 (b5.trans b6) hh6 (b6 _ _ noh ho5) (b6 _ _ nfh hf5)
              · exact ⟨ps, rfl, b5.trans b6, hh6, b6 _ _ noh ho5, b6 _ _ nfh hf5, lps, par⟩
      · rintro σ H6 ⟨ps, rfl, b6, hh6, ho6, hf6, lps, par⟩
        refine ⟨_, rfl, rfl, _, rfl, iteB (fun _ => ?_) (fun _ => ?_)⟩
        · refine ⟨_, rfl, h, l, _, rfl, hh6, by decide, by decide, fun H7 r b7 hh7 r0 r1 => ⟨rfl, _, rfl, iteB (fun _ => ?_) (fun _ => ?_)⟩⟩
          · exact put H7 ps none _ lps par (.inl rfl) (b6.trans b7) hh7 (b7 _ _ noh ho6) (b7 _ _ nfh hf6) fun H7 ps' a1 a2 a3 a4 a5 a6 => ⟨_, ps', rfl, a1, a2, a3, a4, a5, a6⟩
          · exact ⟨_, ps, rfl, b6.trans b7, hh7, b7 _ _ noh ho6, b7 _ _ nfh hf6, lps, par⟩
        · exact ⟨_, ps, rfl, b6, hh6, ho6, hf6, lps, par⟩
    · rintro σ H5 ⟨v3, ps, rfl, b5, hh5, ho5, hf5, lps, par⟩
      exact ⟨_, rfl, k H5 fd ps b5 hh5 hfn hf5 lps (par_tree par pm lps)⟩

end
end W2
namespace W2
open PySem PySem.Spec PyProof.Rows L2
section
variable {P : Program} {w : World} {K : PySem.W.Frag} {mg : Str → Option Value} {base : Heap} {C fI : Addr}
theorem ok_plain (D : Def K mg "_law_plain" s_plain ["_law_hand_here", "_law_sizes"]) (T : Txt K mg) (C_pick : Cal P w K mg base 2 "_law_pick" ["_law_hand_here", "_law_things"] spPick) (C_parents : Cal P w K mg base 2 "_law_parents" ["_law_hand_here", "_law_size"] spParents) (C_value : Cal P w K mg base 3 "_law_value" ["_law_hand_here"] spValue) : Cal P w K mg base 4 "_law_plain" ["_law_hand_here", "_law_sizes"] spPlain := by
  refine D.cal sc_plain (fun vs H Q E h => ?_) (fun f cdv A outer s H vs Q E hr h => ?_)
  · obtain ⟨h, l, t, ss, rfl, _⟩ := h
    rfl
  · obtain ⟨h, l, t, ss, rfl, HH, ht, nth, s0, sz, sr, k⟩ := h
    refine ⟨_, (pss_cons (ps_set (i := 2) sc_plain.nd rfl (Or.inl rfl) (pcal C_pick hr (by decide) rfl (pa_cons (pv 0) (pa_cons (pv 1) pa_nil))))
      (pss_one (ps_ret (pe_lst (pa_cons (pcal C_parents hr (by decide) rfl (pa_cons (pv 0) (pa_cons (pv 2) pa_nil))) (pa_cons (pe_lc (own := [("_law_k", 3)]) (g := gName 3) (tt := tYes) (by rfl) sc_plain.nd (pi_range1 rfl T.n_range (pa_cons (pv 2) pa_nil)) (blkOk_by (own := [("_law_k", 3)]) (N := ["_law_hand_here", "_law_sizes", "_law_size", "_law_k"]) (sc := defScope s_plain) (by decide +kernel)) (fun _ _ _ _ _ => pg_name (i := 3) sc_plain.nd rfl (Or.inl rfl)) (fun _ _ _ _ _ => pts_nil) (fun _ _ _ _ _ => (pcal C_value hr (by decide) rfl (pa_cons (pv 0) pa_nil)))) pa_nil)))))), ?_⟩
    refine ⟨_, rfl, _, rfl, h, l, t, _, rfl, HH, ht, nth, by rw [List.length_map]; exact s0, by rw [List.length_map]; omega, fun H1 x b1 hh1 hx => ?_⟩
    obtain ⟨s, hs, rfl⟩ := List.mem_map.mp hx
    obtain ⟨n1, n64⟩ := sr s hs
    refine ⟨_, rfl, _, rfl, h, l, s, rfl, hh1, n1, n64, fun H2 p ps b2 hh2 hp hP lps TR => ?_⟩
    obtain ⟨lh1, eh1⟩ := hh1.lst
    have nph : p ≠ h := (ne_of_none eh1 hp).symm
    refine ⟨_, rfl, _, rfl, by omega, by omega, fun D hD => ?_⟩
    rw [Int.toNat_natCast]
    obtain ⟨lh2, eh2⟩ := hh2.lst
    have nDh : D ≠ h := (ne_of_none eh2 hD).symm
    obtain ⟨lr2, er2⟩ := hh2.row
    have nDl : D ≠ l := (ne_of_none er2 hD).symm
    refine lc_range (lo := 0) (n := s) (fun i H' => Bt h H2 H' ∧ Hand H' h l ∧ ∃ ws : List Int, H' D = some (.lst (ws.map V.int)) ∧ ws.length = i) ⟨(Bt.refl h H2).new hD, hh2.upd hD, [], upd_same, rfl⟩ ?_ ?_
    · rintro i H3 hi ⟨b3, hh3, ws, eD, lw⟩
      refine ⟨rfl, _, rfl, h, l, rfl, hh3, fun H4 z b4 hh4 => ⟨_, b4 _ _ nDh eD, ?_, ?_, hh4.set nDh nDl, ws ++ [z], ?_, ?_⟩⟩
      · rw [List.length_map]
        exact smalls (by omega)
      · intro c u nc e
        rw [upd_ne (ne_of_none e hD)]
        exact b4 _ _ nc (b3 _ _ nc e)
      · rw [upd_same, List.map_append]
        rfl
      · rw [List.length_append, lw]
        rfl
    · rintro H3 ⟨b3, hh3, ws, eD, lw⟩
      refine ⟨small (by show 2 ≤ 100000; decide), fun pl hpl => ?_⟩
      have b : Bt h H (L2.upd H3 pl (.lst [.ref p, .ref D])) := ((b1.trans b2).trans b3).new hpl
      obtain ⟨lh3, eh3⟩ := hh3.lst
      have nplh : pl ≠ h := (ne_of_none eh3 hpl).symm
      have eP3 := b3 _ _ nph hP
      refine k _ pl p D ps ws b (hh3.upd hpl) (((b1.trans b2).trans b3).free nplh hpl) (b1.free nph hp) ((b1.trans b2).free nDh hD) upd_same ?_ ?_ TR (by omega) (by omega) (by rw [lw, lps])
      · rw [upd_ne (ne_of_none eP3 hpl)]
        exact eP3
      · rw [upd_ne (ne_of_none eD hpl)]
        exact eD

end
end W2
namespace W2
open PySem PySem.Spec PyProof.Rows L2
section
variable {P : Program} {w : World} {K : PySem.W.Frag} {mg : Str → Option Value} {base : Heap} {C fI : Addr}
theorem ok_fof (D : Def K mg "_law_forest_of" s_fof ["_law_plain_here"]) (T : Txt K mg)  (FC : ForC K mg C fI) {fdI : FuncData} (FI : FnOk P w K mg base CX0 4 fI fdI ["self", "parents", "worths"] (spInit C)) (bI : Binds K fdI ["self", "parents", "worths"] []) : Cal P w K mg base 6 "_law_forest_of" ["_law_plain_here"] (spFof C) := by
  refine D.cal sc_fof (fun vs H Q E h => ?_) (fun f cdv A outer s H vs Q E hr h => ?_)
  · obtain ⟨pl, p, q, ps, ws, rfl, _⟩ := h
    rfl
  · obtain ⟨pl, p, q, ps, ws, rfl, hPl, hp, hq, TR, h1, hz, hw, k⟩ := h
    refine ⟨_, (pss_one (ps_ret (pe_make FC.M FI (hr.mono (by decide)) rfl FC.mgC bI .nil pass0 (pa_cons (pe_callTy call_tuple_of (by rfl) T.n_tuple (by decide +kernel) (pa_cons (pe_ix (ix_listK (K := K) rfl) (pv 0) pe_int (fun _ _ => rfl)) pa_nil)) (pa_cons (pe_callTy call_tuple_of (by rfl) T.n_tuple (by decide +kernel) (pa_cons (pe_ix (ix_listK (K := K) rfl) (pv 0) pe_int (fun _ _ => rfl)) pa_nil)) pa_nil))))), ?_⟩
    refine ⟨_, rfl, pl, _, _, _, rfl, rfl, SqL.of hPl, rfl, p, _, rfl, .inl ⟨SqL.of hp, fun a ha => ?_⟩⟩
    have s1 : L2.Same H (L2.upd H a (.tup (ps.map ov))) := same_upd ha
    refine ⟨_, rfl, pl, _, _, _, rfl, rfl, SqL.of (s1 _ _ hPl), rfl, q, _, rfl, .inl ⟨SqL.of (s1 _ _ hq), fun b hb => ?_⟩⟩
    have s2 := s1.trans (same_upd (o := .tup (ws.map V.int)) hb)
    intro x dx hx hdx ne
    have nxa : a ≠ x := fun z => by subst z; rw [(same_upd (o := .tup (ws.map V.int)) hb) _ _ upd_same] at hx; cases hx
    have nda : a ≠ dx := fun z => by subst z; rw [(same_upd (o := .tup (ws.map V.int)) hb) _ _ upd_same] at hdx; cases hdx
    have nxb : b ≠ x := fun z => by subst z; rw [upd_same] at hx; cases hx
    have ndb : b ≠ dx := fun z => by subst z; rw [upd_same] at hdx; cases hdx
    have nab : a ≠ b := fun z => by subst z; rw [upd_same] at hb; cases hb
    refine ⟨x, dx, a, b, ps, ws, rfl, upd_same, by rw [upd_ne nxa, upd_ne nda, upd_ne nab, upd_same], by rw [upd_ne nxb, upd_ne ndb, upd_same], TR, h1, hz, hw, fun H' bt hx' => ⟨rfl, ?_⟩⟩
    refine k H' x dx a b (fun c o e => ?_) (s2.free hx) ⟨hx', bt _ _ nxa (by rw [upd_ne nxa, upd_ne nda, upd_ne nab, upd_same]), bt _ _ nxb (by rw [upd_ne nxb, upd_ne ndb, upd_same])⟩
    have e2 := s2 _ _ e
    exact bt _ _ (ne_of_none e2 hx) (by rw [upd_ne (ne_of_none e2 hx), upd_ne (ne_of_none e2 hdx)]; exact e2)

end
end W2
namespace W2
open PySem PySem.Spec PyProof.Rows L2
section
variable {P : Program} {w : World} {K : PySem.W.Frag} {mg : Str → Option Value} {base : Heap} {C fI : Addr}
theorem ok_lup (D : Def K mg "_law_up" s_lup ["_law_parents_here", "_law_house"]) (T : Txt K mg)  : Cal P w K mg base 1 "_law_up" ["_law_parents_here", "_law_house"] spLUp := by
  refine D.cal sc_lup (fun vs H Q E h => ?_) (fun f cdv A outer s H vs Q E hr h => ?_)
  · obtain ⟨p0, ps, h, rfl, _⟩ := h
    rfl
  · obtain ⟨p0, ps, h, rfl, ⟨hP, TR, hz⟩, hl, k⟩ := h
    obtain ⟨ch, cz⟩ := TR h hl
    obtain ⟨rest, eh⟩ := ch.head
    refine ⟨_, (pss_cons (ps_set (i := 2) sc_lup.nd rfl (Or.inl rfl) (pe_lst (pa_cons (pv 1) pa_nil)))
      (pss_cons (ps_for PassesOwn.never rfl (pi_range1 rfl T.n_range (pa_cons (pe_callB (call_lenK (K := K) rfl) (by rfl) T.n_len PySem.boot_len (pa_cons (pv 0) pa_nil)) pa_nil)) (pg_name (i := 3) sc_lup.nd rfl (Or.inl rfl)) (pss_cons (ps_if (pt_cmpR op_isN (pe_ix (ix_listK (K := K) rfl) (pv 0) (pe_ix (ix_listK (K := K) rfl) (pv 2) (pe_un un_neg pe_int) (fun _ _ => rfl)) (fun _ _ => rfl)) pe_non (nomark _)) (pss_one (ps_break)) pss_nil)
      (pss_one (ps_expr (pe_bm PySem.F.plainAttrs_list PySem.F.slot_list_append PySem.F.type_list_append mt_append (pv 2) (pa_cons (pe_ix (ix_listK (K := K) rfl) (pv 0) (pe_ix (ix_listK (K := K) rfl) (pv 2) (pe_un un_neg pe_int) (fun _ _ => rfl)) (fun _ _ => rfl)) pa_nil))))))
      (pss_one (ps_ret (pv 2))))), ?_⟩
    refine ⟨_, rfl, small (by show 1 ≤ 100000; decide), fun p hp => ?_⟩
    have s1 : L2.Same H (L2.upd H p (.lst [nv h])) := same_upd hp
    refine ⟨_, rfl, p0, _, rfl, .inl (SqL.of (s1 _ _ hP)), _, rfl, by omega, by rw [List.length_map]; omega, ?_⟩
    rw [List.length_map, Int.toNat_natCast]
    refine for_range (lo := 0) (n := ps.length) (fun i σ H' => i < (up ps h).length ∧ ∃ v3 : Option V, σ = [some (.ref p0), some (nv h), some (.ref p), v3] ∧ L2.Same H H' ∧ H' p = some (.lst (((up ps h).take (i + 1)).map nv)))
      ⟨by rw [eh]; simp, none, rfl, s1, by rw [upd_same, eh]; rfl⟩ ?_ ?_
    · rintro i σ H2 hi ⟨hi2, v3, rfl, s2, hL⟩
      have hP2 := s2 _ _ hP
      have hx : (up ps h)[i]? = some (up ps h)[i] := List.getElem?_eq_getElem hi2
      generalize (up ps h)[i] = x at hx
      have hlast : (((up ps h).take (i + 1)).map nv).getLast? = some (nv x) := by
        rw [List.getLast?_eq_getElem?, List.length_map, List.length_take, Nat.min_eq_left (by omega), List.getElem?_map, List.getElem?_take, if_pos (by omega), Nat.add_sub_cancel, hx]
        rfl
      rcases ch.next hx with ⟨e0, e1⟩ | ⟨y, e0, e1⟩
      · have hv : (ps.map ov)[x]? = some V.non := by rw [List.getElem?_map, e0]; rfl
        refine ⟨_, rfl, _, rfl, 1, rfl, p, _, _, _, rfl, rfl, SqL.of hL, atI_last hlast, p0, _, _, _, rfl, rfl, SqL.of hP2, atI_nat hv, rfl, _, rfl, iteT ?_⟩
        refine ⟨_, rfl, k _ p s2 hp ?_⟩
        rw [hL, e1, List.take_length]
      · have hv : (ps.map ov)[x]? = some (nv y) := by rw [List.getElem?_map, e0]; rfl
        refine ⟨_, rfl, _, rfl, 1, rfl, p, _, _, _, rfl, rfl, SqL.of hL, atI_last hlast, p0, _, _, _, rfl, rfl, SqL.of hP2, atI_nat hv, rfl, _, rfl, iteF ?_⟩
        refine ⟨_, rfl, .inl ⟨rfl, _, SqL.of hL⟩, _, rfl, _, rfl, 1, rfl, p, _, _, _, rfl, rfl, SqL.of hL, atI_last hlast, p0, _, _, _, rfl, rfl, SqL.of hP2, atI_nat hv, p, _, _, rfl, rfl, hL, ?_, ?_⟩
        · rw [List.length_map, List.length_take]
          exact smalls (by omega)
        · refine ⟨(List.getElem?_eq_some_iff.mp e1).1, _, rfl, Same.upd s2 hp, ?_⟩
          rw [upd_same, List.take_add_one (i := i + 1), e1, List.map_append]
          rfl
    · rintro σ H2 ⟨hi, _⟩
      omega

end
end W2
namespace W2
open PySem PySem.Spec PyProof.Rows L2
section
variable {P : Program} {w : World} {K : PySem.W.Frag} {mg : Str → Option Value} {base : Heap} {C fI : Addr}
theorem ok_lroot (D : Def K mg "_law_root" s_lroot ["_law_parents_here", "_law_house"]) (T : Txt K mg) (C_lup : Cal P w K mg base 1 "_law_up" ["_law_parents_here", "_law_house"] spLUp) : Cal P w K mg base 2 "_law_root" ["_law_parents_here", "_law_house"] spLRoot := by
  refine D.cal sc_lroot (fun vs H Q E h => ?_) (fun f cdv A outer s H vs Q E hr h => ?_)
  · obtain ⟨p0, ps, h, rfl, _⟩ := h
    rfl
  · obtain ⟨p0, ps, h, rfl, HS, hl, k⟩ := h
    refine ⟨_, (pss_one (ps_ret (pe_ix (ix_listK (K := K) rfl) (pcal C_lup hr (by decide) rfl (pa_cons (pv 0) (pa_cons (pv 1) pa_nil))) (pe_un un_neg pe_int) (fun _ _ => rfl)))), ?_⟩
    refine ⟨_, rfl, _, rfl, p0, ps, h, rfl, HS, hl, fun H1 p s1 hp hL => ⟨1, rfl, p, _, _, _, rfl, rfl, SqL.of hL, atI_last ?_, k _ s1⟩⟩
    obtain ⟨r, e1, _⟩ := (HS.2.1 h hl).1.last
    rw [List.getLast?_map, e1]
    show some (nv r) = some (nv (rt ps h))
    unfold rt
    rw [List.getLastD_eq_getLast?, e1]
    rfl

end
end W2
namespace W2
open PySem PySem.Spec PyProof.Rows L2
section
variable {P : Program} {w : World} {K : PySem.W.Frag} {mg : Str → Option Value} {base : Heap} {C fI : Addr}
theorem ok_lcommon (D : Def K mg "_law_common" s_lcommon ["_law_parents_here", "_law_one", "_law_other"]) (T : Txt K mg) (C_lup : Cal P w K mg base 1 "_law_up" ["_law_parents_here", "_law_house"] spLUp) : Cal P w K mg base 2 "_law_common" ["_law_parents_here", "_law_one", "_law_other"] spLCommon := by
  refine D.cal sc_lcommon (fun vs H Q E h => ?_) (fun f cdv A outer s H vs Q E hr h => ?_)
  · obtain ⟨p0, ps, h, g, rfl, _⟩ := h
    rfl
  · obtain ⟨p0, ps, h, g, rfl, HP, hl, gl, k⟩ := h
    refine ⟨_, (pss_cons (ps_set (i := 3) sc_lcommon.nd rfl (Or.inl rfl) (pcal C_lup hr (by decide) rfl (pa_cons (pv 0) (pa_cons (pv 2) pa_nil))))
      (pss_cons (ps_for PassesOwn.never rfl (pi_list (pcal C_lup hr (by decide) rfl (pa_cons (pv 0) (pa_cons (pv 1) pa_nil)))) (pg_name (i := 4) sc_lcommon.nd rfl (Or.inl rfl)) (pss_one (ps_if (pt_cmpR (op_inK (K := K) rfl) (pv 4) (pv 3) (by rfl)) (pss_one (ps_ret (pv 4))) pss_nil)))
      (pss_one (ps_ret pe_non)))), ?_⟩
    refine ⟨_, rfl, _, rfl, p0, ps, g, rfl, HP, gl, fun H1 p s1 hp hL => ?_⟩
    refine ⟨_, rfl, _, rfl, p0, ps, h, rfl, HP.same s1, hl, fun H2 q s2 hq hL2 => ⟨q, rfl, ⟨_, SqL.of hL2⟩, ?_⟩⟩
    have hL1 := s2 _ _ hL
    refine for_list (K := K) (a := q) (xs := (up ps h).map nv) (fun i σ H' => ∃ v4 : Option V, σ = [some (.ref p0), some (nv h), some (nv g), some (.ref p), v4] ∧ L2.Same H2 H' ∧ ∀ (j y : Nat), j < i → (up ps h)[j]? = some y → y ∉ up ps g)
      ⟨none, rfl, L2.Same.refl _, fun j y hj => by omega⟩ (fun i σ H' _ ⟨_, _, sm, _⟩ => SqL.of (sm _ _ hL2)) ?_ ?_
    · rintro i x σ H3 hx ⟨v4, rfl, s3, hn⟩
      rw [List.getElem?_map] at hx
      cases hy : (up ps h)[i]? with
      | none => rw [hy] at hx; cases hx
      | some y =>
        rw [hy] at hx
        have ez : x = nv y := (Option.some.inj hx).symm
        subst ez
        refine ⟨_, rfl, _, rfl, p, _, rfl, .inl (SqL.of (s3 _ _ hL1)), rfl, flat_nv _, _, rfl, ?_⟩
        show if (inV (nv y) ((up ps g).map nv)) = true then _ else _
        rw [inV_nv]
        refine iteB (fun e => ?_) (fun e => ?_)
        · refine ⟨_, rfl, ?_⟩
          have r := k _ ((s1.trans s2).trans s3)
          rw [fnd_some hy (of_decide_eq_true e) hn] at r
          exact r
        · refine ⟨_, rfl, s3, fun j z hj hz => ?_⟩
          by_cases ej : j = i
          · subst ej
            rw [hy] at hz
            cases hz
            exact of_decide_eq_false e
          · exact hn j z (by omega) hz
    · rintro σ H3 ⟨v4, rfl, s3, hn⟩
      have r := k _ ((s1.trans s2).trans s3)
      rw [fnd_none (fun j y hy => hn j y (by rw [List.length_map]; exact (List.getElem?_eq_some_iff.mp hy).1) hy)] at r
      exact r

end
end W2
namespace W2
open PySem PySem.Spec PyProof.Rows L2
section
variable {P : Program} {w : World} {K : PySem.W.Frag} {mg : Str → Option Value} {base : Heap} {C fI : Addr}
theorem ok_lway (D : Def K mg "_law_way" s_lway ["_law_parents_here", "_law_one", "_law_other"]) (T : Txt K mg) (C_lcommon : Cal P w K mg base 2 "_law_common" ["_law_parents_here", "_law_one", "_law_other"] spLCommon) (C_lup : Cal P w K mg base 1 "_law_up" ["_law_parents_here", "_law_house"] spLUp) : Cal P w K mg base 3 "_law_way" ["_law_parents_here", "_law_one", "_law_other"] spLWay := by
  refine D.cal sc_lway (fun vs H Q E h => ?_) (fun f cdv A outer s H vs Q E hr h => ?_)
  · obtain ⟨p0, ps, h, g, rfl, _⟩ := h
    rfl
  · obtain ⟨p0, ps, h, g, rfl, HP, hl, gl, k0, k1⟩ := h
    refine ⟨_, (pss_cons (ps_set (i := 3) sc_lway.nd rfl (Or.inl rfl) (pcal C_lcommon hr (by decide) rfl (pa_cons (pv 0) (pa_cons (pv 1) (pa_cons (pv 2) pa_nil)))))
      (pss_cons (ps_if (pt_cmpR op_isN (pv 3) pe_non (nomark _)) (pss_one (ps_ret pe_non)) pss_nil)
      (pss_cons (ps_set (i := 4) sc_lway.nd rfl (Or.inl rfl) (pcal C_lup hr (by decide) rfl (pa_cons (pv 0) (pa_cons (pv 1) pa_nil))))
      (pss_cons (ps_set (i := 5) sc_lway.nd rfl (Or.inl rfl) (pcal C_lup hr (by decide) rfl (pa_cons (pv 0) (pa_cons (pv 2) pa_nil))))
      (pss_cons (ps_set (i := 6) sc_lway.nd rfl (Or.inr rfl) (pe_slice sl_list (pv 5) po_none (po_some (pe_bm PySem.F.plainAttrs_list PySem.F.slot_list_index PySem.F.type_list_index mt_index (pv 5) (pa_cons (pv 3) pa_nil)))))
      (pss_one (ps_ret (pe_op op_cat (pe_slice sl_list (pv 4) po_none (po_some (pe_op op_add (pe_bm PySem.F.plainAttrs_list PySem.F.slot_list_index PySem.F.type_list_index mt_index (pv 4) (pa_cons (pv 3) pa_nil)) pe_int))) (pe_lc (own := [("_law_k", 7)]) (g := gName 7) (tt := tYes) (by rfl) sc_lway.nd (pi_range1 rfl T.n_range (pa_cons (pe_callB (call_lenK (K := K) rfl) (by rfl) T.n_len PySem.boot_len (pa_cons (pv 6) pa_nil)) pa_nil)) (blkOk_by (own := [("_law_k", 7)]) (N := ["_law_parents_here", "_law_one", "_law_other", "_law_top", "_law_first", "_law_later", "_law_back", "_law_k"]) (sc := defScope s_lway) (by decide +kernel)) (fun _ _ _ _ _ => pg_name (i := 7) sc_lway.nd rfl (Or.inl rfl)) (fun _ _ _ _ _ => pts_nil) (fun _ _ _ _ _ => (pe_ix (ix_listK (K := K) rfl) (pv 6) (pe_op op_sub (pe_op op_sub (pe_callB (call_lenK (K := K) rfl) (by rfl) T.n_len PySem.boot_len (pa_cons (pv 6) pa_nil)) pe_int) (pv 7)) (fun _ _ => rfl)))))))))))), ?_⟩
    have ch := HP.2.1 h hl
    have cg := HP.2.1 g gl
    have hz := HP.2.2
    refine ⟨_, rfl, _, rfl, _, rfl, p0, ps, h, g, rfl, HP, hl, gl, fun H1 s1 => ?_⟩
    cases e : fnd (up ps h) (up ps g) with
    | none =>
      refine ⟨_, rfl, rfl, _, rfl, iteT ?_⟩
      exact k0 e _ s1
    | some x =>
      obtain ⟨xm, pre, post, e1, _⟩ := fnd_split e
      have xl : x ∈ up ps h := by rw [e1]; simp
      have il : (up ps h).idxOf x < (up ps h).length := List.idxOf_lt_length_of_mem xl
      have im : (up ps g).idxOf x < (up ps g).length := List.idxOf_lt_length_of_mem xm
      refine ⟨_, rfl, rfl, _, rfl, iteF ?_⟩
      have HP1 := HP.same s1
      -- first, later
      refine ⟨_, rfl, _, rfl, p0, ps, h, rfl, HP1, hl, fun H2 r s2 hr hR => ?_⟩
      refine ⟨_, rfl, _, rfl, p0, ps, g, rfl, HP1.same s2, gl, fun H3 q s3 hq hF => ?_⟩
      have hR3 := s3 _ _ hR
      -- back = later[:later.index(top)]
      refine ⟨_, rfl, _, rfl, .inl ⟨rfl, _, SqL.of hF⟩, _, rfl, q, _, _, (up ps g).idxOf x, _, rfl, rfl, SqL.of hF, rfl, flat_nv _, idx_at xm, eqV_self x, idx_no, _, rfl, q, _, rfl, SqL.of hF, fun b hb => ?_⟩
      rw [cut_to _ _ (by rw [List.length_map]; omega)]
      have s4 : L2.Same H3 (L2.upd H3 b (.lst (((up ps g).map nv).take ((up ps g).idxOf x)))) := same_upd hb
      -- first[:first.index(top) + 1]
      refine ⟨_, rfl, _, rfl, .inl ⟨rfl, _, SqL.of (s4 _ _ hR3)⟩, _, rfl, r, _, _, (up ps h).idxOf x, _, rfl, rfl, SqL.of (s4 _ _ hR3), rfl, flat_nv _, idx_at xl, eqV_self x, idx_no, _, _, rfl, rfl, _, rfl, r, _, rfl, SqL.of (s4 _ _ hR3), fun a ha => ?_⟩
      have ec : cutV ((up ps h).map nv) none (some (((up ps h).idxOf x : Nat) + 1 : Int)) = ((up ps h).map nv).take ((up ps h).idxOf x + 1) := cut_to _ ((up ps h).idxOf x + 1) (by rw [List.length_map]; omega)
      rw [ec]
      have s5 := s4.trans (same_upd (o := .lst (((up ps h).map nv).take ((up ps h).idxOf x + 1))) ha)
      have nba : b ≠ a := fun z => by subst z; rw [upd_same] at ha; cases ha
      generalize hH5 : L2.upd (L2.upd H3 b _) a _ = H5 at ha s5
      have hA5 : H5 a = some (.lst (((up ps h).map nv).take ((up ps h).idxOf x + 1))) := by rw [← hH5]; exact upd_same
      have hB5 : H5 b = some (.lst (((up ps g).take ((up ps g).idxOf x)).map nv)) := by rw [← hH5, upd_ne nba, upd_same, List.map_take]
      generalize hbk : (up ps g).take ((up ps g).idxOf x) = bk at hB5
      have bz : bk.length ≤ 64 := by rw [← hbk, List.length_take]; omega
      -- [back[len(back) - 1 - k] for k in range(len(back))]
      refine ⟨_, rfl, b, _, rfl, .inl (SqL.of hB5), _, rfl, by omega, by rw [List.length_map]; omega, fun D hD => ?_⟩
      rw [List.length_map, Int.toNat_natCast]
      refine lc_range (lo := 0) (n := bk.length) (fun i H' => L2.Same H5 H' ∧ H' D = some (.lst (((List.range i).map fun k => bk.getD (bk.length - 1 - k) 0).map nv))) ⟨same_upd hD, by rw [upd_same]; rfl⟩ ?_ ?_
      · rintro i H6 hi ⟨s6, hd⟩
        rw [Int.zero_add]
        have hj : bk.length - 1 - i < bk.length := by omega
        have hat : atI (bk.map nv) (((bk.map nv).length : Int) - 1 - (i : Int)) = some (nv (bk.getD (bk.length - 1 - i) 0)) := by
          rw [List.length_map]
          refine at_of (j := bk.length - 1 - i) (by omega) ?_
          rw [List.getElem?_map, List.getD_eq_getElem?_getD, List.getElem?_eq_getElem hj]
          rfl
        refine ⟨rfl, _, rfl, _, rfl, b, _, rfl, .inl (SqL.of (s6 _ _ hB5)), _, _, rfl, rfl, _, rfl, _, _, rfl, rfl, b, _, _, _, rfl, rfl, SqL.of (s6 _ _ hB5), hat, _, hd, ?_, Same.upd s6 hD, ?_⟩
        · rw [List.length_map, List.length_map, List.length_range]
          exact smalls (by omega)
        · rw [upd_same, List.range_succ, List.map_append, List.map_append]
          rfl
      · rintro H6 ⟨s6, hd⟩
        rw [rev_idx] at hd
        refine ⟨a, D, _, _, rfl, rfl, s6 _ _ hA5, hd, ?_, fun t ht => ?_⟩
        · rw [List.length_map, List.length_reverse, List.length_take, List.length_map]
          exact small (by omega)
        · have sA := (((s1.trans s2).trans s3).trans s5).trans s6
          refine k1 x e _ t (sA.trans (same_upd ht)) (sA.free ht) ?_
          rw [upd_same]
          unfold wayOf
          rw [hbk, ← take_idx xl, List.map_append, List.map_take]

end
end W2
namespace W2
open PySem PySem.Spec PyProof.Rows L2
section
variable {P : Program} {w : World} {K : PySem.W.Frag} {mg : Str → Option Value} {base : Heap} {C fI CN fN CD fD fF t1 t2 t3 t4 t5 : Addr}
theorem ok_arehouses (D : Def K mg "_law_are_houses" s_arehouses ["_law_size", "_law_things"]) (T : Txt K mg) (C_within : Cal P w K mg base 2 "_law_is_within" ["_law_thing", "_law_least", "_law_most"] (spWithin C)) : Cal P w K mg base 3 "_law_are_houses" ["_law_size", "_law_things"] (spAreHouses C) := by
  refine D.cal sc_arehouses (fun vs H Q E h => ?_) (fun f cdv A outer s H vs Q E hr h => ?_)
  · obtain ⟨h, t, n, xs, rfl, _⟩ := h
    rfl
  · obtain ⟨h, t, n, xs, rfl, ht, an, hz, k⟩ := h
    refine ⟨_, (pss_one (ps_ret (pe_cmpR op_eq (pe_callB (call_lenK (K := K) rfl) (by rfl) T.n_len PySem.boot_len (pa_cons (pe_lc (own := [("_law_thing", 2)]) (g := gName 2) (by rfl) sc_arehouses.nd (pi_tup (pv 1)) (blkOk_by (own := [("_law_thing", 2)]) (N := ["_law_size", "_law_things", "_law_thing"]) (sc := defScope s_arehouses) (by decide +kernel)) (fun _ _ _ _ _ => pg_name (i := 2) sc_arehouses.nd rfl (Or.inl rfl)) (fun _ _ _ _ _ => pts_one (pt_not (pt_val (pcal C_within hr (by decide) rfl (pa_cons (pv 2) (pa_cons pe_int (pa_cons (pe_op op_sub (pv 0) pe_int) pa_nil))))))) (fun _ _ _ _ _ => (pv 2))) pa_nil)) pe_int (nomark _)))), ?_⟩
    refine ⟨_, rfl, t, rfl, ⟨_, SqT.of ht⟩, fun D hD => ?_⟩
    refine lc_tup (xs := xs) (fun i H' => L2.Same H H' ∧ H' D = some (.lst ((xs.take i).filter fun x => !hsV n x))) ⟨same_upd hD, by rw [upd_same]; rfl⟩ (fun i H' _ p => SqT.of (p.1 _ _ ht)) ?_ ?_
    · rintro i x H' hx ⟨sm, hd⟩
      have hi := (List.getElem?_eq_some_iff.mp hx).1
      have ax : Any C h H x := an x (List.mem_of_getElem? hx)
      have e6 : wiV 0 ((n : Int) - 1) x = hsV n x := wiV_hsV n x
      refine ⟨rfl, _, rfl, _, rfl, _, _, rfl, rfl, h, _, _, x, rfl, ax.same sm, fun H2 s2 => ⟨_, rfl, iteB (fun e7 => ?_) (fun e7 => ?_)⟩⟩
      · have e8 : (!wiV 0 ((n : Int) - 1) x) = true := e7
        rw [e6] at e8
        refine ⟨_, rfl, _, s2 _ _ hd, smalls ?_, Same.upd (sm.trans s2) hD, ?_⟩
        · have z := List.length_filter_le (fun x => !hsV n x) (xs.take i)
          rw [List.length_take] at z
          omega
        · rw [upd_same, List.take_add_one, hx, List.filter_append]
          simp [e8]
      · have e8 : (!wiV 0 ((n : Int) - 1) x) = false := e7
        rw [e6] at e8
        refine ⟨sm.trans s2, ?_⟩
        rw [s2 _ _ hd, List.take_add_one, hx, List.filter_append]
        simp at e8
        simp [e8]
    rintro H1 ⟨s1, hd⟩
    rw [List.take_length] at hd
    refine ⟨D, _, rfl, .inl (SqL.of hd), rfl, ?_⟩
    have e : decide (V.int (((xs.filter fun x => !hsV n x).length : Nat) : Int) = V.int 0) = xs.all (hsV n) := by
      rw [Bool.eq_iff_iff, decide_eq_true_iff, List.all_eq_true]
      constructor
      · intro z x hx
        have z2 := V.int.inj z
        have z3 : (xs.filter fun x => !hsV n x) = [] := List.length_eq_zero_iff.mp (by omega)
        have z4 := List.filter_eq_nil_iff.mp z3 x hx
        simpa using z4
      · intro z
        have z3 : (xs.filter fun x => !hsV n x) = [] := List.filter_eq_nil_iff.mpr fun x hx => by rw [z x hx]; decide
        rw [z3]
        rfl
    show Q (V.bl (decide (V.int (((xs.filter fun x => !hsV n x).length : Nat) : Int) = V.int 0))) H1
    rw [e]
    exact k _ s1

end
end W2
namespace W2
open PySem PySem.Spec PyProof.Rows L2
section
variable {P : Program} {w : World} {K : PySem.W.Frag} {mg : Str → Option Value} {base : Heap} {C fI CN fN CD fD fF t1 t2 t3 t4 t5 : Addr}
theorem ok_deedform (D : Def K mg "_law_deed_form" s_deedform ["_law_size", "_law_thing"]) (T : Txt K mg) (C_arehouses : Cal P w K mg base 3 "_law_are_houses" ["_law_size", "_law_things"] (spAreHouses C)) (C_lisint : Cal P w K mg base 1 "_law_is_integer" ["_law_thing"] (spIsInt C)) (FC : ForC K mg C fI) : Cal P w K mg base 4 "_law_deed_form" ["_law_size", "_law_thing"] (spHasForm C) := by
  refine D.cal sc_deedform (fun vs H Q E h => ?_) (fun f cdv A outer s H vs Q E hr h => ?_)
  · obtain ⟨h, n, x, rfl, _⟩ := h
    rfl
  · obtain ⟨h, n, x, rfl, th, kT, kF⟩ := h
    obtain ⟨t, b, ty, kt, hb1, hb0⟩ := any_tup FC.own th.any
    refine ⟨_, (pss_cons (ps_if (PW.pt (pw_or (pt_not (pt_val (pe_callB (call_isiK1 (K := K) rfl) (by rfl) T.n_isinstance (by decide +kernel) (pa_cons (pv 1) (pa_cons (pe_bltn (v := .ty "tuple") (by rfl) T.n_tuple (by decide +kernel) rfl) pa_nil))))) (pw_or (pt_cmpR op_lt (pe_callB (call_lenK (K := K) rfl) (by rfl) T.n_len PySem.boot_len (pa_cons (pv 1) pa_nil)) pe_int (nomark _)) (pw_or1 (pt_not (pt_val (pe_callB (call_isiK1 (K := K) rfl) (by rfl) T.n_isinstance (by decide +kernel) (pa_cons (pe_ix (ix_tupK (K := K) rfl) (pv 1) pe_int (fun _ _ => rfl)) (pa_cons (pe_bltn (v := .ty "str") (by rfl) T.n_str (by decide +kernel) rfl) pa_nil))))))))) (pss_one (ps_ret pe_bl)) pss_nil)
      (pss_cons (ps_if (pt_cmpR (op_inK (K := K) rfl) (pe_ix (ix_tupK (K := K) rfl) (pv 1) pe_int (fun _ _ => rfl)) (pe_lst (pa_cons pe_str (pa_cons pe_str pa_nil))) (by rfl)) (pss_one (ps_ret (pe_and (pe_cmpR op_eq (pe_callB (call_lenK (K := K) rfl) (by rfl) T.n_len PySem.boot_len (pa_cons (pv 1) pa_nil)) pe_int (nomark _)) (pe_one (pcal C_arehouses hr (by decide) rfl (pa_cons (pv 0) (pa_cons (pe_slice sl_tup (pv 1) (po_some pe_int) po_none) pa_nil))))))) pss_nil)
      (pss_cons (ps_if (pt_cmpR op_eq (pe_ix (ix_tupK (K := K) rfl) (pv 1) pe_int (fun _ _ => rfl)) pe_str (nomark _)) (pss_one (ps_ret (pe_and (pe_cmpR op_eq (pe_callB (call_lenK (K := K) rfl) (by rfl) T.n_len PySem.boot_len (pa_cons (pv 1) pa_nil)) pe_int (nomark _)) (pe_one (pcal C_arehouses hr (by decide) rfl (pa_cons (pv 0) (pa_cons (pe_slice sl_tup (pv 1) (po_some pe_int) po_none) pa_nil))))))) pss_nil)
      (pss_cons (ps_if (pt_cmpR op_eq (pe_ix (ix_tupK (K := K) rfl) (pv 1) pe_int (fun _ _ => rfl)) pe_str (nomark _)) (pss_one (ps_ret (pe_and (pe_cmpR op_eq (pe_callB (call_lenK (K := K) rfl) (by rfl) T.n_len PySem.boot_len (pa_cons (pv 1) pa_nil)) pe_int (nomark _)) (pe_and (pcal C_arehouses hr (by decide) rfl (pa_cons (pv 0) (pa_cons (pe_slice sl_tup (pv 1) (po_some pe_int) (po_some pe_int)) pa_nil))) (pe_one (pcal C_lisint hr (by decide) rfl (pa_cons (pe_ix (ix_tupK (K := K) rfl) (pv 1) pe_int (fun _ _ => rfl)) pa_nil))))))) pss_nil)
      (pss_one (ps_ret (pe_and (pe_cmpR op_eq (pe_ix (ix_tupK (K := K) rfl) (pv 1) pe_int (fun _ _ => rfl)) pe_str (nomark _)) (pe_and (pe_cmpR op_eq (pe_callB (call_lenK (K := K) rfl) (by rfl) T.n_len PySem.boot_len (pa_cons (pv 1) pa_nil)) pe_int (nomark _)) (pe_and (pcal C_arehouses hr (by decide) rfl (pa_cons (pv 0) (pa_cons (pe_slice sl_tup (pv 1) (po_some pe_int) (po_some pe_int)) pa_nil))) (pe_one (pcal C_lisint hr (by decide) rfl (pa_cons (pe_ix (ix_tupK (K := K) rfl) (pv 1) pe_int (fun _ _ => rfl)) pa_nil)))))))))))), ?_⟩
    refine ⟨_, rfl, _, _, _, _, b, rfl, .ty _, ty, kt, b, rfl, ?_⟩
    cases b with
    | false =>
      refine iteT (iteT ?_)
      exact kF (fun ⟨d, ⟨a, e, e2⟩, _⟩ => hb0 rfl a _ e e2) _ (L2.Same.refl _)
    | true =>
      obtain ⟨a, xs, rfl, hA⟩ := hb1 rfl
      have no : (∀ d, xs = enc d → ¬ okD n d) → Ret (.bl false) H Q := fun q => kF fun ⟨d, ⟨a', e, e2⟩, o⟩ => by
        cases e
        rw [hA] at e2
        exact q d (HO.tup.inj (Option.some.inj e2)) o
      have yes : (∃ d, xs = enc d ∧ okD n d) → Ret (.bl true) H Q := fun ⟨d, e, o⟩ => kT d ⟨⟨a, rfl, by rw [hA, e]⟩, o⟩
      refine iteF ?_
      refine ⟨_, rfl, a, _, rfl, .inr (SqT.of hA), _, _, rfl, rfl, _, rfl, iteB (fun e1 => ?_) (fun e1 => ?_)⟩
      · refine iteT (no (fun d e o => ?_) _ (L2.Same.refl _))
        have e2 : (xs.length : Int) < 2 := of_decide_eq_true e1
        rw [e] at e2
        cases d <;> simp [enc] at e2 <;> omega
      have h2 : ¬ ((xs.length : Int) < 2) := of_decide_eq_false e1
      match xs, hA, no, yes, h2 with
      | [], _, _, _, h2 => exact absurd (show ((([] : List V).length : Nat) : Int) < 2 by decide) h2
      | x0 :: r, hA, no, yes, h2 =>
        have lr : 1 ≤ r.length := by rw [List.length_cons] at h2; omega
        have a0 : Any C h H x0 := th.items a _ rfl hA x0 List.mem_cons_self
        have ar : ∀ y ∈ r, Any C h H y := fun y hy => th.items a _ rfl hA y (List.mem_cons_of_mem _ hy)
        obtain ⟨t0, b0, ty0, kt0, hs1, hs0⟩ := any_str FC.own a0
        refine ⟨_, rfl, a, _, _, _, rfl, rfl, SqT.of hA, at0, _, _, _, _, b0, rfl, .ty _, ty0, kt0, b0, rfl, ?_⟩
        cases b0 with
        | false =>
          refine iteT ?_
          refine no (fun d e o => ?_) _ (L2.Same.refl _)
          obtain ⟨q, eq⟩ := enc_wd d
          rw [eq] at e
          exact hs0 rfl _ (List.cons.inj e).1
        | true =>
          obtain ⟨z, rfl⟩ := hs1 rfl
          refine iteF ?_
          -- in ['cut', 'turn']
          refine ⟨_, rfl, a, _, _, _, rfl, rfl, SqT.of hA, at0, small (by show 2 ≤ 100000; decide), fun tl htl => ?_⟩
          have s1 := same_upd (o := .lst [V.str "cut", V.str "turn"]) htl
          have el : (L2.upd H tl (.lst [V.str "cut", V.str "turn"])) tl = some (.lst [V.str "cut", V.str "turn"]) := upd_same
          generalize L2.upd H tl (.lst [V.str "cut", V.str "turn"]) = H1 at s1 el
          have hA1 := s1 _ _ hA
          refine ⟨tl, _, rfl, .inl (SqL.of el), rfl, rfl, _, rfl, ?_⟩
          show if (inV (V.str z) [V.str "cut", V.str "turn"]) = true then _ else _
          cases fm : fmW z with
          | none =>
            obtain ⟨n1, n2, n3, n4, n5⟩ := fm_none fm
            have nn := no (fun d e _ => no_form_word fm d e)
            refine iteB (fun e => ?_) (fun _ => ?_)
            · rcases inV_str2 e with q | q
              · exact absurd q n2
              · exact absurd q n3
            refine ⟨_, rfl, a, _, _, _, rfl, rfl, SqT.of hA1, at0, rfl, _, rfl, iteB (fun e => absurd (V.str.inj (of_decide_eq_true e)) n1) (fun _ => ?_)⟩
            refine ⟨_, rfl, a, _, _, _, rfl, rfl, SqT.of hA1, at0, rfl, _, rfl, iteB (fun e => absurd (V.str.inj (of_decide_eq_true e)) n4) (fun _ => ?_)⟩
            refine ⟨_, rfl, a, _, _, _, rfl, rfl, SqT.of hA1, at0, rfl, _, rfl, iteB (fun e => absurd (V.str.inj (of_decide_eq_true e)) n5) (fun _ => ?_)⟩
            exact nn _ s1
          | some ks =>
            have iff := form_iff (n := n) (r := r) fm
            have nolen : r.length ≠ ks.length → Ret (.bl false) H Q := fun q => no fun d e o => q (iff.mpr ⟨d, e, o⟩).1
            have res : r.length = ks.length → Ret (.bl (fitAll n r ks)) H Q := fun q => by
              cases e3 : fitAll n r ks with
              | true => exact yes (iff.mp ⟨q, e3⟩)
              | false =>
                refine no fun d e o => ?_
                have := (iff.mpr ⟨d, e, o⟩).2
                rw [e3] at this
                cases this
            rcases fm_cases fm with ⟨rfl, rfl⟩ | ⟨rfl, rfl⟩ | ⟨rfl, rfl⟩ | ⟨rfl, rfl⟩ | ⟨rfl, rfl⟩
            · -- link
              refine iteB (fun e => absurd e (by decide +kernel)) (fun _ => ?_)
              refine ⟨_, rfl, a, _, _, _, rfl, rfl, SqT.of hA1, at0, rfl, _, rfl, iteB (fun _ => ?_) (fun e => absurd e (by decide +kernel))⟩
              refine ⟨_, rfl, a, _, rfl, .inr (SqT.of hA1), rfl, _, rfl, iteB (fun e3 => ?_) (fun e3 => ?_)⟩
              rotate_left
              · refine nolen (fun q => ?_) _ s1
                have q : r.length = 2 := q
                refine of_decide_eq_false e3 ?_
                rw [List.length_cons, q]
                rfl
              have e4 := V.int.inj (of_decide_eq_true e3)
              rw [List.length_cons] at e4
              have lr2 : r.length = 2 := by omega
              match r, lr2, hA, hA1, ar, res with
              | [y1, y2], _, hA, hA1, ar, res =>
                refine ⟨_, rfl, _, rfl, 1, rfl, ?_⟩
                unfold tNoPart
                show rSlT K (V.ref a) (some 1) none H1 _
                refine slT_of hA1 (six_from _ 0 (by simp)) fun p2 h2 => ?_
                have s2 := same_upd (o := .tup (cutV (V.str "link" :: [y1, y2]) (some 1) none)) h2
                refine ⟨h, p2, n, [y1, y2], rfl, upd_same, fun y hy => ((ar y hy).same s1).same s2, by simp, fun H3 s3 => ?_⟩
                show Q (V.bl (hsV n y1 && (hsV n y2 && true))) H3
                have rr := res rfl _ (s1.trans (s2.trans s3))
                unfold fitAll at rr
                have rr : Q (V.bl (fitV n "house" y1 && (fitV n "house" y2 && true))) H3 := rr
                rw [fit_h, fit_h] at rr
                exact rr
            · -- cut
              refine iteB (fun _ => ?_) (fun e => absurd e (by decide +kernel))
              refine ⟨_, rfl, a, _, rfl, .inr (SqT.of hA1), rfl, _, rfl, iteB (fun e3 => ?_) (fun e3 => ?_)⟩
              rotate_left
              · refine nolen (fun q => ?_) _ s1
                have q : r.length = 1 := q
                refine of_decide_eq_false e3 ?_
                rw [List.length_cons, q]
                rfl
              have e4 := V.int.inj (of_decide_eq_true e3)
              rw [List.length_cons] at e4
              have lr2 : r.length = 1 := by omega
              match r, lr2, hA, hA1, ar, res with
              | [y1], _, hA, hA1, ar, res =>
                refine ⟨_, rfl, _, rfl, 1, rfl, ?_⟩
                unfold tNoPart
                show rSlT K (V.ref a) (some 1) none H1 _
                refine slT_of hA1 (six_from _ 0 (by simp)) fun p2 h2 => ?_
                have s2 := same_upd (o := .tup (cutV (V.str "cut" :: [y1]) (some 1) none)) h2
                refine ⟨h, p2, n, [y1], rfl, upd_same, fun y hy => ((ar y hy).same s1).same s2, by simp, fun H3 s3 => ?_⟩
                show Q (V.bl (hsV n y1 && true)) H3
                have rr := res rfl _ (s1.trans (s2.trans s3))
                unfold fitAll at rr
                have rr : Q (V.bl (fitV n "house" y1 && true)) H3 := rr
                rw [fit_h] at rr
                exact rr
            · -- turn
              refine iteB (fun _ => ?_) (fun e => absurd e (by decide +kernel))
              refine ⟨_, rfl, a, _, rfl, .inr (SqT.of hA1), rfl, _, rfl, iteB (fun e3 => ?_) (fun e3 => ?_)⟩
              rotate_left
              · refine nolen (fun q => ?_) _ s1
                have q : r.length = 1 := q
                refine of_decide_eq_false e3 ?_
                rw [List.length_cons, q]
                rfl
              have e4 := V.int.inj (of_decide_eq_true e3)
              rw [List.length_cons] at e4
              have lr2 : r.length = 1 := by omega
              match r, lr2, hA, hA1, ar, res with
              | [y1], _, hA, hA1, ar, res =>
                refine ⟨_, rfl, _, rfl, 1, rfl, ?_⟩
                unfold tNoPart
                show rSlT K (V.ref a) (some 1) none H1 _
                refine slT_of hA1 (six_from _ 0 (by simp)) fun p2 h2 => ?_
                have s2 := same_upd (o := .tup (cutV (V.str "turn" :: [y1]) (some 1) none)) h2
                refine ⟨h, p2, n, [y1], rfl, upd_same, fun y hy => ((ar y hy).same s1).same s2, by simp, fun H3 s3 => ?_⟩
                show Q (V.bl (hsV n y1 && true)) H3
                have rr := res rfl _ (s1.trans (s2.trans s3))
                unfold fitAll at rr
                have rr : Q (V.bl (fitV n "house" y1 && true)) H3 := rr
                rw [fit_h] at rr
                exact rr
            · -- put
              refine iteB (fun e => absurd e (by decide +kernel)) (fun _ => ?_)
              refine ⟨_, rfl, a, _, _, _, rfl, rfl, SqT.of hA1, at0, rfl, _, rfl, iteB (fun e => absurd e (by decide +kernel)) (fun _ => ?_)⟩
              refine ⟨_, rfl, a, _, _, _, rfl, rfl, SqT.of hA1, at0, rfl, _, rfl, iteB (fun _ => ?_) (fun e => absurd e (by decide +kernel))⟩
              refine ⟨_, rfl, a, _, rfl, .inr (SqT.of hA1), rfl, _, rfl, iteB (fun e3 => ?_) (fun e3 => ?_)⟩
              rotate_left
              · refine nolen (fun q => ?_) _ s1
                have q : r.length = 2 := q
                refine of_decide_eq_false e3 ?_
                rw [List.length_cons, q]
                rfl
              have e4 := V.int.inj (of_decide_eq_true e3)
              rw [List.length_cons] at e4
              have lr2 : r.length = 2 := by omega
              match r, lr2, hA, hA1, ar, res with
              | [y1, y2], _, hA, hA1, ar, res =>
                refine ⟨_, rfl, _, rfl, 1, rfl, 2, rfl, ?_⟩
                show rSlT K (V.ref a) (some 1) (some 2) H1 _
                refine slT_of hA1 (fun q => absurd (show HT.sIx 3 0 (some 1) = 0 from q.1) (by decide)) fun p2 h2 => ?_
                have s2 := same_upd (o := .tup (cutV (V.str "put" :: [y1, y2]) (some 1) (some 2))) h2
                refine ⟨h, p2, n, [y1], rfl, upd_same, fun y hy => ((ar y (by simp only [List.mem_cons, List.not_mem_nil, or_false] at hy ⊢; first | exact .inl hy | (rcases hy with hy | hy <;> simp [hy]))).same s1).same s2, by simp, fun H3 s3 => ?_⟩
                have s13 := s1.trans (s2.trans s3)
                have hA3 := s13 _ _ hA
                have rr := res rfl
                have ef : fitAll n [y1, y2] ["house", "integer"] = (hsV n y1 && isI y2) := by
                  show (fitV n "house" y1 && (fitV n "integer" y2 && true)) = _
                  rw [fit_h, fit_i, Bool.and_true]
                rw [ef] at rr
                have eq1 : [y1].all (hsV n) = hsV n y1 := by simp
                refine ⟨_, rfl, iteB (fun e4 => ?_) (fun e4 => ?_)⟩
                · have e5 : hsV n y1 = true := by rw [← eq1]; exact e4
                  rw [e5, Bool.true_and] at rr
                  refine ⟨_, rfl, a, _, _, _, rfl, rfl, SqT.of hA3, rfl, h, y2, rfl, (ar y2 (by simp)).same s13, fun H4 s4 => rr _ (s13.trans s4)⟩
                · have e5 : hsV n y1 = false := by rw [← eq1]; exact e4
                  rw [e5, Bool.false_and] at rr
                  exact rr _ s13
            · -- add
              refine iteB (fun e => absurd e (by decide +kernel)) (fun _ => ?_)
              refine ⟨_, rfl, a, _, _, _, rfl, rfl, SqT.of hA1, at0, rfl, _, rfl, iteB (fun e => absurd e (by decide +kernel)) (fun _ => ?_)⟩
              refine ⟨_, rfl, a, _, _, _, rfl, rfl, SqT.of hA1, at0, rfl, _, rfl, iteB (fun e => absurd e (by decide +kernel)) (fun _ => ?_)⟩
              refine ⟨_, rfl, a, _, _, _, rfl, rfl, SqT.of hA1, at0, rfl, _, rfl, iteB (fun _ => ?_) (fun e => absurd e (by decide +kernel))⟩
              refine ⟨_, rfl, a, _, rfl, .inr (SqT.of hA1), rfl, _, rfl, iteB (fun e3 => ?_) (fun e3 => ?_)⟩
              rotate_left
              · refine nolen (fun q => ?_) _ s1
                have q : r.length = 3 := q
                refine of_decide_eq_false e3 ?_
                rw [List.length_cons, q]
                rfl
              have e4 := V.int.inj (of_decide_eq_true e3)
              rw [List.length_cons] at e4
              have lr2 : r.length = 3 := by omega
              match r, lr2, hA, hA1, ar, res with
              | [y1, y2, y3], _, hA, hA1, ar, res =>
                refine ⟨_, rfl, _, rfl, 1, rfl, 3, rfl, ?_⟩
                show rSlT K (V.ref a) (some 1) (some 3) H1 _
                refine slT_of hA1 (fun q => absurd (show HT.sIx 4 0 (some 1) = 0 from q.1) (by decide)) fun p2 h2 => ?_
                have s2 := same_upd (o := .tup (cutV (V.str "add" :: [y1, y2, y3]) (some 1) (some 3))) h2
                refine ⟨h, p2, n, [y1, y2], rfl, upd_same, fun y hy => ((ar y (by simp only [List.mem_cons, List.not_mem_nil, or_false] at hy ⊢; first | exact .inl hy | (rcases hy with hy | hy <;> simp [hy]))).same s1).same s2, by simp, fun H3 s3 => ?_⟩
                have s13 := s1.trans (s2.trans s3)
                have hA3 := s13 _ _ hA
                have rr := res rfl
                have ef : fitAll n [y1, y2, y3] ["house", "house", "integer"] = ((hsV n y1 && hsV n y2) && isI y3) := by
                  show (fitV n "house" y1 && (fitV n "house" y2 && (fitV n "integer" y3 && true))) = _
                  rw [fit_h, fit_h, fit_i, Bool.and_true, Bool.and_assoc]
                rw [ef] at rr
                have eq1 : [y1, y2].all (hsV n) = (hsV n y1 && hsV n y2) := by simp
                refine ⟨_, rfl, iteB (fun e4 => ?_) (fun e4 => ?_)⟩
                · have e5 : (hsV n y1 && hsV n y2) = true := by rw [← eq1]; exact e4
                  rw [e5, Bool.true_and] at rr
                  refine ⟨_, rfl, a, _, _, _, rfl, rfl, SqT.of hA3, rfl, h, y3, rfl, (ar y3 (by simp)).same s13, fun H4 s4 => rr _ (s13.trans s4)⟩
                · have e5 : (hsV n y1 && hsV n y2) = false := by rw [← eq1]; exact e4
                  rw [e5, Bool.false_and] at rr
                  exact rr _ s13

end
end W2
namespace W2
open PySem PySem.Spec PyProof.Rows L2
section
variable {P : Program} {w : World} {K : PySem.W.Frag} {mg : Str → Option Value} {base : Heap} {C fI CN fN CD fD fF t1 t2 t3 t4 t5 : Addr}
theorem ok_lcan (D : Def K mg "_law_can" s_lcan ["_law_plain_here", "_law_thing"]) (T : Txt K mg) (C_deedform : Cal P w K mg base 4 "_law_deed_form" ["_law_size", "_law_thing"] (spHasForm C)) (C_lroot : Cal P w K mg base 2 "_law_root" ["_law_parents_here", "_law_house"] spLRoot) (C_lcommon : Cal P w K mg base 2 "_law_common" ["_law_parents_here", "_law_one", "_law_other"] spLCommon) : Cal P w K mg base 5 "_law_can" ["_law_plain_here", "_law_thing"] (spLCan C) := by
  refine D.cal sc_lcan (fun vs H Q E h => ?_) (fun f cdv A outer s H vs Q E hr h => ?_)
  · obtain ⟨h, pl, p, q, ps, ws, x, rfl, _⟩ := h
    rfl
  · obtain ⟨h, pl, p, q, ps, ws, x, rfl, PA, th, kT, kF⟩ := h
    refine ⟨_, (pss_cons (ps_set (i := 2) sc_lcan.nd rfl (Or.inl rfl) (pe_ix (ix_listK (K := K) rfl) (pv 0) pe_int (fun _ _ => rfl)))
      (pss_cons (ps_if (pt_not (pt_val (pcal C_deedform hr (by decide) rfl (pa_cons (pe_callB (call_lenK (K := K) rfl) (by rfl) T.n_len PySem.boot_len (pa_cons (pv 2) pa_nil)) (pa_cons (pv 1) pa_nil))))) (pss_one (ps_ret pe_bl)) pss_nil)
      (pss_cons (ps_if (pt_cmpR op_eq (pe_ix (ix_tupK (K := K) rfl) (pv 1) pe_int (fun _ _ => rfl)) pe_str (nomark _)) (pss_one (ps_ret (pe_and (pe_cmpR op_isN (pe_ix (ix_listK (K := K) rfl) (pv 2) (pe_ix (ix_tupK (K := K) rfl) (pv 1) pe_int (fun _ _ => rfl)) (fun _ _ => rfl)) pe_non (nomark _)) (pe_one (pe_cmpR op_ne (pcal C_lroot hr (by decide) rfl (pa_cons (pv 2) (pa_cons (pe_ix (ix_tupK (K := K) rfl) (pv 1) pe_int (fun _ _ => rfl)) pa_nil))) (pe_ix (ix_tupK (K := K) rfl) (pv 1) pe_int (fun _ _ => rfl)) (nomark _)))))) pss_nil)
      (pss_cons (ps_if (pt_cmpR op_eq (pe_ix (ix_tupK (K := K) rfl) (pv 1) pe_int (fun _ _ => rfl)) pe_str (nomark _)) (pss_one (ps_ret (pe_cmpR op_notN (pe_ix (ix_listK (K := K) rfl) (pv 2) (pe_ix (ix_tupK (K := K) rfl) (pv 1) pe_int (fun _ _ => rfl)) (fun _ _ => rfl)) pe_non (nomark _)))) pss_nil)
      (pss_one (ps_ret (pe_or (pe_cmpR op_ne (pe_ix (ix_tupK (K := K) rfl) (pv 1) pe_int (fun _ _ => rfl)) pe_str (nomark _)) (pe_one (pe_cmpR op_notN (pcal C_lcommon hr (by decide) rfl (pa_cons (pv 2) (pa_cons (pe_ix (ix_tupK (K := K) rfl) (pv 1) pe_int (fun _ _ => rfl)) (pa_cons (pe_ix (ix_tupK (K := K) rfl) (pv 1) pe_int (fun _ _ => rfl)) pa_nil)))) pe_non (nomark _)))))))))), ?_⟩
    refine ⟨_, rfl, pl, _, _, _, rfl, rfl, SqL.of PA.o, rfl, ?_⟩
    refine ⟨_, rfl, p, _, rfl, .inl (SqL.of PA.p), ?_⟩
    rw [List.length_map]
    by_cases fo : ∃ d, FormAt H x ps.length d
    · obtain ⟨d, fo⟩ := fo
      refine ⟨_, rfl, h, ps.length, x, rfl, th, fun _ _ H1 s1 => ⟨true, rfl, iteF ?_⟩, fun n => absurd ⟨d, fo⟩ n⟩
      obtain ⟨⟨t, rfl, et⟩, ok⟩ := fo
      have kN : ¬ canD ps d → Ret (.bl false) H Q := fun n => kF fun ⟨d', fo', c⟩ => n (by
        obtain ⟨⟨t', e', e2'⟩, _⟩ := fo'
        cases e'
        rw [et] at e2'
        rw [enc_inj (HO.tup.inj (Option.some.inj e2'))]
        exact c)
      have kY : canD ps d → Ret (.bl true) H Q := fun c => kT d ⟨⟨t, rfl, et⟩, ok⟩ c
      have PA1 := PA.same s1
      cases d with
      | link i j =>
        have et : H1 t = some (.tup [.str "link", nv i, nv j]) := s1 _ _ et
        refine ⟨_, rfl, t, _, _, _, rfl, rfl, SqT.of et, rfl, rfl, _, rfl, iteB (fun _ => ?_) (fun e => absurd e (by decide +kernel))⟩
        obtain ⟨o, eo⟩ := tree_at ok.1
        refine ⟨_, rfl, _, rfl, t, _, _, _, rfl, rfl, SqT.of et, rfl, p, _, _, _, rfl, rfl, SqL.of PA1.p, at_ov eo, rfl, _, rfl, ?_⟩
        cases o with
        | some q =>
          refine iteB (fun e => absurd e (by simp [ov])) (fun _ => ?_)
          exact kN (fun c => by rw [c.1] at eo; cases eo) _ s1
        | none =>
          refine iteB (fun _ => ?_) (fun e => absurd e (by simp [ov]))
          refine ⟨_, rfl, _, rfl, t, _, _, _, rfl, rfl, SqT.of et, rfl, p, ps, j, rfl, PA1.pl', ok.2, fun H2 s2 => ⟨_, rfl, t, _, _, _, rfl, rfl, SqT.of (s2 _ _ et), rfl, rfl, ?_⟩⟩
          show Q (V.bl (!decide (nv (rt ps j) = nv i))) H2
          rw [dnv]
          by_cases c : rt ps j = i
          · rw [decide_eq_true c]
            exact kN (fun q => q.2 c) _ (s1.trans s2)
          · rw [decide_eq_false c]
            exact kY ⟨eo, c⟩ _ (s1.trans s2)
      | cut i =>
        have et : H1 t = some (.tup [.str "cut", nv i]) := s1 _ _ et
        refine ⟨_, rfl, t, _, _, _, rfl, rfl, SqT.of et, rfl, rfl, _, rfl, iteB (fun e => absurd e (by decide +kernel)) (fun _ => ?_)⟩
        refine ⟨_, rfl, t, _, _, _, rfl, rfl, SqT.of et, rfl, rfl, _, rfl, iteB (fun _ => ?_) (fun e => absurd e (by decide +kernel))⟩
        obtain ⟨o, eo⟩ := tree_at (show i < ps.length from ok)
        refine ⟨_, rfl, _, rfl, t, _, _, _, rfl, rfl, SqT.of et, rfl, p, _, _, _, rfl, rfl, SqL.of PA1.p, at_ov eo, rfl, ?_⟩
        cases o with
        | some q => exact kY (fun z => by rw [eo] at z; cases z) _ s1
        | none => exact kN (fun c => c eo) _ s1
      | turn i =>
        have et : H1 t = some (.tup [.str "turn", nv i]) := s1 _ _ et
        refine ⟨_, rfl, t, _, _, _, rfl, rfl, SqT.of et, rfl, rfl, _, rfl, iteB (fun e => absurd e (by decide +kernel)) (fun _ => ?_)⟩
        refine ⟨_, rfl, t, _, _, _, rfl, rfl, SqT.of et, rfl, rfl, _, rfl, iteB (fun e => absurd e (by decide +kernel)) (fun _ => ?_)⟩
        refine ⟨_, rfl, t, _, _, _, rfl, rfl, SqT.of et, rfl, rfl, _, rfl, iteB (fun _ => ?_) (fun e => absurd e (by decide +kernel))⟩
        exact kY trivial _ s1
      | put i v =>
        have et : H1 t = some (.tup [.str "put", nv i, .int v]) := s1 _ _ et
        refine ⟨_, rfl, t, _, _, _, rfl, rfl, SqT.of et, rfl, rfl, _, rfl, iteB (fun e => absurd e (by decide +kernel)) (fun _ => ?_)⟩
        refine ⟨_, rfl, t, _, _, _, rfl, rfl, SqT.of et, rfl, rfl, _, rfl, iteB (fun e => absurd e (by decide +kernel)) (fun _ => ?_)⟩
        refine ⟨_, rfl, t, _, _, _, rfl, rfl, SqT.of et, rfl, rfl, _, rfl, iteB (fun _ => ?_) (fun e => absurd e (by decide +kernel))⟩
        exact kY trivial _ s1
      | add i j v =>
        have et : H1 t = some (.tup [.str "add", nv i, nv j, .int v]) := s1 _ _ et
        refine ⟨_, rfl, t, _, _, _, rfl, rfl, SqT.of et, rfl, rfl, _, rfl, iteB (fun e => absurd e (by decide +kernel)) (fun _ => ?_)⟩
        refine ⟨_, rfl, t, _, _, _, rfl, rfl, SqT.of et, rfl, rfl, _, rfl, iteB (fun e => absurd e (by decide +kernel)) (fun _ => ?_)⟩
        refine ⟨_, rfl, t, _, _, _, rfl, rfl, SqT.of et, rfl, rfl, _, rfl, iteB (fun e => absurd e (by decide +kernel)) (fun _ => ?_)⟩
        refine ⟨_, rfl, _, rfl, t, _, _, _, rfl, rfl, SqT.of et, rfl, _, rfl, t, _, _, _, rfl, rfl, SqT.of et, rfl, p, ps, i, j, rfl, PA1.pl', ok.1, ok.2, fun H2 s2 => ⟨rfl, ?_⟩⟩
        have iff := fnd_iff PA.TR ok.1 ok.2
        cases e : fnd (up ps i) (up ps j) with
        | none =>
          exact kN (fun c => by obtain ⟨x, ex⟩ := iff.mpr c; rw [e] at ex; cases ex) _ (s1.trans s2)
        | some m => exact kY (iff.mp ⟨m, e⟩) _ (s1.trans s2)
    · refine ⟨_, rfl, h, ps.length, x, rfl, th, fun d fo1 => absurd ⟨d, fo1⟩ fo, fun n H1 s1 => ⟨false, rfl, iteT ?_⟩⟩
      exact kF (fun ⟨d, q, _⟩ => fo ⟨d, q⟩) _ s1

end
end W2
namespace W2
open PySem PySem.Spec PyProof.Rows L2
section
variable {P : Program} {w : World} {K : PySem.W.Frag} {mg : Str → Option Value} {base : Heap} {C fI CN fN CD fD fF t1 t2 t3 t4 t5 : Addr}
theorem ok_lbehind (D : Def K mg "_law_behind" s_lbehind ["_law_plain_here", "_law_deed_here"]) (T : Txt K mg) (C_lup : Cal P w K mg base 1 "_law_up" ["_law_parents_here", "_law_house"] spLUp) (C_lway : Cal P w K mg base 3 "_law_way" ["_law_parents_here", "_law_one", "_law_other"] spLWay) : Cal P w K mg base 4 "_law_behind" ["_law_plain_here", "_law_deed_here"] spLBehind := by
  refine D.cal sc_lbehind (fun vs H Q E h => ?_) (fun f cdv A outer s H vs Q E hr h => ?_)
  · obtain ⟨pl, p, q, ps, ws, x, d, rfl, _⟩ := h
    rfl
  · obtain ⟨pl, p, q, ps, ws, x, d, rfl, PA, ⟨t, rfl, et⟩, ok, can, k⟩ := h
    have TR' := do_tree PA.TR ok can
    have n1' : 1 ≤ (doP ps d).length := by rw [doP_len]; exact PA.n1
    have n64' : (doP ps d).length ≤ 64 := by rw [doP_len]; exact PA.n64
    have lw' : (doW ps ws d).length = (doP ps d).length := by rw [doP_len, doW_len]; exact PA.lw
    have lp : (ps.map ov).length = ps.length := List.length_map _
    have lww : (ws.map V.int).length = ws.length := List.length_map _
    have n64 := PA.n64
    have lw := PA.lw
    refine ⟨_, (pss_cons (ps_set (i := 2) sc_lbehind.nd rfl (Or.inl rfl) (pe_callTy call_list_of (by rfl) T.n_list (by decide +kernel) (pa_cons (pe_ix (ix_listK (K := K) rfl) (pv 0) pe_int (fun _ _ => rfl)) pa_nil)))
      (pss_cons (ps_set (i := 3) sc_lbehind.nd rfl (Or.inl rfl) (pe_callTy call_list_of (by rfl) T.n_list (by decide +kernel) (pa_cons (pe_ix (ix_listK (K := K) rfl) (pv 0) pe_int (fun _ _ => rfl)) pa_nil)))
      (pss_cons (ps_if (pt_cmpR op_eq (pe_ix (ix_tupK (K := K) rfl) (pv 1) pe_int (fun _ _ => rfl)) pe_str (nomark _)) (pss_one (ps_asg (pe_ix (ix_tupK (K := K) rfl) (pv 1) pe_int (fun _ _ => rfl)) (pg_sub (pv 2) (pe_ix (ix_tupK (K := K) rfl) (pv 1) pe_int (fun _ _ => rfl)) set_list))) (pss_one (ps_if (pt_cmpR op_eq (pe_ix (ix_tupK (K := K) rfl) (pv 1) pe_int (fun _ _ => rfl)) pe_str (nomark _)) (pss_one (ps_asg pe_non (pg_sub (pv 2) (pe_ix (ix_tupK (K := K) rfl) (pv 1) pe_int (fun _ _ => rfl)) set_list))) (pss_one (ps_if (pt_cmpR op_eq (pe_ix (ix_tupK (K := K) rfl) (pv 1) pe_int (fun _ _ => rfl)) pe_str (nomark _)) (pss_cons (ps_set (i := 4) sc_lbehind.nd rfl (Or.inl rfl) (pcal C_lup hr (by decide) rfl (pa_cons (pv 2) (pa_cons (pe_ix (ix_tupK (K := K) rfl) (pv 1) pe_int (fun _ _ => rfl)) pa_nil))))
      (pss_cons (ps_asg pe_non (pg_sub (pv 2) (pe_ix (ix_tupK (K := K) rfl) (pv 1) pe_int (fun _ _ => rfl)) set_list))
      (pss_one (ps_for PassesOwn.never rfl (pi_range1 rfl T.n_range (pa_cons (pe_op op_sub (pe_callB (call_lenK (K := K) rfl) (by rfl) T.n_len PySem.boot_len (pa_cons (pv 4) pa_nil)) pe_int) pa_nil)) (pg_name (i := 5) sc_lbehind.nd rfl (Or.inl rfl)) (pss_one (ps_asg (pe_ix (ix_listK (K := K) rfl) (pv 4) (pv 5) (fun _ _ => rfl)) (pg_sub (pv 2) (pe_ix (ix_listK (K := K) rfl) (pv 4) (pe_op op_add (pv 5) pe_int) (fun _ _ => rfl)) set_list))))))) (pss_one (ps_if (pt_cmpR op_eq (pe_ix (ix_tupK (K := K) rfl) (pv 1) pe_int (fun _ _ => rfl)) pe_str (nomark _)) (pss_one (ps_asg (pe_ix (ix_tupK (K := K) rfl) (pv 1) pe_int (fun _ _ => rfl)) (pg_sub (pv 3) (pe_ix (ix_tupK (K := K) rfl) (pv 1) pe_int (fun _ _ => rfl)) set_list))) (pss_one (ps_for PassesOwn.never rfl (pi_list (pcal C_lway hr (by decide) rfl (pa_cons (pv 2) (pa_cons (pe_ix (ix_tupK (K := K) rfl) (pv 1) pe_int (fun _ _ => rfl)) (pa_cons (pe_ix (ix_tupK (K := K) rfl) (pv 1) pe_int (fun _ _ => rfl)) pa_nil))))) (pg_name (i := 6) sc_lbehind.nd rfl (Or.inl rfl)) (pss_one (ps_asg (pe_op op_add (pe_ix (ix_listK (K := K) rfl) (pv 3) (pv 6) (fun _ _ => rfl)) (pe_ix (ix_tupK (K := K) rfl) (pv 1) pe_int (fun _ _ => rfl))) (pg_sub (pv 3) (pv 6) set_list))))))))))))
      (pss_one (ps_ret (pe_lst (pa_cons (pv 2) (pa_cons (pv 3) pa_nil)))))))), ?_⟩
    refine ⟨_, rfl, pl, _, _, _, rfl, rfl, SqL.of PA.o, rfl, p, _, rfl, .inl (SqL.of PA.p), fun P hP => ?_⟩
    have s1 := same_upd (o := .lst (ps.map ov)) hP
    have eP : (L2.upd H P (.lst (ps.map ov))) P = some (.lst (ps.map ov)) := upd_same
    generalize L2.upd H P (.lst (ps.map ov)) = H1 at s1 eP
    have PA1 := PA.same s1
    refine ⟨_, rfl, pl, _, _, _, rfl, rfl, SqL.of PA1.o, rfl, q, _, rfl, .inl (SqL.of PA1.q), fun W hW => ?_⟩
    have nPW : P ≠ W := ne_of_none eP hW
    have s2 := same_upd (o := .lst (ws.map V.int)) hW
    have eW : (L2.upd H1 W (.lst (ws.map V.int))) W = some (.lst (ws.map V.int)) := upd_same
    generalize L2.upd H1 W (.lst (ws.map V.int)) = H2 at s2 eW
    replace eP := s2 _ _ eP
    have s12 := s1.trans s2
    have hWH : H W = none := s1.free hW
    replace et := s12 _ _ et
    have ntP : t ≠ P := ne_of et eP (fun z => nomatch z)
    have ntW : t ≠ W := ne_of et eW (fun z => nomatch z)
    have fin : ∀ H' r, L2.Same H H' → H' P = some (.lst ((doP ps d).map ov)) → H' W = some (.lst ((doW ps ws d).map V.int)) → H' r = none → Q (.ref r) (L2.upd H' r (.lst [.ref P, .ref W])) := fun H' r sm e1 e2 hr =>
      k _ r P W (sm.trans (same_upd hr)) (sm.free hr) hP hWH ⟨upd_same, same_upd hr _ _ e1, same_upd hr _ _ e2, TR', n1', n64', lw'⟩
    clear k
    cases d with
    | link i j =>
      have et : H2 t = some (.tup [.str "link", nv i, nv j]) := et
      have i1 : i < ps.length := ok.1
      refine ⟨_, rfl, t, _, _, _, rfl, rfl, SqT.of et, rfl, rfl, _, rfl, iteB (fun _ => ?_) (fun e => absurd e (by decide +kernel))⟩
      refine ⟨_, rfl, t, _, _, _, rfl, rfl, SqT.of et, rfl, _, rfl, _, rfl, t, _, _, _, rfl, rfl, SqT.of et, rfl, P, _, _, _, rfl, rfl, eP, ixN_nat (by omega), ?_⟩
      refine ⟨_, rfl, _, rfl, small (by show 2 ≤ 100000; decide), fun r hr => fin _ r (Same.upd s12 hP) ?_ (by rw [upd_ne nPW.symm]; exact eW) hr⟩
      rw [upd_same]
      show _ = some (HO.lst ((ps.set i (some j)).map ov))
      rw [List.map_set]
      rfl
    | cut i =>
      have et : H2 t = some (.tup [.str "cut", nv i]) := et
      have i1 : i < ps.length := ok
      refine ⟨_, rfl, t, _, _, _, rfl, rfl, SqT.of et, rfl, rfl, _, rfl, iteB (fun e => absurd e (by decide +kernel)) (fun _ => ?_)⟩
      refine ⟨_, rfl, t, _, _, _, rfl, rfl, SqT.of et, rfl, rfl, _, rfl, iteB (fun _ => ?_) (fun e => absurd e (by decide +kernel))⟩
      refine ⟨_, rfl, _, rfl, t, _, _, _, rfl, rfl, SqT.of et, rfl, P, _, _, _, rfl, rfl, eP, ixN_nat (by omega), ?_⟩
      refine ⟨_, rfl, _, rfl, small (by show 2 ≤ 100000; decide), fun r hr => fin _ r (Same.upd s12 hP) ?_ (by rw [upd_ne nPW.symm]; exact eW) hr⟩
      rw [upd_same]
      show _ = some (HO.lst ((ps.set i none).map ov))
      rw [List.map_set]
      rfl
    | turn i =>
      have et : H2 t = some (.tup [.str "turn", nv i]) := et
      have i1 : i < ps.length := ok
      have ch := up_ch PA.TR i1
      refine ⟨_, rfl, t, _, _, _, rfl, rfl, SqT.of et, rfl, rfl, _, rfl, iteB (fun e => absurd e (by decide +kernel)) (fun _ => ?_)⟩
      refine ⟨_, rfl, t, _, _, _, rfl, rfl, SqT.of et, rfl, rfl, _, rfl, iteB (fun e => absurd e (by decide +kernel)) (fun _ => ?_)⟩
      refine ⟨_, rfl, t, _, _, _, rfl, rfl, SqT.of et, rfl, rfl, _, rfl, iteB (fun _ => ?_) (fun e => absurd e (by decide +kernel))⟩
      refine ⟨_, rfl, _, rfl, t, _, _, _, rfl, rfl, SqT.of et, rfl, P, ps, i, rfl, ⟨eP, PA.TR, n64⟩, i1, fun H3 u s3 hu eU => ?_⟩
      replace et := s3 _ _ et
      have eP3 := s3 _ _ eP
      have eW3 := s3 _ _ eW
      have s13 := s12.trans s3
      have nuP : u ≠ P := fun z => by subst z; rw [hu] at eP; cases eP
      have lu : (up ps i).length ≤ ps.length := ch.len
      have l0 : 0 < (up ps i).length := by obtain ⟨r, er⟩ := ch.head; rw [er]; simp
      refine ⟨_, rfl, _, rfl, t, _, _, _, rfl, rfl, SqT.of et, rfl, P, _, _, _, rfl, rfl, eP3, ixN_nat (by omega), ?_⟩
      have s4 : L2.Same H (L2.upd H3 P (.lst ((ps.map ov).set i V.non))) := Same.upd s13 hP
      have e4 : (L2.upd H3 P (.lst ((ps.map ov).set i V.non))) P = some (.lst ((turnAt ps (up ps i) 0).map ov)) := by
        rw [upd_same]
        obtain ⟨r, er⟩ := ch.head
        show _ = some (HO.lst ((ps.set ((up ps i).getD 0 0) none).map ov))
        rw [List.map_set, er]
        rfl
      have eU4 : (L2.upd H3 P (.lst ((ps.map ov).set i V.non))) u = some (.lst ((up ps i).map nv)) := by rw [upd_ne nuP]; exact eU
      have eW4 : (L2.upd H3 P (.lst ((ps.map ov).set i V.non))) W = some (.lst (ws.map V.int)) := by rw [upd_ne nPW.symm]; exact eW3
      generalize L2.upd H3 P (.lst ((ps.map ov).set i V.non)) = H4 at s4 e4 eU4 eW4
      refine ⟨_, rfl, u, _, rfl, .inl (SqL.of eU4), _, _, rfl, rfl, _, rfl, by rw [List.length_map]; omega, by rw [List.length_map]; omega, ?_⟩
      rw [List.length_map, show (((up ps i).length : Int) - 1).toNat = (up ps i).length - 1 by omega]
      refine for_range (lo := 0) (n := (up ps i).length - 1) (fun j σ H' => ∃ v5 v6 : Option V, σ = [some (.ref pl), some (.ref t), some (.ref P), some (.ref W), some (.ref u), v5, v6] ∧ L2.Same H H' ∧ H' P = some (.lst ((turnAt ps (up ps i) j).map ov)) ∧ H' u = some (.lst ((up ps i).map nv)) ∧ H' W = some (.lst (ws.map V.int)))
        ⟨none, none, rfl, s4, e4, eU4, eW4⟩ ?_ ?_
      · rintro j σ H' hj ⟨v5, v6, rfl, sm, q1, q2, q3⟩
        have hj1 : j + 1 < (up ps i).length := by omega
        rw [Int.zero_add]
        have a1 : atI ((up ps i).map nv) (j : Int) = some (nv ((up ps i).getD j 0)) := atI_nat (by rw [List.getElem?_map, getD_of (by omega)]; rfl)
        have a2 : atI ((up ps i).map nv) ((j : Int) + 1) = some (nv ((up ps i).getD (j + 1) 0)) := atI_nat (show ((up ps i).map nv)[j + 1]? = _ by rw [List.getElem?_map, getD_of hj1]; rfl)
        refine ⟨_, rfl, _, rfl, u, _, _, _, rfl, rfl, SqL.of q2, a1, _, rfl, _, rfl, _, rfl, _, _, rfl, rfl, u, _, _, _, rfl, rfl, SqL.of q2, a2, P, _, _, _, rfl, rfl, q1, ixN_nat (by rw [List.length_map, turnAt_len]; exact ch.lt _ (List.mem_of_getElem? (getD_of hj1))), ?_⟩
        refine ⟨_, _, rfl, Same.upd sm hP, ?_, by rw [upd_ne nuP]; exact q2, by rw [upd_ne nPW.symm]; exact q3⟩
        rw [upd_same]
        show _ = some (HO.lst (((turnAt ps (up ps i) j).set ((up ps i).getD (j + 1) 0) (some ((up ps i).getD j 0))).map ov))
        rw [List.map_set]
        rfl
      · rintro σ H' ⟨v5, v6, rfl, sm, q1, q2, q3⟩
        exact ⟨_, rfl, _, rfl, small (by show 2 ≤ 100000; decide), fun r hr => fin _ r sm q1 q3 hr⟩
    | put i v =>
      have et : H2 t = some (.tup [.str "put", nv i, .int v]) := et
      have i1 : i < ps.length := ok
      refine ⟨_, rfl, t, _, _, _, rfl, rfl, SqT.of et, rfl, rfl, _, rfl, iteB (fun e => absurd e (by decide +kernel)) (fun _ => ?_)⟩
      refine ⟨_, rfl, t, _, _, _, rfl, rfl, SqT.of et, rfl, rfl, _, rfl, iteB (fun e => absurd e (by decide +kernel)) (fun _ => ?_)⟩
      refine ⟨_, rfl, t, _, _, _, rfl, rfl, SqT.of et, rfl, rfl, _, rfl, iteB (fun e => absurd e (by decide +kernel)) (fun _ => ?_)⟩
      refine ⟨_, rfl, t, _, _, _, rfl, rfl, SqT.of et, rfl, rfl, _, rfl, iteB (fun _ => ?_) (fun e => absurd e (by decide +kernel))⟩
      refine ⟨_, rfl, t, _, _, _, rfl, rfl, SqT.of et, rfl, _, rfl, _, rfl, t, _, _, _, rfl, rfl, SqT.of et, rfl, W, _, _, _, rfl, rfl, eW, ixN_nat (by omega), ?_⟩
      refine ⟨_, rfl, _, rfl, small (by show 2 ≤ 100000; decide), fun r hr => fin _ r (Same.upd s12 hWH) (by rw [upd_ne nPW]; exact eP) ?_ hr⟩
      rw [upd_same]
      show _ = some (HO.lst ((ws.set i v).map V.int))
      rw [List.map_set]
    | add i j v =>
      have et : H2 t = some (.tup [.str "add", nv i, nv j, .int v]) := et
      obtain ⟨i1, j1⟩ : i < ps.length ∧ j < ps.length := ok
      obtain ⟨m, em⟩ := (fnd_iff PA.TR i1 j1).mpr can
      have ew : wayD ps i j = wayOf (up ps i) (up ps j) m := by unfold wayD; rw [em]
      refine ⟨_, rfl, t, _, _, _, rfl, rfl, SqT.of et, rfl, rfl, _, rfl, iteB (fun e => absurd e (by decide +kernel)) (fun _ => ?_)⟩
      refine ⟨_, rfl, t, _, _, _, rfl, rfl, SqT.of et, rfl, rfl, _, rfl, iteB (fun e => absurd e (by decide +kernel)) (fun _ => ?_)⟩
      refine ⟨_, rfl, t, _, _, _, rfl, rfl, SqT.of et, rfl, rfl, _, rfl, iteB (fun e => absurd e (by decide +kernel)) (fun _ => ?_)⟩
      refine ⟨_, rfl, t, _, _, _, rfl, rfl, SqT.of et, rfl, rfl, _, rfl, iteB (fun e => absurd e (by decide +kernel)) (fun _ => ?_)⟩
      refine ⟨_, rfl, _, rfl, t, _, _, _, rfl, rfl, SqT.of et, rfl, _, rfl, t, _, _, _, rfl, rfl, SqT.of et, rfl, P, ps, i, j, rfl, ⟨eP, PA.TR, n64⟩, i1, j1, fun n => (by rw [em] at n; cases n), fun y e H3 u s3 hu eU => ?_⟩
      rw [em] at e
      cases e
      rw [← ew] at eU
      have nuW : u ≠ W := fun z => by subst z; rw [hu] at eW; cases eW
      refine ⟨u, rfl, ⟨_, SqL.of eU⟩, ?_⟩
      refine for_list (K := K) (a := u) (xs := (wayD ps i j).map nv) (fun c σ H' => ∃ v4 v5 v6 : Option V, σ = [some (.ref pl), some (.ref t), some (.ref P), some (.ref W), v4, v5, v6] ∧ L2.Same H H' ∧ H' t = some (.tup [.str "add", nv i, nv j, .int v]) ∧ H' P = some (.lst (ps.map ov)) ∧ H' u = some (.lst ((wayD ps i j).map nv)) ∧ H' W = some (.lst ((addW ws v ((wayD ps i j).take c)).map V.int)))
        ⟨none, none, none, rfl, s12.trans s3, s3 _ _ et, s3 _ _ eP, eU, s3 _ _ eW⟩ (fun c σ H' _ ⟨_, _, _, _, _, _, _, q, _⟩ => SqL.of q) ?_ ?_
      · rintro c y σ H' hy ⟨v4, v5, v6, rfl, sm, q0, q1, q2, q3⟩
        rw [List.getElem?_map] at hy
        cases hz : (wayD ps i j)[c]? with
        | none => rw [hz] at hy; cases hy
        | some z =>
          rw [hz] at hy
          have ez : y = nv z := (Option.some.inj hy).symm
          subst ez
          have zl : z < (addW ws v ((wayD ps i j).take c)).length := by rw [addW_len, lw]; exact way_mem PA.TR i1 j1 z (List.mem_of_getElem? hz)
          have a1 : atI ((addW ws v ((wayD ps i j).take c)).map V.int) (z : Int) = some (.int ((addW ws v ((wayD ps i j).take c)).getD z 0)) := atI_nat (by rw [List.getElem?_map, List.getD_eq_getElem?_getD, List.getElem?_eq_getElem zl]; rfl)
          refine ⟨_, rfl, _, rfl, W, _, _, _, rfl, rfl, SqL.of q3, a1, _, rfl, t, _, _, _, rfl, rfl, SqT.of q0, rfl, _, _, rfl, rfl, _, rfl, _, rfl, W, _, _, _, rfl, rfl, q3, ixN_nat (by rw [List.length_map]; exact zl), ?_⟩
          refine ⟨_, _, _, rfl, Same.upd sm hWH, by rw [upd_ne ntW]; exact q0, by rw [upd_ne nPW]; exact q1, by rw [upd_ne nuW]; exact q2, ?_⟩
          rw [upd_same, List.take_add_one, hz]
          show _ = some (HO.lst ((addW ws v ((wayD ps i j).take c ++ [z])).map V.int))
          rw [addW_snoc, List.map_set]
      · rintro σ H' ⟨v4, v5, v6, rfl, sm, q0, q1, q2, q3⟩
        rw [List.length_map, List.take_length] at q3
        exact ⟨_, rfl, _, rfl, small (by show 2 ≤ 100000; decide), fun r hr => fin _ r sm q1 q3 hr⟩

end
end W2
namespace W2
open PySem PySem.Spec PyProof.Rows L2
section
variable {P : Program} {w : World} {K : PySem.W.Frag} {mg : Str → Option Value} {base : Heap} {C fI CN fN CD fD fF t1 t2 t3 t4 t5 : Addr}
theorem ok_ldeed (D : Def K mg "_law_deed" s_ldeed ["_law_hand_here", "_law_plain_here"]) (T : Txt K mg) (C_take : Cal P w K mg base 1 "_law_take" ["_law_hand_here", "_law_size"] spTake) (C_lroot : Cal P w K mg base 2 "_law_root" ["_law_parents_here", "_law_house"] spLRoot) (C_value : Cal P w K mg base 3 "_law_value" ["_law_hand_here"] spValue) (C_lcommon : Cal P w K mg base 2 "_law_common" ["_law_parents_here", "_law_one", "_law_other"] spLCommon) : Cal P w K mg base 4 "_law_deed" ["_law_hand_here", "_law_plain_here"] spLDeed := by
  refine D.cal sc_ldeed (fun vs H Q E h => ?_) (fun f cdv A outer s H vs Q E hr h => ?_)
  · obtain ⟨h, l, pl, p, q, ps, ws, rfl, _⟩ := h
    rfl
  · obtain ⟨h, l, pl, p, q, ps, ws, rfl, HH, PA, npl, np, nq, k⟩ := h
    have n1 := PA.n1
    have n64 := PA.n64
    refine ⟨_, (pss_cons (ps_set (i := 2) sc_ldeed.nd rfl (Or.inl rfl) (pe_ix (ix_listK (K := K) rfl) (pv 1) pe_int (fun _ _ => rfl)))
      (pss_cons (ps_set (i := 3) sc_ldeed.nd rfl (Or.inl rfl) (pe_callB (call_lenK (K := K) rfl) (by rfl) T.n_len PySem.boot_len (pa_cons (pv 2) pa_nil)))
      (pss_cons (ps_set (i := 4) sc_ldeed.nd rfl (Or.inl rfl) (pcal C_take hr (by decide) rfl (pa_cons (pv 0) (pa_cons (pv 3) pa_nil))))
      (pss_cons (ps_set (i := 5) sc_ldeed.nd rfl (Or.inl rfl) (pcal C_take hr (by decide) rfl (pa_cons (pv 0) (pa_cons (pv 3) pa_nil))))
      (pss_cons (ps_set (i := 6) sc_ldeed.nd rfl (Or.inl rfl) (pcal C_take hr (by decide) rfl (pa_cons (pv 0) (pa_cons pe_int pa_nil))))
      (C8.pss_cut (ps_if (pt_cmpR op_lt (pv 6) pe_int (nomark _)) (pss_cons (ps_set (i := 7) sc_ldeed.nd rfl (Or.inl rfl) (pcal C_lroot hr (by decide) rfl (pa_cons (pv 2) (pa_cons (pv 4) pa_nil))))
      (pss_one (ps_if (pt_cmpR op_ne (pcal C_lroot hr (by decide) rfl (pa_cons (pv 2) (pa_cons (pv 5) pa_nil))) (pv 7) (nomark _)) (pss_one (ps_ret (pe_tup (pa_cons pe_str (pa_cons (pv 7) (pa_cons (pv 5) pa_nil)))))) pss_nil))) pss_nil)
      (C8.pss_cut (ps_if (PW.pt (pw_and (pt_cmpR op_lt (pv 6) pe_int (nomark _)) (pw_and1 (pt_cmpR op_notN (pe_ix (ix_listK (K := K) rfl) (pv 2) (pv 4) (fun _ _ => rfl)) pe_non (nomark _))))) (pss_one (ps_ret (pe_tup (pa_cons pe_str (pa_cons (pv 4) pa_nil))))) pss_nil)
      (pss_cons (ps_if (pt_cmpR op_eq (pv 6) pe_int (nomark _)) (pss_one (ps_ret (pe_tup (pa_cons pe_str (pa_cons (pv 4) (pa_cons (pcal C_value hr (by decide) rfl (pa_cons (pv 0) pa_nil)) pa_nil)))))) pss_nil)
      (C8.pss_cut (ps_if (PW.pt (pw_and (pt_cmpR op_eq (pv 6) pe_int (nomark _)) (pw_and1 (pt_cmpR op_notN (pcal C_lcommon hr (by decide) rfl (pa_cons (pv 2) (pa_cons (pv 4) (pa_cons (pv 5) pa_nil)))) pe_non (nomark _))))) (pss_one (ps_ret (pe_tup (pa_cons pe_str (pa_cons (pv 4) (pa_cons (pv 5) (pa_cons (pcal C_value hr (by decide) rfl (pa_cons (pv 0) pa_nil)) pa_nil))))))) pss_nil)
      (pss_cons (ps_if (pt_cmpR op_eq (pv 6) pe_int (nomark _)) (pss_one (ps_ret (pe_tup (pa_cons pe_str (pa_cons (pv 4) (pa_cons (pv 4) (pa_cons (pcal C_value hr (by decide) rfl (pa_cons (pv 0) pa_nil)) pa_nil))))))) pss_nil)
      (pss_one (ps_ret (pe_tup (pa_cons pe_str (pa_cons (pv 4) pa_nil))))))))))))))), ?_⟩
    refine ⟨_, rfl, pl, _, _, _, rfl, rfl, SqL.of PA.o, rfl, ?_⟩
    refine ⟨_, rfl, p, _, rfl, .inl (SqL.of PA.p), ?_⟩
    rw [List.length_map]
    refine ⟨_, rfl, _, rfl, h, l, _, rfl, HH, by omega, by omega, fun H1 r1 b1 hh1 r10 r11 => ?_⟩
    obtain ⟨a, rfl⟩ : ∃ n : Nat, r1 = (n : Int) := ⟨r1.toNat, by omega⟩
    refine ⟨_, rfl, _, rfl, h, l, _, rfl, hh1, by omega, by omega, fun H2 r2 b2 hh2 r20 r21 => ?_⟩
    obtain ⟨c, rfl⟩ : ∃ n : Nat, r2 = (n : Int) := ⟨r2.toNat, by omega⟩
    refine ⟨_, rfl, h, l, 8, rfl, hh2, by decide, by decide, fun H3 tn b3 hh3 t0 t1 => ?_⟩
    have b := (b1.trans b2).trans b3
    have PA3 := PA.bt npl np nq b
    have al : a < ps.length := by omega
    have cl : c < ps.length := by omega
    have fin : ∀ H' H'' t d, L2.Same H3 H' → Bt h H' H'' → Hand H'' h l → H'' t = none → Q (.ref t) (L2.upd H'' t (.tup (enc d))) := fun H' H'' t d sm bt hh ht => k _ _ d ((b.trans ((Bt.of sm).trans bt)).new ht) (hh.upd ht) ⟨t, rfl, upd_same⟩
    clear k
    refine ⟨fun σ H' => ∃ v7 : Option V, σ = [some (.ref h), some (.ref pl), some (.ref p), some (nv ps.length), some (nv a), some (nv c), some (.int tn), v7] ∧ L2.Same H3 H', ?_, ?_⟩
    · refine ⟨_, rfl, _, _, rfl, rfl, _, rfl, iteB (fun _ => ?_) (fun _ => ⟨none, rfl, L2.Same.refl _⟩)⟩
      refine ⟨_, rfl, _, rfl, p, ps, a, rfl, PA3.pl', al, fun H4 s4 => ?_⟩
      refine ⟨_, rfl, _, rfl, p, ps, c, rfl, PA3.pl'.same s4, cl, fun H5 s5 => ⟨_, rfl, rfl, _, rfl, iteB (fun _ => ?_) (fun _ => ⟨_, rfl, s4.trans s5⟩)⟩⟩
      exact ⟨_, rfl, _, rfl, small (by show 3 ≤ 100000; decide), fun t ht => fin H5 H5 t (.link (rt ps a) c) (s4.trans s5) (Bt.refl _ _) ((hh3.same s4).same s5) ht⟩
    rintro σ H4 ⟨v7, rfl, s4⟩
    have hh4 := hh3.same s4
    have PA4 := PA3.same s4
    obtain ⟨o, eo⟩ := tree_at al
    refine ⟨fun σ H' => σ = [some (.ref h), some (.ref pl), some (.ref p), some (nv ps.length), some (nv a), some (nv c), some (.int tn), v7] ∧ H' = H4, ?_, ?_⟩
    · refine ⟨_, rfl, _, _, rfl, rfl, _, rfl, iteB (fun _ => ?_) (fun _ => ⟨rfl, rfl⟩)⟩
      refine ⟨_, rfl, _, rfl, p, _, _, _, rfl, rfl, SqL.of PA4.p, at_ov eo, rfl, _, rfl, iteB (fun _ => ?_) (fun _ => ⟨rfl, rfl⟩)⟩
      exact ⟨_, rfl, small (by show 2 ≤ 100000; decide), fun t ht => fin H4 H4 t (.cut a) s4 (Bt.refl _ _) hh4 ht⟩
    rintro σ H' ⟨rfl, rfl⟩
    refine ⟨_, rfl, rfl, _, rfl, iteB (fun _ => ?_) (fun _ => ?_)⟩
    · exact ⟨_, rfl, _, rfl, h, l, rfl, hh4, fun H5 v b5 hh5 => ⟨small (by show 3 ≤ 100000; decide), fun t ht => fin H' H5 t (.put a v) s4 b5 hh5 ht⟩⟩
    refine ⟨fun σ H6 => σ = [some (.ref h), some (.ref pl), some (.ref p), some (nv ps.length), some (nv a), some (nv c), some (.int tn), v7] ∧ L2.Same H' H6, ?_, ?_⟩
    · refine ⟨_, rfl, rfl, _, rfl, iteB (fun _ => ?_) (fun _ => ⟨rfl, L2.Same.refl _⟩)⟩
      refine ⟨_, rfl, _, rfl, _, rfl, p, ps, a, c, rfl, PA4.pl', al, cl, fun H5 s5 => ⟨rfl, _, rfl, iteB (fun _ => ?_) (fun _ => ⟨rfl, s5⟩)⟩⟩
      exact ⟨_, rfl, _, rfl, _, rfl, h, l, rfl, hh4.same s5, fun H6 v b6 hh6 => ⟨small (by show 4 ≤ 100000; decide), fun t ht => fin H5 H6 t (.add a c v) (s4.trans s5) b6 hh6 ht⟩⟩
    rintro σ H6 ⟨rfl, s6⟩
    have hh6 := hh4.same s6
    refine ⟨_, rfl, rfl, _, rfl, iteB (fun _ => ?_) (fun _ => ?_)⟩
    · exact ⟨_, rfl, _, rfl, _, rfl, h, l, rfl, hh6, fun H7 v b7 hh7 => ⟨small (by show 4 ≤ 100000; decide), fun t ht => fin H6 H7 t (.add a a v) (s4.trans s6) b7 hh7 ht⟩⟩
    · exact ⟨_, rfl, small (by show 2 ≤ 100000; decide), fun t ht => fin H6 H6 t (.turn a) (s4.trans s6) (Bt.refl _ _) hh6 ht⟩

end
end W2
namespace W2
open PySem PySem.Spec PyProof.Rows L2
section
variable {P : Program} {w : World} {K : PySem.W.Frag} {mg : Str → Option Value} {base : Heap} {C fI CN fN CD fD fF t1 t2 t3 t4 t5 : Addr}
theorem ok_bent (D : Def K mg "_law_bent" s_bent ["_law_hand_here", "_law_thing"]) (T : Txt K mg) (C_take : Cal P w K mg base 1 "_law_take" ["_law_hand_here", "_law_size"] spTake) (C_pick : Cal P w K mg base 2 "_law_pick" ["_law_hand_here", "_law_things"] spPick) (C_odd : Cal P w K mg base 2 "_law_odd" ["_law_hand_here"] (spOdd C)) : Cal P w K mg base 3 "_law_bent" ["_law_hand_here", "_law_thing"] (spBent C) := by
  refine D.cal sc_bent (fun vs H Q E h => ?_) (fun f cdv A outer s H vs Q E hr h => ?_)
  · obtain ⟨h, l, x, d, rfl, _⟩ := h
    rfl
  · obtain ⟨h, l, x, d, rfl, HH, ⟨t, rfl, et⟩, k⟩ := h
    have Ln2 : 2 ≤ (enc d).length := by cases d <;> simp [enc]
    have Ln4 : (enc d).length ≤ 4 := by cases d <;> simp [enc]
    have an : ∀ {H' : Hp}, ∀ y ∈ enc d, Any C h H' y := fun {H'} y hy => enc_any d y hy
    refine ⟨_, (pss_cons (ps_set (i := 2) sc_bent.nd rfl (Or.inl rfl) (pcal C_take hr (by decide) rfl (pa_cons (pv 0) (pa_cons pe_int pa_nil))))
      (pss_cons (ps_if (pt_cmpR op_eq (pv 2) pe_int (nomark _)) (pss_one (ps_ret (pcal C_pick hr (by decide) rfl (pa_cons (pv 0) (pa_cons (pe_lst (pa_cons (pcal C_odd hr (by decide) rfl (pa_cons (pv 0) pa_nil)) (pa_cons (pe_callTy call_list_of (by rfl) T.n_list (by decide +kernel) (pa_cons (pv 1) pa_nil)) (pa_cons (pe_op op_catA (pv 1) (pe_tup (pa_cons pe_int pa_nil))) (pa_cons (pe_slice sl_tup (pv 1) po_none (po_some (pe_op op_sub (pe_callB (call_lenK (K := K) rfl) (by rfl) T.n_len PySem.boot_len (pa_cons (pv 1) pa_nil)) pe_int))) (pa_cons (pe_slice sl_tup (pv 1) po_none (po_some pe_int)) pa_nil)))))) pa_nil))))) pss_nil)
      (pss_cons (ps_if (pt_cmpR op_eq (pv 2) pe_int (nomark _)) (pss_one (ps_ret (pe_op op_catA (pe_tup (pa_cons (pcal C_pick hr (by decide) rfl (pa_cons (pv 0) (pa_cons (pe_lst (pa_cons pe_str (pa_cons pe_str (pa_cons pe_str (pa_cons pe_str (pa_cons pe_str (pa_cons pe_str (pa_cons pe_str (pa_cons pe_str (pa_cons pe_str (pa_cons pe_non (pa_cons pe_int pa_nil)))))))))))) pa_nil))) pa_nil)) (pe_slice sl_tup (pv 1) (po_some pe_int) po_none)))) pss_nil)
      (pss_cons (ps_set (i := 3) sc_bent.nd rfl (Or.inl rfl) (pe_op op_add pe_int (pcal C_take hr (by decide) rfl (pa_cons (pv 0) (pa_cons (pe_op op_sub (pe_callB (call_lenK (K := K) rfl) (by rfl) T.n_len PySem.boot_len (pa_cons (pv 1) pa_nil)) pe_int) pa_nil)))))
      (pss_cons (ps_set (i := 4) sc_bent.nd rfl (Or.inl rfl) (pe_lst (pa_cons (pcal C_odd hr (by decide) rfl (pa_cons (pv 0) pa_nil)) (pa_cons (pe_un un_neg pe_int) (pa_cons pe_int (pa_cons pe_bl (pa_cons pe_non (pa_cons pe_int (pa_cons pe_str (pa_cons (pe_op op_pow pe_int pe_int) (pa_cons (pe_ix (ix_tupK (K := K) rfl) (pv 1) (pv 3) (fun _ _ => rfl)) (pa_cons pe_int pa_nil))))))))))))
      (pss_one (ps_ret (pe_op op_catA (pe_op op_catA (pe_slice sl_tup (pv 1) po_none (po_some (pv 3))) (pe_tup (pa_cons (pcal C_pick hr (by decide) rfl (pa_cons (pv 0) (pa_cons (pv 4) pa_nil))) pa_nil))) (pe_slice sl_tup (pv 1) (po_some (pe_op op_add (pv 3) pe_int)) po_none))))))))), ?_⟩
    refine ⟨_, rfl, h, l, 9, rfl, HH, by decide, by decide, fun H1 tn b1 hh1 t0 t1 => ?_⟩
    obtain ⟨lh, eh⟩ := HH.lst
    have et1 : H1 t = some (.tup (enc d)) := b1 _ _ (ne_of et eh (fun z => nomatch z)) et
    obtain ⟨lh1, eh1⟩ := hh1.lst
    have nth : t ≠ h := ne_of et1 eh1 (fun z => nomatch z)
    have fin : ∀ H' y, Bt h H1 H' → Hand H' h l → Thing C h H' y → Q y H' := fun H' y b hh th => k H' y (b1.trans b) hh th
    clear k
    refine ⟨_, rfl, rfl, _, rfl, iteB (fun _ => ?_) (fun _ => ?_)⟩
    · -- turn 0
      refine ⟨_, rfl, _, rfl, h, l, rfl, hh1, fun H2 y b2 hh2 Y => ?_⟩
      have et2 := b2 _ _ nth et1
      refine ⟨_, rfl, t, _, rfl, .inr (SqT.of et2), fun t3 h3 => ?_⟩
      have s3 := same_upd (o := .lst (enc d)) h3
      have e3 : (L2.upd H2 t3 (.lst (enc d))) t3 = some (.lst (enc d)) := upd_same
      have n3 := hh2.nn h3
      generalize L2.upd H2 t3 (.lst (enc d)) = H3 at s3 e3
      refine ⟨_, rfl, t1_ok fun H4 t4 s4 e4 => catA_of (s4 _ _ (s3 _ _ et2)) e4 (by show (enc d).length + 1 ≤ 100000; omega) fun t5 H5 s5 e5 => ?_⟩
      have z5 := s3.trans (s4.trans s5)
      have et5 := z5 _ _ et2
      refine ⟨_, rfl, ?_⟩
      unfold tNoPart
      refine ⟨_, rfl, t, _, rfl, .inr (SqT.of et5), _, _, rfl, rfl, _, rfl, ?_⟩
      rw [show ((enc d).length : Int) - 1 = (((enc d).length - 1 : Nat) : Int) by omega]
      show rSlT K (V.ref t) none (some (((enc d).length - 1 : Nat) : Int)) H5 _
      refine slT_of et5 (six_to _ _ (by omega)) fun t6 h6 => ?_
      have s6 := same_upd (o := .tup (cutV (enc d) none (some (((enc d).length - 1 : Nat) : Int)))) h6
      have e6 : (L2.upd H5 t6 (.tup (cutV (enc d) none (some (((enc d).length - 1 : Nat) : Int))))) t6 = some (.tup ((enc d).take ((enc d).length - 1))) := by rw [upd_same, cut_to _ _ (by omega)]
      generalize L2.upd H5 t6 (.tup (cutV (enc d) none (some (((enc d).length - 1 : Nat) : Int)))) = H6 at s6 e6
      have et6 := s6 _ _ et5
      refine ⟨_, rfl, 1, rfl, ?_⟩
      show rSlT K (V.ref t) none (some 1) H6 _
      refine slT_of et6 (six_to _ 1 (by omega)) fun t7 h7 => ?_
      have s7 := same_upd (o := .tup (cutV (enc d) none (some 1))) h7
      have e7 : (L2.upd H6 t7 (.tup (cutV (enc d) none (some 1)))) t7 = some (.tup ((enc d).take 1)) := by rw [upd_same, show cutV (enc d) none (some (1 : Int)) = (enc d).take 1 from cut_to _ 1 (by omega)]
      generalize L2.upd H6 t7 (.tup (cutV (enc d) none (some 1))) = H7 at s7 e7
      have z7 := z5.trans (s6.trans s7)
      have hh7 := hh2.same z7
      refine ⟨small (by show 5 ≤ 100000; decide), fun t8 h8 => ?_⟩
      have s8 := same_upd (o := .lst [y, V.ref t3, V.ref t5, V.ref t6, V.ref t7]) h8
      have hh8 := hh7.same s8
      refine ⟨h, l, t8, _, rfl, hh8, upd_same, hh7.nn h8, by simp, by simp, fun H9 w b9 hh9 hw => ?_⟩
      refine fin H9 w ((b2.trans (Bt.of (z7.trans s8))).trans b9) hh9 (Thing.go ?_ hh8 b9)
      simp only [List.mem_cons, List.not_mem_nil, or_false] at hw
      rcases hw with rfl | rfl | rfl | rfl | rfl
      · exact Y.same (z7.trans s8)
      · exact .lst n3 (s8 _ _ (s7 _ _ (s6 _ _ (s5 _ _ (s4 _ _ e3)))))
      · refine .tup (s8 _ _ (s7 _ _ (s6 _ _ e5))) fun v hv => ?_
        rcases List.mem_append.mp hv with hv | hv
        · exact an v hv
        · rw [List.mem_singleton] at hv
          subst hv
          exact .int _
      · exact .tup (s8 _ _ (s7 _ _ e6)) fun v hv => an v (List.mem_of_mem_take hv)
      · exact .tup (s8 _ _ e7) fun v hv => an v (List.mem_of_mem_take hv)
    refine ⟨_, rfl, rfl, _, rfl, iteB (fun _ => ?_) (fun _ => ?_)⟩
    · -- turn 1
      refine ⟨_, rfl, small (by show 11 ≤ 100000; decide), fun t2 h2 => ?_⟩
      have s2 := same_upd (o := .lst [V.str "Cut", V.str "link", V.str "add", V.str "way", V.str "at", V.str "reach", V.str "where", V.str "put", V.str "", V.non, V.int 1]) h2
      have hh2 := hh1.same s2
      refine ⟨h, l, t2, _, rfl, hh2, upd_same, hh1.nn h2, by simp, by simp, fun H3 w b3 hh3 hw => ?_⟩
      have wa : ∀ {H' : Hp}, Any C h H' w := fun {H'} => by
        simp only [List.mem_cons, List.not_mem_nil, or_false] at hw
        rcases hw with rfl | rfl | rfl | rfl | rfl | rfl | rfl | rfl | rfl | rfl | rfl
        all_goals first | exact .str _ | exact .non | exact .int _
      have b23 := (Bt.of (h := h) s2).trans b3
      have et3 := b23 _ _ nth et1
      refine ⟨small (by show 1 ≤ 100000; decide), fun t4 h4 => ?_⟩
      have s4 := same_upd (o := .tup [w]) h4
      have e4 : (L2.upd H3 t4 (.tup [w])) t4 = some (.tup [w]) := upd_same
      generalize L2.upd H3 t4 (.tup [w]) = H4 at s4 e4
      have et4 := s4 _ _ et3
      refine ⟨_, rfl, 1, rfl, ?_⟩
      unfold tNoPart
      show rSlT K (V.ref t) (some 1) none H4 _
      refine slT_of et4 (six_from _ 0 (by omega)) fun t5 h5 => ?_
      have s5 := same_upd (o := .tup (cutV (enc d) (some 1) none)) h5
      have e5 : (L2.upd H4 t5 (.tup (cutV (enc d) (some 1) none))) t5 = some (.tup ((enc d).drop 1)) := by rw [upd_same, show cutV (enc d) (some (1 : Int)) none = (enc d).drop 1 from cut_from _ 1 (by omega)]
      generalize L2.upd H4 t5 (.tup (cutV (enc d) (some 1) none)) = H5 at s5 e5
      refine catA_of (s5 _ _ e4) e5 (by rw [List.length_drop]; show 1 + _ ≤ 100000; omega) fun t6 H6 s6 e6 => ?_
      have z := s4.trans (s5.trans s6)
      refine fin H6 _ (b23.trans (Bt.of z)) (hh3.same z) (.tup e6 fun v hv => ?_)
      rcases List.mem_append.mp hv with hv | hv
      · rw [List.mem_singleton] at hv
        subst hv
        exact wa
      · exact an v (List.mem_of_mem_drop hv)
    -- at a place
    refine ⟨_, rfl, _, rfl, t, _, rfl, .inr (SqT.of et1), _, _, rfl, rfl, h, l, _, rfl, hh1, by omega, by omega, fun H2 r b2 hh2 r0 r1 => ⟨_, _, rfl, rfl, ?_⟩⟩
    obtain ⟨at_, ea⟩ : ∃ n : Nat, 1 + r = (n : Int) := ⟨(1 + r).toNat, by omega⟩
    change gName 3 (V.int (1 + r)) _ _ _
    rw [ea]
    have al : at_ < (enc d).length := by omega
    have et2 := b2 _ _ nth et1
    refine ⟨_, rfl, h, l, rfl, hh2, fun H3 y b3 hh3 Y => ?_⟩
    have et3 := b3 _ _ nth et2
    have ei : (enc d)[at_]? = some (enc d)[at_] := List.getElem?_eq_getElem al
    have ii : (enc d)[at_] ∈ enc d := List.getElem_mem al
    generalize (enc d)[at_] = it at ei ii
    refine ⟨1, rfl, 10, 19, rfl, rfl, ⟨by decide, by decide, by decide⟩, _, rfl, _, rfl, t, _, _, _, rfl, rfl, SqT.of et3, atI_nat ei, small (by show 10 ≤ 100000; decide), fun tm hm => ?_⟩
    have s4 := same_upd (o := .lst [y, V.int (-1), V.int 64, V.bl true, V.non, V.int 0, V.str "least", V.int (10 ^ Int.toNat 19), it, V.int 0]) hm
    have em : (L2.upd H3 tm (.lst [y, V.int (-1), V.int 64, V.bl true, V.non, V.int 0, V.str "least", V.int (10 ^ Int.toNat 19), it, V.int 0])) tm = some (.lst [y, V.int (-1), V.int 64, V.bl true, V.non, V.int 0, V.str "least", V.int (10 ^ Int.toNat 19), it, V.int 0]) := upd_same
    have Y4 := Y.same s4
    have nm := hh3.nn hm
    have hh4 := hh3.same s4
    generalize L2.upd H3 tm (.lst [y, V.int (-1), V.int 64, V.bl true, V.non, V.int 0, V.str "least", V.int (10 ^ Int.toNat 19), it, V.int 0]) = H4 at s4 em Y4 hh4
    have et4 := s4 _ _ et3
    have b14 := (b2.trans b3).trans (Bt.of (h := h) s4)
    refine ⟨_, rfl, ?_⟩
    unfold tNoPart
    refine ⟨_, rfl, at_, rfl, ?_⟩
    show rSlT K (V.ref t) none (some (at_ : Int)) H4 _
    refine slT_of et4 (six_to _ _ al) fun t5 h5 => ?_
    have s5 := same_upd (o := .tup (cutV (enc d) none (some (at_ : Int)))) h5
    have e5 : (L2.upd H4 t5 (.tup (cutV (enc d) none (some (at_ : Int))))) t5 = some (.tup ((enc d).take at_)) := by rw [upd_same, cut_to _ _ (by omega)]
    generalize L2.upd H4 t5 (.tup (cutV (enc d) none (some (at_ : Int)))) = H5 at s5 e5
    have hh5 := hh4.same s5
    obtain ⟨lh5, eh5⟩ := hh5.lst
    have n5 : t5 ≠ h := ne_of e5 eh5 (fun z => nomatch z)
    refine ⟨_, rfl, _, rfl, h, l, tm, _, rfl, hh5, s5 _ _ em, nm, by simp, by simp, fun H6 w b6 hh6 hw => ?_⟩
    have W : Any C h H6 w := by
      refine Any.bt ?_ eh5 b6
      simp only [List.mem_cons, List.not_mem_nil, or_false] at hw
      rcases hw with rfl | rfl | rfl | rfl | rfl | rfl | rfl | rfl | rfl | rfl
      · exact (Y4.same s5).any
      all_goals first | exact .int _ | exact .bl _ | exact .non | exact .str _ | exact an _ ii
    have e6 := b6 _ _ n5 e5
    have et6 := b6 _ _ nth (s5 _ _ et4)
    have b16 := (b14.trans (Bt.of (h := h) s5)).trans b6
    refine ⟨small (by show 1 ≤ 100000; decide), fun t7 h7 => ?_⟩
    have s7 := same_upd (o := .tup [w]) h7
    refine catA_of (s7 _ _ e6) upd_same (by rw [List.length_take]; show min _ _ + 1 ≤ 100000; omega) fun t8 H8 s8 e8 => ?_
    have z8 := s7.trans s8
    have et8 := z8 _ _ et6
    refine ⟨_, rfl, _, rfl, _, _, rfl, rfl, _, rfl, ?_⟩
    show rSlT K (V.ref t) (some ((at_ : Int) + 1)) none H8 _
    refine slT_of et8 (six_from _ at_ al) fun t9 h9 => ?_
    have s9 := same_upd (o := .tup (cutV (enc d) (some ((at_ : Int) + 1)) none)) h9
    have e9 : (L2.upd H8 t9 (.tup (cutV (enc d) (some ((at_ : Int) + 1)) none))) t9 = some (.tup ((enc d).drop (at_ + 1))) := by
      rw [upd_same, show cutV (enc d) (some ((at_ : Int) + 1)) none = (enc d).drop (at_ + 1) from cut_from _ (at_ + 1) (by omega)]
    generalize L2.upd H8 t9 (.tup (cutV (enc d) (some ((at_ : Int) + 1)) none)) = H9 at s9 e9
    refine catA_of (s9 _ _ e8) e9 (by rw [List.length_append, List.length_take, List.length_drop]; show min _ _ + 1 + _ ≤ 100000; omega) fun t10 H10 s10 e10 => ?_
    have z10 := z8.trans (s9.trans s10)
    refine fin H10 _ (b16.trans (Bt.of z10)) (hh6.same z10) (.tup e10 fun v hv => ?_)
    rcases List.mem_append.mp hv with hv | hv
    · rcases List.mem_append.mp hv with hv | hv
      · exact an v (List.mem_of_mem_take hv)
      · rw [List.mem_singleton] at hv
        subst hv
        exact W.same z10
    · exact an v (List.mem_of_mem_drop hv)

end
end W2
namespace W2
open PySem PySem.Spec PyProof.Rows L2
section
variable {P : Program} {w : World} {K : PySem.W.Frag} {mg : Str → Option Value} {base : Heap} {C fI CN fN CD fD fF t1 t2 t3 t4 t5 : Addr}
theorem ok_told (D : Def K mg "_law_told" s_told ["_law_forest", "_law_thing"]) (T : Txt K mg) (C_behind : CalX P w K mg base 9 "behind" ["forest", "deed"] (spBehind C CN)) (FC : ForC K mg C fI) (FN : PySem.XNoDeed.TxtNoDeed K mg CN fN) : Cal P w K mg base 10 "_law_told" ["_law_forest", "_law_thing"] (spTold C) := by
  refine D.cal sc_told (fun vs H Q E h => ?_) (fun f cdv A outer s H vs Q E hr h => ?_)
  · obtain ⟨h, f, ps, ws, x, rfl, _⟩ := h
    rfl
  · obtain ⟨h, f, ps, ws, x, rfl, FR, th, kY, kN⟩ := h
    refine ⟨_, (pss_one (ps_try_only (tb := fun W => tSeq (tAsg (tCallS (spBehind C CN) (WE W) (tCons (tVar 0) (tCons (tVar 1) tNil))) (gName 2)) (tRet (tTup (tCons (tC (.str "told")) (tCons (tFld K (tVar 2) "parents") (tCons (tFld K (tVar 2) "worths") tNil)))))) (ts := fun a cls d => tRet (tTup (tCons (tC (.str "NoDeed")) tNil))) (Wout := fun _ _ _ _ => False) rfl rfl ⟨rfl, by decide, Or.inl FN.gC⟩ takes0
      (fun W pn xe tk _ => pss_cons (ps_set (i := 2) sc_told.nd rfl (Or.inl rfl) (pcalS C_behind hr (by decide) rfl tk (by exact (pa_cons (pv 0) (pa_cons (pv 1) pa_nil))))) (pss_one (ps_ret (pe_tup (pa_cons pe_str (pa_cons (pe_fld (pv 2) rfl) (pa_cons (pe_fld (pv 2) rfl) pa_nil)))))))
      (fun a oe cls d pn hz hf => pss_one (ps_ret (pe_tup (pa_cons pe_str pa_nil)))))), ?_⟩
    refine ⟨_, rfl, _, rfl, h, f, ps, ws, x, rfl, FR, th, fun d fo c H1 g s1 F1 => ?_, fun n H1 s1 => ?_⟩
    · obtain ⟨dx, a, b, F⟩ := F1
      refine ⟨_, rfl, g, C, dx, _, _, rfl, F.o, FC.own.cl, FC.nP, pf_parents a b, _, rfl, g, C, dx, _, _, rfl, F.o, FC.own.cl, FC.nW, pf_worths a b, small (by show 3 ≤ 100000; decide), fun t ht => ?_⟩
      have s := same_upd (o := .tup [V.str "told", V.ref a, V.ref b]) ht
      exact kY d fo c _ t (s1.trans s) ⟨a, b, upd_same, s _ _ F.p, s _ _ F.w⟩
    · refine ⟨true, FN.te, fun _ a0 _ => ?_, fun q => Bool.noConfusion q⟩
      exact ⟨small (by show 1 ≤ 100000; decide), fun t ht => kN n _ t (s1.trans (same_upd ht)) upd_same⟩

end
end W2
namespace W2
open PySem PySem.Spec PyProof.Rows L2
section
variable {P : Program} {w : World} {K : PySem.W.Frag} {mg : Str → Option Value} {base : Heap} {C fI CN fN CD fD fF t1 t2 t3 t4 t5 : Addr}
theorem ok_ledtold (D : Def K mg "_law_led_told" s_ledtold ["_law_forest", "_law_deeds"]) (T : Txt K mg) (C_led : CalX P w K mg base 9 "led" ["forest", "deeds"] (spLed C CD)) (FC : ForC K mg C fI) (FB : PySem.XBadDeeds.TxtBadDeeds K mg CD fD) : Cal P w K mg base 10 "_law_led_told" ["_law_forest", "_law_deeds"] (spLedTold C) := by
  refine D.cal sc_ledtold (fun vs H Q E h => ?_) (fun f cdv A outer s H vs Q E hr h => ?_)
  · obtain ⟨h, f, ps, ws, y, rfl, _⟩ := h
    rfl
  · obtain ⟨h, f, ps, ws, y, rfl, FR, hy⟩ := h
    refine ⟨_, (pss_one (ps_try_as (i := 3) (tb := fun W => tSeq (tAsg (tCallS (spLed C CD) (WE W) (tCons (tVar 0) (tCons (tVar 1) tNil))) (gName 2)) (tRet (tTup (tCons (tC (.str "told")) (tCons (tFld K (tVar 2) "parents") (tCons (tFld K (tVar 2) "worths") tNil)))))) (ts := fun a cls d => tRet (tTup (tCons (tC (.str "BadDeeds")) (tCons (tBy_BadDeeds CD a cls d (tVar 3)) tNil)))) (Wout := fun _ _ _ _ => False) rfl rfl sc_ledtold.nd rfl rfl ⟨rfl, by decide, Or.inl FB.gC⟩ takes0
      (fun W pn xe tk _ => pss_cons (ps_set (i := 2) sc_ledtold.nd rfl (Or.inl rfl) (pcalS C_led hr (by decide) rfl tk (by exact (pa_cons (pv 0) (pa_cons (pv 1) pa_nil))))) (pss_one (ps_ret (pe_tup (pa_cons pe_str (pa_cons (pe_fld (pv 2) rfl) (pa_cons (pe_fld (pv 2) rfl) pa_nil)))))))
      (fun a oe cls d pn hz hf => pss_one (ps_ret (pe_tup (pa_cons pe_str (pa_cons (by exact (pe_by_BadDeeds FB hz hf (pv 3))) pa_nil))))))), ?_⟩
    have bad : ∀ i : Int, RetU [.str "BadDeeds", .int i] H Q → BadX CD i H (WE (wAs K (Value.ref CD) 3
            (fun a cls d =>
              tRet
                (tTup (tCons (tC (V.str "BadDeeds")) (tCons (tBy_BadDeeds CD a cls d (tVar 3)) tNil))))
            (fun x x_1 x_2 x_3 => False) { nx := fun x H' => Q V.non H', rt := Q }) (L2.start ["_law_forest", "_law_deeds", "_law_found", "error"] [.ref f, y])) := fun i r H1 d s1 hd e1 => by
      refine ⟨true, FB.te, fun _ a0 _ => ?_, fun q => Bool.noConfusion q⟩
      exact ⟨_, rfl, rfl, rfl, d, _, rfl, e1, small (by show 2 ≤ 100000; decide), fun t ht => r _ t (s1.trans (same_upd ht)) upd_same⟩
    refine ⟨_, rfl, _, rfl, h, f, ps, ws, y, rfl, FR, ?_⟩
    rcases hy with ⟨a, xs, ds, rfl, hl, th, hlen, hds, okr, kQ, kB⟩ | ⟨nl, an, kB⟩
    · refine .inl ⟨a, xs, ds, rfl, hl, th, hlen, hds, okr, fun el H1 g s1 F1 => ?_, fun x hx => ⟨(kB x hx).1, bad _ (kB x hx).2⟩⟩
      obtain ⟨dx, a, b, F⟩ := F1
      refine ⟨_, rfl, g, C, dx, _, _, rfl, F.o, FC.own.cl, FC.nP, pf_parents a b, _, rfl, g, C, dx, _, _, rfl, F.o, FC.own.cl, FC.nW, pf_worths a b, small (by show 3 ≤ 100000; decide), fun t ht => ?_⟩
      have s := same_upd (o := .tup [V.str "told", V.ref a, V.ref b]) ht
      exact kQ el _ t (s1.trans s) ⟨a, b, upd_same, s _ _ F.p, s _ _ F.w⟩
    · exact .inr ⟨nl, an, bad _ kB⟩

end
end W2
namespace W2
open PySem PySem.Spec PyProof.Rows L2
section
variable {P : Program} {w : World} {K : PySem.W.Frag} {mg : Str → Option Value} {base : Heap} {C fI CN fN CD fD fF t1 t2 t3 t4 t5 : Addr}
theorem ok_some (D : Def K mg "_law_some" s_some ["_law_hand_here", "_law_plain_here"]) (T : Txt K mg) (C_ldeed : Cal P w K mg base 4 "_law_deed" ["_law_hand_here", "_law_plain_here"] spLDeed) (C_take : Cal P w K mg base 1 "_law_take" ["_law_hand_here", "_law_size"] spTake) (C_bent : Cal P w K mg base 3 "_law_bent" ["_law_hand_here", "_law_thing"] (spBent C)) (C_pick : Cal P w K mg base 2 "_law_pick" ["_law_hand_here", "_law_things"] spPick) : Cal P w K mg base 5 "_law_some" ["_law_hand_here", "_law_plain_here"] (spSome C) := by
  refine D.cal sc_some (fun vs H Q E h => ?_) (fun f cdv A outer s H vs Q E hr h => ?_)
  · obtain ⟨h, l, pl, p, q, ps, ws, rfl, _⟩ := h
    rfl
  · obtain ⟨h, l, pl, p, q, ps, ws, rfl, HH, PA, npl, np, nq, k⟩ := h
    have n1 := PA.n1
    have n64 := PA.n64
    refine ⟨_, (pss_cons (ps_set (i := 2) sc_some.nd rfl (Or.inl rfl) (pe_callB (call_lenK (K := K) rfl) (by rfl) T.n_len PySem.boot_len (pa_cons (pe_ix (ix_listK (K := K) rfl) (pv 1) pe_int (fun _ _ => rfl)) pa_nil)))
      (pss_cons (ps_set (i := 3) sc_some.nd rfl (Or.inl rfl) (pcal C_ldeed hr (by decide) rfl (pa_cons (pv 0) (pa_cons (pv 1) pa_nil))))
      (pss_cons (ps_set (i := 4) sc_some.nd rfl (Or.inl rfl) (pcal C_take hr (by decide) rfl (pa_cons (pv 0) (pa_cons pe_int pa_nil))))
      (pss_cons (ps_if (pt_cmpR op_lt (pv 4) pe_int (nomark _)) (pss_one (ps_ret (pv 3))) pss_nil)
      (pss_cons (ps_if (pt_cmpR op_lt (pv 4) pe_int (nomark _)) (pss_one (ps_ret (pcal C_bent hr (by decide) rfl (pa_cons (pv 0) (pa_cons (pv 3) pa_nil))))) pss_nil)
      (pss_cons (ps_set (i := 5) sc_some.nd rfl (Or.inl rfl) (pcal C_take hr (by decide) rfl (pa_cons (pv 0) (pa_cons (pv 2) pa_nil))))
      (pss_cons (ps_set (i := 6) sc_some.nd rfl (Or.inl rfl) (pcal C_take hr (by decide) rfl (pa_cons (pv 0) (pa_cons (pv 2) pa_nil))))
      (pss_one (ps_ret (pcal C_pick hr (by decide) rfl (pa_cons (pv 0) (pa_cons (pe_lst (pa_cons (pe_tup (pa_cons pe_str (pa_cons (pv 5) (pa_cons (pv 6) pa_nil)))) (pa_cons (pe_tup (pa_cons pe_str (pa_cons (pv 5) pa_nil))) (pa_cons (pe_tup (pa_cons pe_str (pa_cons (pv 5) (pa_cons (pv 6) (pa_cons pe_int pa_nil))))) (pa_cons (pe_tup (pa_cons pe_str (pa_cons (pv 5) pa_nil))) (pa_cons (pe_tup (pa_cons pe_str (pa_cons (pv 5) (pa_cons (pv 6) pa_nil)))) pa_nil)))))) pa_nil)))))))))))), ?_⟩
    refine ⟨_, rfl, pl, _, _, _, rfl, rfl, SqL.of PA.o, rfl, p, _, rfl, .inl (SqL.of PA.p), ?_⟩
    rw [List.length_map]
    refine ⟨_, rfl, _, rfl, h, l, pl, p, q, ps, ws, rfl, HH, PA, npl, np, nq, fun H1 x d b1 hh1 da => ?_⟩
    refine ⟨_, rfl, h, l, 6, rfl, hh1, by decide, by decide, fun H2 tn b2 hh2 t0 t1 => ?_⟩
    obtain ⟨lh1, eh1⟩ := hh1.lst
    have da2 := da.bt eh1 b2
    refine ⟨_, rfl, _, _, rfl, rfl, _, rfl, iteB (fun _ => ⟨_, rfl, k _ _ (b1.trans b2) hh2 da2.thing⟩) (fun _ => ?_)⟩
    refine ⟨_, rfl, _, _, rfl, rfl, _, rfl, iteB (fun _ => ?_) (fun _ => ?_)⟩
    · exact ⟨_, rfl, _, rfl, h, l, x, d, rfl, hh2, da2, fun H3 y b3 hh3 Y => k _ _ ((b1.trans b2).trans b3) hh3 Y⟩
    refine ⟨_, rfl, _, rfl, h, l, _, rfl, hh2, by omega, by omega, fun H3 one b3 hh3 o0 o1 => ?_⟩
    refine ⟨_, rfl, _, rfl, h, l, _, rfl, hh3, by omega, by omega, fun H4 other b4 hh4 p0 p1 => ?_⟩
    obtain ⟨a, rfl⟩ : ∃ n : Nat, one = (n : Int) := ⟨one.toNat, by omega⟩
    obtain ⟨c, rfl⟩ : ∃ n : Nat, other = (n : Int) := ⟨other.toNat, by omega⟩
    have b14 := (((b1.trans b2).trans b3).trans b4)
    refine ⟨_, rfl, _, rfl, _, rfl, small (by show 3 ≤ 100000; decide), fun q1 g1 => ?_⟩
    have s1 := same_upd (o := .tup (enc (.link a c))) g1
    have e1 : (L2.upd H4 q1 (.tup (enc (.link a c)))) q1 = some (.tup (enc (.link a c))) := upd_same
    refine ⟨_, rfl, small (by show 2 ≤ 100000; decide), fun q2 g2 => ?_⟩
    have s2 := same_upd (o := .tup (enc (.cut a))) g2
    have e2 : (L2.upd (L2.upd H4 q1 (.tup (enc (.link a c)))) q2 (.tup (enc (.cut a)))) q2 = some (.tup (enc (.cut a))) := upd_same
    refine ⟨_, rfl, _, rfl, small (by show 4 ≤ 100000; decide), fun q3 g3 => ?_⟩
    have s3 := same_upd (o := .tup (enc (.add a c 3))) g3
    have e3 : (L2.upd (L2.upd (L2.upd H4 q1 (.tup (enc (.link a c)))) q2 (.tup (enc (.cut a)))) q3 (.tup (enc (.add a c 3)))) q3 = some (.tup (enc (.add a c 3))) := upd_same
    refine ⟨_, rfl, small (by show 2 ≤ 100000; decide), fun q4 g4 => ?_⟩
    have s4 := same_upd (o := .tup (enc (.turn a))) g4
    have e4 : (L2.upd (L2.upd (L2.upd (L2.upd H4 q1 (.tup (enc (.link a c)))) q2 (.tup (enc (.cut a)))) q3 (.tup (enc (.add a c 3)))) q4 (.tup (enc (.turn a)))) q4 = some (.tup (enc (.turn a))) := upd_same
    refine ⟨_, rfl, _, rfl, small (by show 3 ≤ 100000; decide), fun q5 g5 => ?_⟩
    have s5 := same_upd (o := .tup (enc (.put a c))) g5
    have e5 : (L2.upd (L2.upd (L2.upd (L2.upd (L2.upd H4 q1 (.tup (enc (.link a c)))) q2 (.tup (enc (.cut a)))) q3 (.tup (enc (.add a c 3)))) q4 (.tup (enc (.turn a)))) q5 (.tup (enc (.put a c)))) q5 = some (.tup (enc (.put a c))) := upd_same
    refine ⟨small (by show 5 ≤ 100000; decide), fun q6 g6 => ?_⟩
    have s6 := same_upd (o := .lst [V.ref q1, V.ref q2, V.ref q3, V.ref q4, V.ref q5]) g6
    have z5 := s5.trans s6
    have z4 := s4.trans z5
    have z3 := s3.trans z4
    have z2 := s2.trans z3
    have z1 := s1.trans z2
    have hhA := hh4.same (s1.trans (s2.trans (s3.trans (s4.trans s5))))
    have hh6 := hh4.same z1
    refine ⟨h, l, q6, _, rfl, hh6, upd_same, hhA.nn g6, by simp, by simp, fun H7 y b7 hh7 hy => ?_⟩
    refine k H7 y ((b14.trans (Bt.of z1)).trans b7) hh7 (Thing.go ?_ hh6 b7)
    simp only [List.mem_cons, List.not_mem_nil, or_false] at hy
    rcases hy with rfl | rfl | rfl | rfl | rfl
    · exact DeedAt.thing (d := .link a c) ⟨q1, rfl, z2 _ _ e1⟩
    · exact DeedAt.thing (d := .cut a) ⟨q2, rfl, z3 _ _ e2⟩
    · exact DeedAt.thing (d := .add a c 3) ⟨q3, rfl, z4 _ _ e3⟩
    · exact DeedAt.thing (d := .turn a) ⟨q4, rfl, z5 _ _ e4⟩
    · exact DeedAt.thing (d := .put a c) ⟨q5, rfl, s6 _ _ e5⟩

end
end W2
namespace W2
open PySem PySem.Spec PyProof.Rows L2
section
variable {P : Program} {w : World} {K : PySem.W.Frag} {mg : Str → Option Value} {base : Heap} {C fI CN fN CD fD fF t1 t2 t3 t4 t5 : Addr}
theorem ok_law {f0 : Addr} {fd0 : FuncData} (F : Fun K "law" "law" s_law f0 fd0) (T : Txt K mg) (C_lhand : Cal P w K mg base 1 "_law_hand" ["_law_script"] (spHand K)) (C_plain : Cal P w K mg base 4 "_law_plain" ["_law_hand_here", "_law_sizes"] spPlain) (C_fof : Cal P w K mg base 6 "_law_forest_of" ["_law_plain_here"] (spFof C)) (C_take : Cal P w K mg base 1 "_law_take" ["_law_hand_here", "_law_size"] spTake) (C_some : Cal P w K mg base 5 "_law_some" ["_law_hand_here", "_law_plain_here"] (spSome C)) (C_lcan : Cal P w K mg base 5 "_law_can" ["_law_plain_here", "_law_thing"] (spLCan C)) (C_isdeed : Cal P w K mg base 7 "is_deed" ["forest", "thing"] (spIsDeed C)) (C_lbehind : Cal P w K mg base 4 "_law_behind" ["_law_plain_here", "_law_deed_here"] spLBehind) (C_told : Cal P w K mg base 10 "_law_told" ["_law_forest", "_law_thing"] (spTold C)) (C_ledtold : Cal P w K mg base 10 "_law_led_told" ["_law_forest", "_law_deeds"] (spLedTold C)) (C_pick : Cal P w K mg base 2 "_law_pick" ["_law_hand_here", "_law_things"] spPick) (FC : ForC K mg C fI) (C_same : Cal P w K mg base 7 "_law_same" ["_law_actual", "_law_due"] (spSame 5)) : FnOk P w K mg base CX0 11 f0 fd0 ["_law_script"] (spLaw K) := by
  refine F.ok sc_law (fun vs H Q E h => ?_) (fun cdv A outer s H vs Q E hr h => ?_)
  · obtain ⟨a, ns, rfl, _⟩ := h
    rfl
  · obtain ⟨sa, ns, rfl, hS, hlen, k⟩ := h
    refine ⟨_, (pss_cons (ps_set (i := 1) sc_law.nd rfl (Or.inl rfl) (pcal C_lhand hr (by decide) rfl (pa_cons (pv 0) pa_nil)))
      (pss_cons (ps_set (i := 2) sc_law.nd rfl (Or.inl rfl) (pcal C_plain hr (by decide) rfl (pa_cons (pv 1) (pa_cons (pe_lst (pa_cons pe_int (pa_cons pe_int (pa_cons pe_int (pa_cons pe_int (pa_cons pe_int (pa_cons pe_int pa_nil))))))) pa_nil))))
      (pss_cons (ps_set (i := 3) sc_law.nd rfl (Or.inl rfl) (pcal C_fof hr (by decide) rfl (pa_cons (pv 2) pa_nil)))
      (pss_cons (ps_set (i := 4) sc_law.nd rfl (Or.inl rfl) (pv 2))
      (pss_cons (ps_set (i := 5) sc_law.nd rfl (Or.inl rfl) (pe_tup (pa_cons (pe_fld (pv 3) rfl) (pa_cons (pe_fld (pv 3) rfl) pa_nil))))
      (pss_cons (ps_set (i := 6) sc_law.nd rfl (Or.inl rfl) (pe_lst pa_nil))
      (pss_cons (ps_for PassesOwn.never rfl (pi_range1 rfl T.n_range (pa_cons (pcal C_take hr (by decide) rfl (pa_cons (pv 1) (pa_cons pe_int pa_nil))) pa_nil)) (pg_name (i := 7) sc_law.nd rfl (Or.inl rfl)) (pss_cons (ps_set (i := 8) sc_law.nd rfl (Or.inl rfl) (pcal C_some hr (by decide) rfl (pa_cons (pv 1) (pa_cons (pv 2) pa_nil))))
      (pss_cons (ps_set (i := 9) sc_law.nd rfl (Or.inl rfl) (pcal C_lcan hr (by decide) rfl (pa_cons (pv 2) (pa_cons (pv 8) pa_nil))))
      (pss_cons (ps_set (i := 10) sc_law.nd rfl (Or.inl rfl) (pcal C_fof hr (by decide) rfl (pa_cons (pv 2) pa_nil)))
      (pss_cons (ps_if (pt_not (pt_val (pcal C_same hr (by decide) rfl (pa_cons (pcal C_isdeed hr (by decide) rfl (pa_cons (pv 10) (pa_cons (pv 8) pa_nil))) (pa_cons (pv 9) pa_nil))))) (pss_one (ps_ret pe_bl)) pss_nil)
      (pss_cons (ps_set (i := 11) sc_law.nd rfl (Or.inl rfl) (pe_tup (pa_cons pe_str pa_nil)))
      (pss_cons (ps_if (pt_val (pv 9)) (pss_cons (ps_set (i := 2) sc_law.nd rfl (Or.inl rfl) (pcal C_lbehind hr (by decide) rfl (pa_cons (pv 2) (pa_cons (pv 8) pa_nil))))
      (pss_cons (ps_expr (pe_bm PySem.F.plainAttrs_list PySem.F.slot_list_append PySem.F.type_list_append mt_append (pv 6) (pa_cons (pv 8) pa_nil)))
      (pss_one (ps_set (i := 11) sc_law.nd rfl (Or.inl rfl) (pe_tup (pa_cons pe_str (pa_cons (pe_callTy call_tuple_of (by rfl) T.n_tuple (by decide +kernel) (pa_cons (pe_ix (ix_listK (K := K) rfl) (pv 2) pe_int (fun _ _ => rfl)) pa_nil)) (pa_cons (pe_callTy call_tuple_of (by rfl) T.n_tuple (by decide +kernel) (pa_cons (pe_ix (ix_listK (K := K) rfl) (pv 2) pe_int (fun _ _ => rfl)) pa_nil)) pa_nil)))))))) pss_nil)
      (pss_one (ps_if (pt_not (pt_val (pcal C_same hr (by decide) rfl (pa_cons (pcal C_told hr (by decide) rfl (pa_cons (pv 10) (pa_cons (pv 8) pa_nil))) (pa_cons (pv 11) pa_nil))))) (pss_one (ps_ret pe_bl)) pss_nil)))))))))
      (pss_cons (ps_set (i := 11) sc_law.nd rfl (Or.inl rfl) (pe_tup (pa_cons pe_str (pa_cons (pe_callTy call_tuple_of (by rfl) T.n_tuple (by decide +kernel) (pa_cons (pe_ix (ix_listK (K := K) rfl) (pv 2) pe_int (fun _ _ => rfl)) pa_nil)) (pa_cons (pe_callTy call_tuple_of (by rfl) T.n_tuple (by decide +kernel) (pa_cons (pe_ix (ix_listK (K := K) rfl) (pv 2) pe_int (fun _ _ => rfl)) pa_nil)) pa_nil)))))
      (pss_cons (ps_if (PW.pt (pw_or (pt_not (pt_val (pcal C_same hr (by decide) rfl (pa_cons (pcal C_ledtold hr (by decide) rfl (pa_cons (pv 3) (pa_cons (pv 6) pa_nil))) (pa_cons (pv 11) pa_nil))))) (pw_or1 (pt_not (pt_val (pcal C_same hr (by decide) rfl (pa_cons (pcal C_ledtold hr (by decide) rfl (pa_cons (pv 3) (pa_cons (pe_callTy call_tuple_of (by rfl) T.n_tuple (by decide +kernel) (pa_cons (pv 6) pa_nil)) pa_nil))) (pa_cons (pv 11) pa_nil)))))))) (pss_one (ps_ret pe_bl)) pss_nil)
      (pss_cons (ps_set (i := 12) sc_law.nd rfl (Or.inl rfl) (pcal C_take hr (by decide) rfl (pa_cons (pv 1) (pa_cons (pe_op op_add (pe_callB (call_lenK (K := K) rfl) (by rfl) T.n_len PySem.boot_len (pa_cons (pv 6) pa_nil)) pe_int) pa_nil))))
      (pss_cons (ps_set (i := 13) sc_law.nd rfl (Or.inl rfl) (pv 4))
      (pss_cons (ps_for PassesOwn.never rfl (pi_list (pe_slice sl_list (pv 6) po_none (po_some (pv 12)))) (pg_name (i := 14) sc_law.nd rfl (Or.inl rfl)) (pss_one (ps_set (i := 13) sc_law.nd rfl (Or.inl rfl) (pcal C_lbehind hr (by decide) rfl (pa_cons (pv 13) (pa_cons (pv 14) pa_nil))))))
      (pss_cons (ps_set (i := 15) sc_law.nd rfl (Or.inl rfl) (pcal C_some hr (by decide) rfl (pa_cons (pv 1) (pa_cons (pv 13) pa_nil))))
      (C8.pss_cut (ps_if (PW.pt (pw_and (pt_not (pt_val (pcal C_lcan hr (by decide) rfl (pa_cons (pv 13) (pa_cons (pv 15) pa_nil))))) (pw_and1 (pt_cmpR (op_neD hr.units) (pcal C_ledtold hr (by decide) rfl (pa_cons (pv 3) (pa_cons (pe_op op_cat (pe_op op_cat (pe_slice sl_list (pv 6) po_none (po_some (pv 12))) (pe_lst (pa_cons (pv 15) pa_nil))) (pe_slice sl_list (pv 6) (po_some (pv 12)) po_none)) pa_nil))) (pe_tup (pa_cons pe_str (pa_cons (pv 12) pa_nil))) (nomark _))))) (pss_one (ps_ret pe_bl)) pss_nil)
      (pss_cons (ps_if (pt_cmpR (op_neD hr.units) (pcal C_ledtold hr (by decide) rfl (pa_cons (pv 3) (pa_cons (pcal C_pick hr (by decide) rfl (pa_cons (pv 1) (pa_cons (pe_lst (pa_cons pe_non (pa_cons pe_int (pa_cons pe_str (pa_cons (pe_dnewK) (pa_cons pe_bl pa_nil)))))) pa_nil))) pa_nil))) (pe_tup (pa_cons pe_str (pa_cons (pe_un un_neg pe_int) pa_nil))) (nomark _)) (pss_one (ps_ret pe_bl)) pss_nil)
      (pss_one (ps_ret (pcal C_same hr (by decide) rfl (pa_cons (pe_tup (pa_cons (pe_fld (pv 3) rfl) (pa_cons (pe_fld (pv 3) rfl) pa_nil))) (pa_cons (pv 5) pa_nil)))))))))))))))))))), ?_⟩
    refine ⟨_, rfl, sa, ns, rfl, hS, fun H1 h l s1 hh0 hand1 => ?_⟩
    refine ⟨_, rfl, small (by show 6 ≤ 100000; decide), fun t ht => ?_⟩
    obtain ⟨lh1, eh1⟩ := hand1.lst
    have nth : t ≠ h := (ne_of_none eh1 ht).symm
    refine ⟨h, l, t, [1, 2, 3, 6, 12, 40], rfl, hand1.upd ht, upd_same, nth, by decide, by decide, by decide, fun H2 pl p q ps ws b2 hand2 hpl hp hq ePl eP eQ TR n1 n64 lw => ?_⟩
    have eh1' : (L2.upd H1 t (.lst [.int 1, .int 2, .int 3, .int 6, .int 12, .int 40])) h = some (.lst lh1) := by rw [upd_ne nth.symm]; exact eh1
    have nplh : pl ≠ h := (ne_of_none eh1' hpl).symm
    have nph : p ≠ h := (ne_of_none eh1' hp).symm
    have nqh : q ≠ h := (ne_of_none eh1' hq).symm
    refine ⟨_, rfl, pl, p, q, ps, ws, rfl, ePl, eP, eQ, TR, n1, n64, lw, fun H3 f dx a b s3 hf FA => ?_⟩
    refine ⟨_, rfl, ?_⟩
    refine ⟨_, rfl, f, C, dx, _, _, rfl, FA.o, FC.own.cl, FC.nP, pf_parents a b, _, rfl, f, C, dx, _, _, rfl, FA.o, FC.own.cl, FC.nW, pf_worths a b, small (by show 2 ≤ 100000; decide), fun t5 h5 => ?_⟩
    have s4 := same_upd (o := .tup [V.ref a, V.ref b]) h5
    have e5 : (L2.upd H3 t5 (.tup [V.ref a, V.ref b])) t5 = some (.tup [V.ref a, V.ref b]) := upd_same
    have FA4 := FA.same s4
    generalize L2.upd H3 t5 (.tup [V.ref a, V.ref b]) = H4 at s4 e5 FA4
    refine ⟨small (by show 0 ≤ 100000; decide), fun D hD => ?_⟩
    have s5 := same_upd (o := .lst []) hD
    have eD : (L2.upd H4 D (.lst [])) D = some (.lst []) := upd_same
    have s34 := s3.trans s4
    have PA0 : PlA H4 pl p q ps ws := ⟨s34 _ _ ePl, s34 _ _ eP, s34 _ _ eQ, TR, n1, n64, lw⟩
    have hand4 := hand2.same s34
    have nDh : D ≠ h := hand4.nn hD
    have nDl : D ≠ l := (let ⟨_, e⟩ := hand4.row; (ne_of_none e hD).symm)
    have CU0 : Cu H4 h D pl p q ps ws := ⟨PA0, nplh, nph, nqh, ne_of_none PA0.o hD, ne_of_none PA0.p hD, ne_of_none PA0.q hD⟩
    have S5 : Sta C (L2.upd H4 D (.lst [])) h l pl p q f t5 D dx a b ps ws [] [] := ⟨hand4.upd hD, CU0.same s5, FA4.same s5, s5 _ _ e5, eD, rfl, fun i x d h1 => (by cases h1), fun i d h1 => (by cases h1), nDh, nDl⟩
    generalize L2.upd H4 D (.lst []) = H5 at s5 eD S5
    refine ⟨_, rfl, h, l, 26, rfl, S5.hand, by decide, by decide, fun H6 rn b6 hh6 rn0 rn1 => ⟨_, rfl, by omega, by omega, ?_⟩⟩
    have S6 := S5.bt b6 hh6
    refine for_range (lo := 0) (n := rn.toNat) (fun i σ H' => ∃ (cl cp cq : Addr) (xs : List V) (ds : List Deed) (v7 v8 v9 v10 v11 v12 v13 v14 v15 : Option V), σ = [some (.ref sa), some (.ref h), some (.ref cl), some (.ref f), some (.ref pl), some (.ref t5), some (.ref D), v7, v8, v9, v10, v11, v12, v13, v14, v15] ∧ ds.length ≤ i ∧ Sta C H' h l pl p q f t5 D dx a b ps ws xs ds ∧ Cu H' h D cl cp cq (run (ps, ws) ds).1 (run (ps, ws) ds).2)
      ⟨pl, p, q, [], [], none, none, none, none, none, none, none, none, none, rfl, Nat.le_refl _, S6, S6.P0⟩ ?_ ?_
    · rintro i σ H7 hi ⟨cl, cp, cq, xs, ds, v7, v8, v9, v10, v11, v12, v13, v14, v15, rfl, hdi, S7, CU7⟩
      have ln : (run (ps, ws) ds).1.length = ps.length := run_len _ _
      refine ⟨_, rfl, _, rfl, h, l, cl, cp, cq, _, _, rfl, S7.hand, CU7.PA, CU7.n1, CU7.n2, CU7.n3, fun H8 x b8 hh8 X => ?_⟩
      have S8 := S7.bt b8 hh8
      have CU8 := CU7.bt b8
      clear S7 CU7
      refine ⟨_, rfl, _, rfl, h, cl, cp, cq, _, _, x, rfl, CU8.PA, X, fun d fo c H9 s9 => ?_, fun n H9 s9 => ?_⟩
      · -- it can
        have S9 := S8.same s9
        have CU9 := CU8.same s9
        refine ⟨_, rfl, cl, cp, cq, _, _, rfl, CU9.PA.o, CU9.PA.p, CU9.PA.q, CU9.PA.TR, CU9.PA.n1, CU9.PA.n64, CU9.PA.lw, fun H10 g dx2 a2 b2' s10 hg F10 => ?_⟩
        have FR : Frt C H10 g (run (ps, ws) ds).1 (run (ps, ws) ds).2 := ⟨⟨_, _, _, F10⟩, CU9.PA.TR, CU9.PA.n1, CU9.PA.n64, CU9.PA.lw⟩
        have z10 := s9.trans s10
        have da10 := fo.1.same z10
        refine ⟨_, rfl, _, rfl, h, g, _, _, x, rfl, FR, X.same z10, fun _ _ _ H11 s11 => ?_, fun n => absurd ⟨d, ⟨da10, fo.2⟩, c⟩ n⟩
        refine ⟨_, rfl, _, _, rfl, .inr (.inr (.inr (.inl ⟨true, rfl, rfl⟩))), fun H12 s12 => ⟨true, rfl, iteF ?_⟩⟩
        refine ⟨small (by show 1 ≤ 100000; decide), fun t13 h13 => ?_⟩
        have s13 := same_upd (o := .tup [V.str "NoDeed"]) h13
        generalize L2.upd H12 t13 (.tup [V.str "NoDeed"]) = H13 at s13
        have z13 := s10.trans (s11.trans (s12.trans s13))
        have y13 := s11.trans (s12.trans s13)
        have S13 := S9.same z13
        have CU13 := CU9.same z13
        have FR13 := FR.same y13
        have da13 := da10.same y13
        refine ⟨_, rfl, true, rfl, iteT ?_⟩
        refine ⟨_, rfl, _, rfl, cl, cp, cq, _, _, x, d, rfl, CU13.PA, da13, fo.2, c, fun H14 cl' cp' cq' s14 hcl hcp hcq PA14 => ?_⟩
        have S14 := S13.same s14
        have lx := S14.len
        have CU14 : Cu H14 h D cl' cp' cq' (doP (run (ps, ws) ds).1 d) (doW (run (ps, ws) ds).1 (run (ps, ws) ds).2 d) := ⟨PA14, S13.hand.nn hcl, S13.hand.nn hcp, S13.hand.nn hcq, (ne_of_none S13.eD hcl).symm, (ne_of_none S13.eD hcp).symm, (ne_of_none S13.eD hcq).symm⟩
        refine ⟨_, rfl, .inl ⟨rfl, _, SqL.of S14.eD⟩, _, rfl, D, _, _, rfl, rfl, S14.eD, smalls (by omega), ?_⟩
        have okd : okD ps.length d := ln ▸ fo.2
        have S15 := S14.push (da13.same s14) okd c
        have CU15 := CU14.setD (o := .lst (xs ++ [x]))
        have FR15 := (FR13.same s14).setD (ys := xs ++ [x]) S14.eD
        have da15 := (da13.same s14).setD (ys := xs ++ [x]) S14.eD
        generalize L2.upd H14 D (.lst (xs ++ [x])) = H15 at S15 CU15 FR15 da15
        refine ⟨_, rfl, cl', _, _, _, rfl, rfl, SqL.of CU15.PA.o, rfl, cp', _, rfl, .inl ⟨SqL.of CU15.PA.p, fun ta hta => ?_⟩⟩
        have s16 := same_upd (o := .tup ((doP (run (ps, ws) ds).1 d).map ov)) hta
        have e16 : (L2.upd H15 ta (.tup ((doP (run (ps, ws) ds).1 d).map ov))) ta = some (.tup ((doP (run (ps, ws) ds).1 d).map ov)) := upd_same
        generalize L2.upd H15 ta (.tup ((doP (run (ps, ws) ds).1 d).map ov)) = H16 at s16 e16
        have CU16 := CU15.same s16
        refine ⟨_, rfl, cl', _, _, _, rfl, rfl, SqL.of CU16.PA.o, rfl, cq', _, rfl, .inl ⟨SqL.of CU16.PA.q, fun tb htb => ?_⟩⟩
        have s17 := same_upd (o := .tup ((doW (run (ps, ws) ds).1 (run (ps, ws) ds).2 d).map V.int)) htb
        have e17 : (L2.upd H16 tb (.tup ((doW (run (ps, ws) ds).1 (run (ps, ws) ds).2 d).map V.int))) tb = some (.tup ((doW (run (ps, ws) ds).1 (run (ps, ws) ds).2 d).map V.int)) := upd_same
        generalize L2.upd H16 tb (.tup ((doW (run (ps, ws) ds).1 (run (ps, ws) ds).2 d).map V.int)) = H17 at s17 e17
        refine ⟨small (by show 3 ≤ 100000; decide), fun tc htc => ?_⟩
        have s18 := same_upd (o := .tup [V.str "told", V.ref ta, V.ref tb]) htc
        have T18 : Told (L2.upd H17 tc (.tup [V.str "told", V.ref ta, V.ref tb])) tc (doP (run (ps, ws) ds).1 d) (doW (run (ps, ws) ds).1 (run (ps, ws) ds).2 d) := ⟨ta, tb, upd_same, s18 _ _ (s17 _ _ e16), s18 _ _ e17⟩
        generalize L2.upd H17 tc (.tup [V.str "told", V.ref ta, V.ref tb]) = H18 at s18 T18
        have z18 := s16.trans (s17.trans s18)
        have da18 := da15.same z18
        refine ⟨_, rfl, _, rfl, h, g, _, _, x, rfl, FR15.same z18, da18.thing, fun d' fo' c' H19 t19 s19 T19 => ?_, fun n => absurd ⟨d, ⟨da18, fo.2⟩, c⟩ n⟩
        have ed : d' = d := da18.det fo'.1
        subst ed
        refine ⟨_, rfl, _, _, rfl, eqs_told (n := 2) T19 (T18.same s19), fun H20 s20 => ⟨true, rfl, iteF ?_⟩⟩
        have z20 := z18.trans (s19.trans s20)
        refine ⟨cl', cp', cq', xs ++ [x], ds ++ [d'], _, _, _, _, _, v12, v13, v14, v15, rfl, by rw [List.length_append, List.length_singleton]; omega, S15.same z20, ?_⟩
        rw [run_snoc]
        exact CU15.same z20
      · -- it can't
        have S9 := S8.same s9
        have CU9 := CU8.same s9
        refine ⟨_, rfl, cl, cp, cq, _, _, rfl, CU9.PA.o, CU9.PA.p, CU9.PA.q, CU9.PA.TR, CU9.PA.n1, CU9.PA.n64, CU9.PA.lw, fun H10 g dx2 a2 b2' s10 hg F10 => ?_⟩
        have FR : Frt C H10 g (run (ps, ws) ds).1 (run (ps, ws) ds).2 := ⟨⟨_, _, _, F10⟩, CU9.PA.TR, CU9.PA.n1, CU9.PA.n64, CU9.PA.lw⟩
        have z10 := s9.trans s10
        have n10 := no_form X z10 n
        refine ⟨_, rfl, _, rfl, h, g, _, _, x, rfl, FR, X.same z10, fun d' fo' c' => absurd ⟨d', fo', c'⟩ n10, fun _ H11 s11 => ?_⟩
        refine ⟨_, rfl, _, _, rfl, .inr (.inr (.inr (.inl ⟨false, rfl, rfl⟩))), fun H12 s12 => ⟨true, rfl, iteF ?_⟩⟩
        refine ⟨small (by show 1 ≤ 100000; decide), fun t13 h13 => ?_⟩
        have s13 := same_upd (o := .tup [V.str "NoDeed"]) h13
        have e13 : (L2.upd H12 t13 (.tup [V.str "NoDeed"])) t13 = some (.tup [V.str "NoDeed"]) := upd_same
        generalize L2.upd H12 t13 (.tup [V.str "NoDeed"]) = H13 at s13 e13
        have y13 := s11.trans (s12.trans s13)
        have z13 := s10.trans y13
        have X10 := X.same z10
        refine ⟨_, rfl, false, rfl, iteF ?_⟩
        have n13 := no_form X10 y13 n10
        refine ⟨_, rfl, _, rfl, h, g, _, _, x, rfl, FR.same y13, X10.same y13, fun d' fo' c' => absurd ⟨d', fo', c'⟩ n13, fun _ H14 t14 s14 e14 => ?_⟩
        refine ⟨_, rfl, _, _, rfl, eqs_tup (d := 4) e14 (s14 _ _ e13) (fun z hz => ?_), fun H15 s15 => ⟨true, rfl, iteF ?_⟩⟩
        · simp only [List.mem_cons, List.not_mem_nil, or_false] at hz
          subst hz
          exact .inr (.inr (.inl ⟨_, rfl, rfl⟩))
        have z15 := z13.trans (s14.trans s15)
        exact ⟨cl, cp, cq, xs, ds, _, _, _, _, _, v12, v13, v14, v15, rfl, by omega, S9.same z15, CU9.same z15⟩
    · rintro σ H7 ⟨cl, cp, cq, xs, ds, v7, v8, v9, v10, v11, v12, v13, v14, v15, rfl, hdi, S7, CU7⟩
      have lx := S7.len
      have ldl : ds.length ≤ 26 := by omega
      -- due
      refine ⟨_, rfl, cl, _, _, _, rfl, rfl, SqL.of CU7.PA.o, rfl, cp, _, rfl, .inl ⟨SqL.of CU7.PA.p, fun ta hta => ?_⟩⟩
      have s16 := same_upd (o := .tup ((run (ps, ws) ds).1.map ov)) hta
      have e16 : (L2.upd H7 ta (.tup ((run (ps, ws) ds).1.map ov))) ta = some (.tup ((run (ps, ws) ds).1.map ov)) := upd_same
      generalize L2.upd H7 ta (.tup ((run (ps, ws) ds).1.map ov)) = H16 at s16 e16
      have CU16 := CU7.same s16
      refine ⟨_, rfl, cl, _, _, _, rfl, rfl, SqL.of CU16.PA.o, rfl, cq, _, rfl, .inl ⟨SqL.of CU16.PA.q, fun tb htb => ?_⟩⟩
      have s17 := same_upd (o := .tup ((run (ps, ws) ds).2.map V.int)) htb
      have e17 : (L2.upd H16 tb (.tup ((run (ps, ws) ds).2.map V.int))) tb = some (.tup ((run (ps, ws) ds).2.map V.int)) := upd_same
      generalize L2.upd H16 tb (.tup ((run (ps, ws) ds).2.map V.int)) = H17 at s17 e17
      refine ⟨small (by show 3 ≤ 100000; decide), fun tc htc => ?_⟩
      have s18 := same_upd (o := .tup [V.str "told", V.ref ta, V.ref tb]) htc
      have T18 : Told (L2.upd H17 tc (.tup [V.str "told", V.ref ta, V.ref tb])) tc (run (ps, ws) ds).1 (run (ps, ws) ds).2 := ⟨ta, tb, upd_same, s18 _ _ (s17 _ _ e16), s18 _ _ e17⟩
      generalize L2.upd H17 tc (.tup [V.str "told", V.ref ta, V.ref tb]) = H18 at s18 T18
      have S18 := S7.same (s16.trans (s17.trans s18))
      have no1 : ∀ y, xs[ds.length]? = some y → False := fun y hy => by
        have := (List.getElem?_eq_some_iff.mp hy).1
        omega
      refine ⟨_, rfl, _, rfl, h, f, ps, ws, .ref D, rfl, S18.frt, .inl ⟨D, xs, ds, rfl, .inl S18.eD, fun y hy => (let ⟨_, e⟩ := S18.things y hy; e.thing), by omega, S18.da, S18.ok, fun _ H19 t19 s19 T19 => ?_, fun y hy => (no1 y hy).elim⟩⟩
      refine ⟨_, rfl, _, _, rfl, eqs_told (n := 2) T19 (T18.same s19), fun H20 s20 => ⟨true, rfl, iteF ?_⟩⟩
      have S20 := (S18.same s19).same s20
      have T20 := (T18.same s19).same s20
      refine ⟨_, rfl, _, rfl, D, _, rfl, .inl ⟨SqL.of S20.eD, fun td htd => ?_⟩⟩
      have s21 := same_upd (o := .tup xs) htd
      have e21 : (L2.upd H20 td (.tup xs)) td = some (.tup xs) := upd_same
      generalize L2.upd H20 td (.tup xs) = H21 at s21 e21
      have S21 := S20.same s21
      refine ⟨h, f, ps, ws, .ref td, rfl, S21.frt, .inl ⟨td, xs, ds, rfl, .inr e21, fun y hy => (let ⟨_, e⟩ := S21.things y hy; e.thing), by omega, S21.da, S21.ok, fun _ H22 t22 s22 T22 => ?_, fun y hy => (no1 y hy).elim⟩⟩
      refine ⟨_, rfl, _, _, rfl, eqs_told (n := 2) T22 ((T20.same s21).same s22), fun H23 s23 => ⟨true, rfl, iteF ?_⟩⟩
      have S23 := (S21.same s22).same s23
      -- at
      refine ⟨_, rfl, _, rfl, D, _, rfl, .inl (SqL.of S23.eD), _, _, rfl, rfl, h, l, _, rfl, S23.hand, by omega, by omega, fun H24 ra b24 hh24 ra0 ra1 => ?_⟩
      obtain ⟨at_, rfl⟩ : ∃ n : Nat, ra = (n : Int) := ⟨ra.toNat, by omega⟩
      have hat : at_ ≤ xs.length := by omega
      have S24 := S23.bt b24 hh24
      refine ⟨_, rfl, ?_⟩
      refine ⟨_, rfl, ?_⟩
      unfold tNoPart
      refine ⟨_, rfl, at_, rfl, ?_⟩
      refine ⟨D, _, rfl, SqL.of S24.eD, fun tl htl => ?_⟩
      have s25 := same_upd (o := .lst (cutV xs none (some (at_ : Int)))) htl
      have e25 : (L2.upd H24 tl (.lst (cutV xs none (some (at_ : Int))))) tl = some (.lst (xs.take at_)) := by rw [upd_same, cut_to _ _ hat]
      generalize L2.upd H24 tl (.lst (cutV xs none (some (at_ : Int)))) = H25 at s25 e25
      have S25 := S24.same s25
      refine ⟨tl, rfl, ⟨_, SqL.of e25⟩, ?_⟩
      have ltk : (xs.take at_).length = at_ := by rw [List.length_take]; omega
      refine for_list (K := K) (a := tl) (xs := xs.take at_) (fun c σ H' => ∃ (gl gp gq : Addr) (v14 : Option V), σ = [some (.ref sa), some (.ref h), some (.ref cl), some (.ref f), some (.ref pl), some (.ref t5), some (.ref D), v7, v8, v9, v10, some (.ref tc), some (nv at_), some (.ref gl), v14, v15] ∧ H' tl = some (.lst (xs.take at_)) ∧ Sta C H' h l pl p q f t5 D dx a b ps ws xs ds ∧ Cu H' h D gl gp gq (run (ps, ws) (ds.take c)).1 (run (ps, ws) (ds.take c)).2)
        ⟨pl, p, q, v14, rfl, e25, S25, S25.P0⟩ (fun c σ H' _ ⟨_, _, _, _, _, q, _⟩ => SqL.of q) ?_ ?_
      · rintro c y σ H' hy ⟨gl, gp, gq, v14, rfl, etl, S, CU⟩
        have hc : c < at_ := by
          have := (List.getElem?_eq_some_iff.mp hy).1
          omega
        have hy2 : xs[c]? = some y := by rw [List.getElem?_take_of_lt hc] at hy; exact hy
        have hcd : c < ds.length := by omega
        have ed : ds[c]? = some ds[c] := List.getElem?_eq_getElem hcd
        generalize ds[c] = d at ed
        obtain ⟨od, cd⟩ := S.ok c d ed
        have da := S.da c y d ed hy2
        have lnc : (run (ps, ws) (ds.take c)).1.length = ps.length := run_len _ _
        refine ⟨_, rfl, _, rfl, gl, gp, gq, _, _, y, d, rfl, CU.PA, da, by rw [lnc]; exact od, cd, fun H2 gl' gp' gq' s2 h1 h2 h3 PA2 => ?_⟩
        refine ⟨gl', gp', gq', _, rfl, s2 _ _ etl, S.same s2, ?_⟩
        rw [List.take_add_one, ed]
        show Cu H2 h D gl' gp' gq' (run (ps, ws) (ds.take c ++ [d])).1 (run (ps, ws) (ds.take c ++ [d])).2
        rw [run_snoc]
        exact ⟨PA2, S.hand.nn h1, S.hand.nn h2, S.hand.nn h3, (ne_of_none S.eD h1).symm, (ne_of_none S.eD h2).symm, (ne_of_none S.eD h3).symm⟩
      · rintro σ H' ⟨gl, gp, gq, v14, rfl, etl, S, CU⟩
        rw [ltk] at CU
        have lna : (run (ps, ws) (ds.take at_)).1.length = ps.length := run_len _ _
        refine ⟨_, rfl, _, rfl, h, l, gl, gp, gq, _, _, rfl, S.hand, CU.PA, CU.n1, CU.n2, CU.n3, fun H26 x b26 hh26 X => ?_⟩
        have S26 := S.bt b26 hh26
        have CU26 := CU.bt b26
        clear S CU
        refine ⟨fun σ H' => σ = [some (.ref sa), some (.ref h), some (.ref cl), some (.ref f), some (.ref pl), some (.ref t5), some (.ref D), v7, v8, v9, v10, some (.ref tc), some (nv at_), some (.ref gl), v14, some x] ∧ Sta C H' h l pl p q f t5 D dx a b ps ws xs ds, ?_, ?_⟩
        · refine ⟨_, rfl, _, rfl, h, gl, gp, gq, _, _, x, rfl, CU26.PA, X, fun d fo c H27 s27 => ⟨true, rfl, iteF ⟨rfl, S26.same s27⟩⟩, fun n H27 s27 => ⟨false, rfl, iteT ?_⟩⟩
          have S27 := S26.same s27
          have X27 := X.same s27
          have n27 := no_form X s27 n
          refine ⟨_, rfl, _, rfl, ?_⟩
          refine ⟨_, rfl, at_, rfl, ?_⟩
          refine ⟨D, _, rfl, SqL.of S27.eD, fun u1 g1 => ?_⟩
          have s28 := same_upd (o := .lst (cutV xs none (some (at_ : Int)))) g1
          have e28 : (L2.upd H27 u1 (.lst (cutV xs none (some (at_ : Int))))) u1 = some (.lst (xs.take at_)) := by rw [upd_same, cut_to _ _ hat]
          generalize L2.upd H27 u1 (.lst (cutV xs none (some (at_ : Int)))) = H28 at s28 e28
          refine ⟨_, rfl, small (by show 1 ≤ 100000; decide), fun u2 g2 => ?_⟩
          have s29 := same_upd (o := .lst [x]) g2
          refine ⟨u1, u2, _, _, rfl, rfl, s29 _ _ e28, upd_same, small (by rw [List.length_take]; show min _ _ + 1 ≤ 100000; omega), fun u3 g3 => ?_⟩
          have s30 := same_upd (o := .lst (xs.take at_ ++ [x])) g3
          have e30 : (L2.upd (L2.upd H28 u2 (.lst [x])) u3 (.lst (xs.take at_ ++ [x]))) u3 = some (.lst (xs.take at_ ++ [x])) := upd_same
          generalize L2.upd (L2.upd H28 u2 (.lst [x])) u3 (.lst (xs.take at_ ++ [x])) = H30 at s30 e30
          have z30 := s28.trans (s29.trans s30)
          have S30 := S27.same z30
          refine ⟨_, rfl, _, rfl, at_, rfl, ?_⟩
          refine ⟨D, _, rfl, SqL.of S30.eD, fun u4 g4 => ?_⟩
          have s31 := same_upd (o := .lst (cutV xs (some (at_ : Int)) none)) g4
          have e31 : (L2.upd H30 u4 (.lst (cutV xs (some (at_ : Int)) none))) u4 = some (.lst (xs.drop at_)) := by rw [upd_same, cut_from _ _ hat]
          generalize L2.upd H30 u4 (.lst (cutV xs (some (at_ : Int)) none)) = H31 at s31 e31
          refine ⟨u3, u4, _, _, rfl, rfl, s31 _ _ e30, e31, small (by rw [List.length_append, List.length_take, List.length_drop]; show min _ _ + 1 + _ ≤ 100000; omega), fun u5 g5 => ?_⟩
          have s32 := same_upd (o := .lst (xs.take at_ ++ [x] ++ xs.drop at_)) g5
          have e32 : (L2.upd H31 u5 (.lst (xs.take at_ ++ [x] ++ xs.drop at_))) u5 = some (.lst (xs.take at_ ++ [x] ++ xs.drop at_)) := upd_same
          generalize L2.upd H31 u5 (.lst (xs.take at_ ++ [x] ++ xs.drop at_)) = H32 at s32 e32
          have z32 := z30.trans (s31.trans s32)
          have S32 := S27.same z32
          have X32 := X27.same z32
          have n32 := no_form X27 z32 n27
          have ldt : (ds.take at_).length = at_ := by rw [List.length_take]; omega
          refine ⟨h, f, ps, ws, .ref u5, rfl, S32.frt, .inl ⟨u5, _, ds.take at_, rfl, .inl e32, fun y hy => ?_, by rw [ldt, List.length_append, List.length_append, ltk]; omega, fun i y d hd hy => ?_, S32.ok.take at_, fun el => ?_, fun y hy => ?_⟩⟩
          · rcases List.mem_append.mp hy with hy | hy
            · rcases List.mem_append.mp hy with hy | hy
              · obtain ⟨_, e⟩ := S32.things y (List.mem_of_mem_take hy)
                exact e.thing
              · rw [List.mem_singleton] at hy
                subst hy
                exact X32
            · obtain ⟨_, e⟩ := S32.things y (List.mem_of_mem_drop hy)
              exact e.thing
          · have hi : i < at_ := by
              have := (List.getElem?_eq_some_iff.mp hd).1
              omega
            rw [List.getElem?_append_left (by rw [List.length_append, ltk]; omega), List.getElem?_append_left (by rw [ltk]; exact hi), List.getElem?_take_of_lt hi] at hy
            rw [List.getElem?_take_of_lt hi] at hd
            exact S32.da i y d hd hy
          · rw [ldt, List.length_append, List.length_append, ltk, List.length_singleton] at el
            omega
          · rw [ldt, List.getElem?_append_left (by rw [List.length_append, ltk]; exact Nat.lt_succ_self _), List.getElem?_append_right (by rw [ltk]; exact Nat.le_refl _), ltk, Nat.sub_self] at hy
            have ey : y = x := (Option.some.inj hy).symm
            subst ey
            refine ⟨by rw [← lna]; exact n32, fun H33 t33 s33 e33 => ?_⟩
            rw [ldt] at e33
            refine ⟨_, rfl, small (by show 2 ≤ 100000; decide), fun u6 g6 => ?_⟩
            have s34 := same_upd (o := .tup [V.str "BadDeeds", nv at_]) g6
            refine ⟨_, _, dp_bad (s34 _ _ e33), dp_bad upd_same, sh_bad _, sh_bad _, _, rfl, ?_⟩
            rw [eqv_bad]
            exact ⟨rfl, (S32.same s33).same s34⟩
        rintro σ H27 ⟨rfl, S27⟩
        refine ⟨_, rfl, _, rfl, fun td g1 => ?_⟩
        have s28 := same_upd (o := .dK []) g1
        have e28 : (L2.upd H27 td (.dK [])) td = some (.dK []) := upd_same
        generalize L2.upd H27 td (.dK []) = H28 at s28 e28
        have S28 := S27.same s28
        obtain ⟨lh28, eh28⟩ := S28.hand.lst
        have ntd : td ≠ h := ne_of e28 eh28 (fun z => nomatch z)
        refine ⟨small (by show 5 ≤ 100000; decide), fun tl2 g2 => ?_⟩
        have s29 := same_upd (o := .lst [V.non, V.int 0, V.str "cut", V.ref td, V.bl true]) g2
        have S29 := S28.same s29
        refine ⟨h, l, tl2, _, rfl, S29.hand, upd_same, S28.hand.nn g2, by simp, by simp, fun H30 y b30 hh30 hy => ?_⟩
        have e30 : H30 td = some (.dK []) := b30 _ _ ntd (s29 _ _ e28)
        have S30 := S29.bt b30 hh30
        simp only [List.mem_cons, List.not_mem_nil, or_false] at hy
        have yy : (∀ a xs, y = .ref a → H30 a ≠ some (.lst xs) ∧ H30 a ≠ some (.tup xs)) ∧ Any C h H30 y := by
          rcases hy with rfl | rfl | rfl | rfl | rfl
          · exact ⟨(fun a xs z => nomatch z), .non⟩
          · exact ⟨(fun a xs z => nomatch z), .int _⟩
          · exact ⟨(fun a xs z => nomatch z), .str _⟩
          · refine ⟨fun a xs z => ?_, .dic ntd e30⟩
            cases z
            rw [e30]
            exact ⟨(fun z => nomatch z), (fun z => nomatch z)⟩
          · exact ⟨(fun a xs z => nomatch z), .bl _⟩
        refine ⟨h, f, ps, ws, y, rfl, S30.frt, .inr ⟨yy.1, yy.2, fun H31 t31 s31 e31 => ?_⟩⟩
        refine ⟨1, rfl, small (by show 2 ≤ 100000; decide), fun u6 g6 => ?_⟩
        have s32 := same_upd (o := .tup [V.str "BadDeeds", V.int (-1)]) g6
        refine ⟨_, _, dp_bad (s32 _ _ e31), dp_bad upd_same, sh_bad _, sh_bad _, _, rfl, ?_⟩
        rw [eqv_bad]
        have S32 := (S30.same s31).same s32
        generalize L2.upd H31 u6 (.tup [V.str "BadDeeds", V.int (-1)]) = H32 at S32
        refine iteF ?_
        refine ⟨_, rfl, f, C, dx, _, _, rfl, S32.F.o, FC.own.cl, FC.nP, pf_parents a b, _, rfl, f, C, dx, _, _, rfl, S32.F.o, FC.own.cl, FC.nW, pf_worths a b, small (by show 2 ≤ 100000; decide), fun u7 g7 => ?_⟩
        have s33 := same_upd (o := .tup [V.ref a, V.ref b]) g7
        have S33 := S32.same s33
        refine ⟨_, rfl, _, _, rfl, eqs_tup (d := 4) upd_same S33.e5 (fun z hz => ?_), fun H34 s34 => k _⟩
        simp only [List.mem_cons, List.not_mem_nil, or_false] at hz
        rcases hz with rfl | rfl
        · exact eqs_flat (d := 2) S33.F.p S33.F.p (flat_ov2 _)
        · exact eqs_flat (d := 2) S33.F.w S33.F.w (flat_int2 _)

end
end W2
namespace W2
open PySem PySem.Spec PyProof.Rows L2

theorem def_mk {K : PySem.W.Frag} {h : Heap} {mg : Str → Option Value} (X : K.In h) (G : h.Ns mainGlobals mg) {x : Str} {st : Stmt} {ps : List Str} {f : Addr} {oc : Value} {od an : Option Addr} {osl : Array (Option Value)} {kV doc pm cdv ct : Value}
    (a : PySem.W.nsIn K mainGlobals x = some (some (.ref f))) (l : K.lookup f = some ⟨oc, od, .func (PySem.W.fnOf x x (defArgs st) (defBody st) (defScope st) .none kV doc pm an cdv ct), osl⟩) (c : PySem.W.codeIn K cdv x = true) (k : PySem.W.keepIn K (.ref f) = true)
    (b : ∀ (kV doc pm : Value) (an : Option Addr) (cdv ct : Value) (us : List Value), us.length = ps.length → bindArgs (PySem.W.fnOf x x (defArgs st) (defBody st) (defScope st) .none kV doc pm an cdv ct) ⟨us, []⟩ = pure (ps.zip us)) : Def K mg x st ps :=
  ⟨f, _, fun_mk (st := st) l c k, PySem.W.mg_of X G a, (fun_mk (st := st) l c k).binds b⟩
theorem txt_mk {K : PySem.W.Frag} {h : Heap} {mg : Str → Option Value} (X : K.In h) (G : h.Ns mainGlobals mg) {t : Tok} (n_len : PySem.W.nsIn K mainGlobals "len" = some none) (n_isinstance : PySem.W.nsIn K mainGlobals "isinstance" = some none) (n_int : PySem.W.nsIn K mainGlobals "int" = some none) (n_bool : PySem.W.nsIn K mainGlobals "bool" = some none) (n_str : PySem.W.nsIn K mainGlobals "str" = some none) (n_tuple : PySem.W.nsIn K mainGlobals "tuple" = some none) (n_list : PySem.W.nsIn K mainGlobals "list" = some none) (n_range : PySem.W.nsIn K mainGlobals "range" = some none) (n_zip : PySem.W.nsIn K mainGlobals "zip" = some none) (n_max : PySem.W.nsIn K mainGlobals "max" = some none) (n_all : PySem.W.nsIn K mainGlobals "all" = some none) (n_enumerate : PySem.W.nsIn K mainGlobals "enumerate" = some none) (most : PySem.W.nsIn K mainGlobals "MOST_HOUSES" = some (some (.int 64 t))) : Txt K mg :=
  ⟨PySem.W.mg_none_of X G n_len, PySem.W.mg_none_of X G n_isinstance, PySem.W.mg_none_of X G n_int, PySem.W.mg_none_of X G n_bool, PySem.W.mg_none_of X G n_str, PySem.W.mg_none_of X G n_tuple, PySem.W.mg_none_of X G n_list, PySem.W.mg_none_of X G n_range, PySem.W.mg_none_of X G n_zip, PySem.W.mg_none_of X G n_max, PySem.W.mg_none_of X G n_all, PySem.W.mg_none_of X G n_enumerate, ⟨t, PySem.W.mg_of X G most⟩⟩
/-- the law, from what the top has left -/
theorem ok_all {P : Program} {w : World} {K : PySem.W.Frag} {mg : Str → Option Value} {base : Heap} {C fI CN fN CD fD fF t1 t2 t3 t4 t5 : Addr} {fdI : FuncData} (T : Txt K mg) (FC : ForC K mg C fI) (FN : PySem.XNoDeed.TxtNoDeed K mg CN fN) (FB : PySem.XBadDeeds.TxtBadDeeds K mg CD fD) (FD : ForD K w mg fF t1 t2 t3 t4 t5) (F : Fun K "__init__" "Forest.__init__" s_init fI fdI) (bI : Binds K fdI ["self", "parents", "worths"] [])
    {f0 : Addr} {fd0 : FuncData} (FL : Fun K "law" "law" s_law f0 fd0) (D_isint : Def K mg "is_integer" s_isint ["thing"]) (D_ishouse : Def K mg "is_house" s_ishouse ["many", "thing"]) (D_arepar : Def K mg "_are_parents" s_arepar ["thing"]) (D_come : Def K mg "_come_to_roots" s_come ["parents"]) (D_arewor : Def K mg "_are_worths" s_arewor ["thing", "houses"]) (D_many : Def K mg "many" s_many ["forest"]) (D_root : Def K mg "root" s_root ["forest", "house"]) (D_way : Def K mg "way" s_way ["forest", "one", "other"]) (D_common : Def K mg "common" s_common ["forest", "one", "other"]) (D_wayup : Def K mg "_way_up" s_wayup ["forest", "house"]) (D_need : Def K mg "_need_house" s_need ["forest", "thing"]) (D_isdeed : Def K mg "is_deed" s_isdeed ["forest", "thing"]) (D_behind : Def K mg "behind" s_behind ["forest", "deed"]) (D_led : Def K mg "led" s_led ["forest", "deeds"]) (D_hasform : Def K mg "_has_form" s_hasform ["houses", "thing"]) (D_fits : Def K mg "_fits" s_fits ["houses", "part", "kind"]) (D_can : Def K mg "_can_be_done" s_can ["forest", "deed"]) (D_done : Def K mg "_done" s_done ["forest", "deed"]) (D_withitem : Def K mg "_with_item" s_withitem ["row", "at", "item"]) (D_turned : Def K mg "_turned_parents" s_turned ["forest", "house"]) (D_raised : Def K mg "_raised_worths" s_raised ["forest", "houses", "number"]) (D_lhand : Def K mg "_law_hand" s_lhand ["_law_script"]) (D_take : Def K mg "_law_take" s_take ["_law_hand_here", "_law_size"]) (D_pick : Def K mg "_law_pick" s_pick ["_law_hand_here", "_law_things"]) (D_lisint : Def K mg "_law_is_integer" s_lisint ["_law_thing"]) (D_within : Def K mg "_law_is_within" s_within ["_law_thing", "_law_least", "_law_most"]) (D_same : Def K mg "_law_same" s_same ["_law_actual", "_law_due"]) (D_odd : Def K mg "_law_odd" s_odd ["_law_hand_here"]) (D_value : Def K mg "_law_value" s_value ["_law_hand_here"]) (D_parents : Def K mg "_law_parents" s_parents ["_law_hand_here", "_law_size"]) (D_plain : Def K mg "_law_plain" s_plain ["_law_hand_here", "_law_sizes"]) (D_fof : Def K mg "_law_forest_of" s_fof ["_law_plain_here"]) (D_lup : Def K mg "_law_up" s_lup ["_law_parents_here", "_law_house"]) (D_lroot : Def K mg "_law_root" s_lroot ["_law_parents_here", "_law_house"]) (D_lcommon : Def K mg "_law_common" s_lcommon ["_law_parents_here", "_law_one", "_law_other"]) (D_lway : Def K mg "_law_way" s_lway ["_law_parents_here", "_law_one", "_law_other"]) (D_arehouses : Def K mg "_law_are_houses" s_arehouses ["_law_size", "_law_things"]) (D_deedform : Def K mg "_law_deed_form" s_deedform ["_law_size", "_law_thing"]) (D_lcan : Def K mg "_law_can" s_lcan ["_law_plain_here", "_law_thing"]) (D_lbehind : Def K mg "_law_behind" s_lbehind ["_law_plain_here", "_law_deed_here"]) (D_ldeed : Def K mg "_law_deed" s_ldeed ["_law_hand_here", "_law_plain_here"]) (D_bent : Def K mg "_law_bent" s_bent ["_law_hand_here", "_law_thing"]) (D_told : Def K mg "_law_told" s_told ["_law_forest", "_law_thing"]) (D_ledtold : Def K mg "_law_led_told" s_ledtold ["_law_forest", "_law_deeds"]) (D_some : Def K mg "_law_some" s_some ["_law_hand_here", "_law_plain_here"]) : FnOk P w K mg base CX0 11 f0 fd0 ["_law_script"] (spLaw K) := by
  have C_isint : Cal P w K mg base 1 "is_integer" ["thing"] (spIsInt C) := ok_isint D_isint T FC
  have C_ishouse : Cal P w K mg base 2 "is_house" ["many", "thing"] (spIsHouse C) := ok_ishouse D_ishouse T C_isint
  have C_isint2 : Cal P w K mg base 1 "is_integer" ["thing"] spIsInt2 := C_isint.mono fun vs H Q E ⟨i, e, r⟩ => ⟨C, .int i, e, .int i, r⟩
  have C_ishouse2 : Cal P w K mg base 2 "is_house" ["many", "thing"] spIsHouse2 := C_ishouse.mono fun vs H Q E ⟨n, i, e, h0, h1, r⟩ => ⟨C, n, .int i, e, .int i, (by have e2 : hsV n (.int i) = true := (by show (decide (0 ≤ i) && decide (i < n)) = true; rw [decide_eq_true h0, decide_eq_true h1]; rfl); rw [e2]; exact r)⟩
  have C_come : Cal P w K mg base 1 "_come_to_roots" ["parents"] (spCome K) := ok_come D_come T
  have C_arepar : Cal P w K mg base 3 "_are_parents" ["thing"] (spAreP K) := ok_arepar D_arepar T C_ishouse2 C_come
  have C_arewor : Cal P w K mg base 2 "_are_worths" ["thing", "houses"] (spAreW K) := ok_arewor D_arewor T C_isint2
  have FI : FnOk P w K mg base CX0 4 fI fdI ["self", "parents", "worths"] (spInit C) := ok_init F T C_arepar C_arewor FC
  have C_many : Cal P w K mg base 1 "many" ["forest"] (spMany C) := ok_many D_many T FC
  have C_need : Cal P w K mg base 3 "_need_house" ["forest", "thing"] (spNeed C) := ok_need D_need T C_ishouse2 C_many
  have C_wayup : Cal P w K mg base 4 "_way_up" ["forest", "house"] (spWayUp C) := ok_wayup D_wayup T C_need FC
  have C_root : Cal P w K mg base 5 "root" ["forest", "house"] (spRoot C) := ok_root D_root T C_wayup
  have C_common : Cal P w K mg base 5 "common" ["forest", "one", "other"] (spCommon C) := ok_common D_common T C_wayup
  have C_way : Cal P w K mg base 6 "way" ["forest", "one", "other"] (spWay C) := ok_way D_way T C_common C_wayup
  have C_withitem : Cal P w K mg base 1 "_with_item" ["row", "at", "item"] spWithItem := ok_withitem D_withitem T
  have C_raised : Cal P w K mg base 1 "_raised_worths" ["forest", "houses", "number"] (spRaised C) := ok_raised D_raised T FC
  have C_turned : Cal P w K mg base 7 "_turned_parents" ["forest", "house"] (spTurned C) := ok_turned D_turned T C_way C_root FC
  have C_done : Cal P w K mg base 8 "_done" ["forest", "deed"] (spDone C) := ok_done D_done T C_withitem C_turned C_raised C_way FC FI bI
  have C_can : Cal P w K mg base 6 "_can_be_done" ["forest", "deed"] (spCan C) := ok_can D_can T C_root FC
  have C_fits : Cal P w K mg base 3 "_fits" ["houses", "part", "kind"] (spFits C) := ok_fits D_fits T C_ishouse C_isint
  have C_hasform : Cal P w K mg base 4 "_has_form" ["houses", "thing"] (spHasForm C) := ok_hasform D_hasform T C_fits FC FD
  have C_isdeed : Cal P w K mg base 7 "is_deed" ["forest", "thing"] (spIsDeed C) := ok_isdeed D_isdeed T C_hasform C_many C_can FC
  have C_behind : CalX P w K mg base 9 "behind" ["forest", "deed"] (spBehind C CN) := ok_behind D_behind T C_isdeed C_done FC FN
  have C_led : CalX P w K mg base 9 "led" ["forest", "deeds"] (spLed C CD) := ok_led D_led T C_isdeed C_done FC FB
  have C_lhand : Cal P w K mg base 1 "_law_hand" ["_law_script"] (spHand K) := ok_lhand D_lhand T
  have C_take : Cal P w K mg base 1 "_law_take" ["_law_hand_here", "_law_size"] spTake := ok_take D_take T
  have C_pick : Cal P w K mg base 2 "_law_pick" ["_law_hand_here", "_law_things"] spPick := ok_pick D_pick T C_take
  have C_lisint : Cal P w K mg base 1 "_law_is_integer" ["_law_thing"] (spIsInt C) := ok_lisint D_lisint T FC
  have C_within : Cal P w K mg base 2 "_law_is_within" ["_law_thing", "_law_least", "_law_most"] (spWithin C) := ok_within D_within T C_lisint
  have C_same : Cal P w K mg base 7 "_law_same" ["_law_actual", "_law_due"] (spSame 5) := ok_same D_same T C_lisint 5
  have C_odd : Cal P w K mg base 2 "_law_odd" ["_law_hand_here"] (spOdd C) := ok_odd D_odd T C_take
  have C_value : Cal P w K mg base 3 "_law_value" ["_law_hand_here"] spValue := ok_value D_value T C_pick C_take
  have C_parents : Cal P w K mg base 2 "_law_parents" ["_law_hand_here", "_law_size"] spParents := ok_parents D_parents T C_take
  have C_plain : Cal P w K mg base 4 "_law_plain" ["_law_hand_here", "_law_sizes"] spPlain := ok_plain D_plain T C_pick C_parents C_value
  have C_fof : Cal P w K mg base 6 "_law_forest_of" ["_law_plain_here"] (spFof C) := ok_fof D_fof T FC FI bI
  have C_lup : Cal P w K mg base 1 "_law_up" ["_law_parents_here", "_law_house"] spLUp := ok_lup D_lup T
  have C_lroot : Cal P w K mg base 2 "_law_root" ["_law_parents_here", "_law_house"] spLRoot := ok_lroot D_lroot T C_lup
  have C_lcommon : Cal P w K mg base 2 "_law_common" ["_law_parents_here", "_law_one", "_law_other"] spLCommon := ok_lcommon D_lcommon T C_lup
  have C_lway : Cal P w K mg base 3 "_law_way" ["_law_parents_here", "_law_one", "_law_other"] spLWay := ok_lway D_lway T C_lcommon C_lup
  have C_arehouses : Cal P w K mg base 3 "_law_are_houses" ["_law_size", "_law_things"] (spAreHouses C) := ok_arehouses D_arehouses T C_within
  have C_deedform : Cal P w K mg base 4 "_law_deed_form" ["_law_size", "_law_thing"] (spHasForm C) := ok_deedform D_deedform T C_arehouses C_lisint FC
  have C_lcan : Cal P w K mg base 5 "_law_can" ["_law_plain_here", "_law_thing"] (spLCan C) := ok_lcan D_lcan T C_deedform C_lroot C_lcommon
  have C_lbehind : Cal P w K mg base 4 "_law_behind" ["_law_plain_here", "_law_deed_here"] spLBehind := ok_lbehind D_lbehind T C_lup C_lway
  have C_ldeed : Cal P w K mg base 4 "_law_deed" ["_law_hand_here", "_law_plain_here"] spLDeed := ok_ldeed D_ldeed T C_take C_lroot C_value C_lcommon
  have C_bent : Cal P w K mg base 3 "_law_bent" ["_law_hand_here", "_law_thing"] (spBent C) := ok_bent D_bent T C_take C_pick C_odd
  have C_told : Cal P w K mg base 10 "_law_told" ["_law_forest", "_law_thing"] (spTold C) := ok_told D_told T C_behind FC FN
  have C_ledtold : Cal P w K mg base 10 "_law_led_told" ["_law_forest", "_law_deeds"] (spLedTold C) := ok_ledtold D_ledtold T C_led FC FB
  have C_some : Cal P w K mg base 5 "_law_some" ["_law_hand_here", "_law_plain_here"] (spSome C) := ok_some D_some T C_ldeed C_take C_bent C_pick
  exact ok_law FL T C_lhand C_plain C_fof C_take C_some C_lcan C_isdeed C_lbehind C_told C_ledtold C_pick FC C_same
/-- an error of the class at S is what «except S» names -/
theorem exm_self {K : PySem.W.Frag} {S : Addr} (h1 : PySem.W.subIn K (.ref S) (.type "BaseException") = some true) (h2 : PySem.W.isClsIn K S = true) (h3 : PySem.W.typeIn K (.ref S) = some (.type "type")) (h4 : PySem.W.subIn K (.ref S) (.ref S) = some true) :
    PySem.W.exmOne K (.ref S) (.ref S) = some true := by
  have e1 : (PySem.W.subIn K (.ref S) (.type "BaseException") == some true) = true := by rw [h1] <;> rfl
  have e2 : ((PySem.W.clsIn K S).isSome && PySem.W.typeIn K (.ref S) == some (.type "type")) = true := by
    have h2' : (PySem.W.clsIn K S).isSome = true := h2
    rw [h2', h3] <;> rfl
  show (if (PySem.W.subIn K (.ref S) (.type "BaseException") == some true) = true then (if ((PySem.W.clsIn K S).isSome && PySem.W.typeIn K (.ref S) == some (.type "type")) = true then PySem.W.subIn K (.ref S) (.ref S) else none) else none) = some true
  rw [if_pos e1, if_pos e2]
  exact h4
theorem walk {l : PySem.W.OpenLaw} {q : Program} {loose : List Str} {XP : (Str → Option Value) → Heap → Prop} {YP : World → Heap → Prop} {d : DefRec} {K : Params → PySem.W.Frag} (hn : l.most = some 63) (hdf : d.params.defaults = [])
    (hY : ∀ (w : World) (h : Heap), YP w h → (K w.params).In h)
    (F : ∀ (w : World) (mg : Str → Option Value) (fa : Addr) (h : Heap), (K w.params).In h → h.Ns mainGlobals mg → mg d.name = some (.ref fa) →
      ∃ fd : FuncData, (∀ (s : Shared) (u : Value), BindsTo s fd ⟨[u], []⟩ [("_law_script", u)]) ∧ ∀ base : Heap, (K w.params).In base → base.Ns mainGlobals mg → FnOk l.prog w (K w.params) mg base CX0 11 fa fd ["_law_script"] (spLaw (K w.params))) :
    PySem.W.WalkO q loose XP YP l.row.toRowW d [] (fun f vs => PySem.call f vs) :=
  L2.walk_of (n := 63) (k := 11) (x := "_law_script") (CX := fun _ => CX0) (sp := fun w => spLaw (K w.params)) hn (by decide) hdf ⟨rfl, by decide, by decide⟩ hY F (fun _ _ a ns hl _ hS => ⟨a, ns, rfl, hS, hl, fun _ => rfl⟩) fun _ _ _ _ _ z => z

theorem all_mk {P : Program} {w : World} {K : PySem.W.Frag} {h : Heap} {mg : Str → Option Value} {fa C CN CFn fN CD CFb fD fF t1 t2 t3 t4 t5 f_isint f_ishouse f_init f_arepar f_come f_arewor f_many f_root f_way f_common f_wayup f_need f_isdeed f_behind f_led f_hasform f_fits f_can f_done f_withitem f_turned f_raised f_lhand f_take f_pick f_lisint f_within f_same f_odd f_value f_parents f_plain f_fof f_lup f_lroot f_lcommon f_lway f_arehouses f_deedform f_lcan f_lbehind f_ldeed f_bent f_told f_ledtold f_some f_law : Addr} (X : K.In h) (G : h.Ns mainGlobals mg) (hfa : mg "law" = some (.ref fa))
    {od_isint an_isint : Option Addr} {sl_isint : Array (Option Value)} {oc_isint kV_isint dc_isint pm_isint cd_isint ct_isint : Value} (a_isint : PySem.W.nsIn K mainGlobals "is_integer" = some (some (.ref f_isint)))
    (l_isint : K.lookup f_isint = some ⟨oc_isint, od_isint, .func (PySem.W.fnOf "is_integer" "is_integer" (defArgs s_isint) (defBody s_isint) (defScope s_isint) .none kV_isint dc_isint pm_isint an_isint cd_isint ct_isint), sl_isint⟩) (c_isint : PySem.W.codeIn K cd_isint "is_integer" = true) (k_isint : PySem.W.keepIn K (.ref f_isint) = true)
    {od_ishouse an_ishouse : Option Addr} {sl_ishouse : Array (Option Value)} {oc_ishouse kV_ishouse dc_ishouse pm_ishouse cd_ishouse ct_ishouse : Value} (a_ishouse : PySem.W.nsIn K mainGlobals "is_house" = some (some (.ref f_ishouse)))
    (l_ishouse : K.lookup f_ishouse = some ⟨oc_ishouse, od_ishouse, .func (PySem.W.fnOf "is_house" "is_house" (defArgs s_ishouse) (defBody s_ishouse) (defScope s_ishouse) .none kV_ishouse dc_ishouse pm_ishouse an_ishouse cd_ishouse ct_ishouse), sl_ishouse⟩) (c_ishouse : PySem.W.codeIn K cd_ishouse "is_house" = true) (k_ishouse : PySem.W.keepIn K (.ref f_ishouse) = true)
    {od_init an_init : Option Addr} {sl_init : Array (Option Value)} {oc_init kV_init dc_init pm_init cd_init ct_init : Value} (a_init : PySem.W.findIn K (.ref C) "__init__" = some (some (.ref f_init)))
    (l_init : K.lookup f_init = some ⟨oc_init, od_init, .func (PySem.W.fnOf "__init__" "Forest.__init__" (defArgs s_init) (defBody s_init) (defScope s_init) .none kV_init dc_init pm_init an_init cd_init ct_init), sl_init⟩) (c_init : PySem.W.codeIn K cd_init "Forest.__init__" = true) (k_init : PySem.W.keepIn K (.ref f_init) = true)
    {od_arepar an_arepar : Option Addr} {sl_arepar : Array (Option Value)} {oc_arepar kV_arepar dc_arepar pm_arepar cd_arepar ct_arepar : Value} (a_arepar : PySem.W.nsIn K mainGlobals "_are_parents" = some (some (.ref f_arepar)))
    (l_arepar : K.lookup f_arepar = some ⟨oc_arepar, od_arepar, .func (PySem.W.fnOf "_are_parents" "_are_parents" (defArgs s_arepar) (defBody s_arepar) (defScope s_arepar) .none kV_arepar dc_arepar pm_arepar an_arepar cd_arepar ct_arepar), sl_arepar⟩) (c_arepar : PySem.W.codeIn K cd_arepar "_are_parents" = true) (k_arepar : PySem.W.keepIn K (.ref f_arepar) = true)
    {od_come an_come : Option Addr} {sl_come : Array (Option Value)} {oc_come kV_come dc_come pm_come cd_come ct_come : Value} (a_come : PySem.W.nsIn K mainGlobals "_come_to_roots" = some (some (.ref f_come)))
    (l_come : K.lookup f_come = some ⟨oc_come, od_come, .func (PySem.W.fnOf "_come_to_roots" "_come_to_roots" (defArgs s_come) (defBody s_come) (defScope s_come) .none kV_come dc_come pm_come an_come cd_come ct_come), sl_come⟩) (c_come : PySem.W.codeIn K cd_come "_come_to_roots" = true) (k_come : PySem.W.keepIn K (.ref f_come) = true)
    {od_arewor an_arewor : Option Addr} {sl_arewor : Array (Option Value)} {oc_arewor kV_arewor dc_arewor pm_arewor cd_arewor ct_arewor : Value} (a_arewor : PySem.W.nsIn K mainGlobals "_are_worths" = some (some (.ref f_arewor)))
    (l_arewor : K.lookup f_arewor = some ⟨oc_arewor, od_arewor, .func (PySem.W.fnOf "_are_worths" "_are_worths" (defArgs s_arewor) (defBody s_arewor) (defScope s_arewor) .none kV_arewor dc_arewor pm_arewor an_arewor cd_arewor ct_arewor), sl_arewor⟩) (c_arewor : PySem.W.codeIn K cd_arewor "_are_worths" = true) (k_arewor : PySem.W.keepIn K (.ref f_arewor) = true)
    {od_many an_many : Option Addr} {sl_many : Array (Option Value)} {oc_many kV_many dc_many pm_many cd_many ct_many : Value} (a_many : PySem.W.nsIn K mainGlobals "many" = some (some (.ref f_many)))
    (l_many : K.lookup f_many = some ⟨oc_many, od_many, .func (PySem.W.fnOf "many" "many" (defArgs s_many) (defBody s_many) (defScope s_many) .none kV_many dc_many pm_many an_many cd_many ct_many), sl_many⟩) (c_many : PySem.W.codeIn K cd_many "many" = true) (k_many : PySem.W.keepIn K (.ref f_many) = true)
    {od_root an_root : Option Addr} {sl_root : Array (Option Value)} {oc_root kV_root dc_root pm_root cd_root ct_root : Value} (a_root : PySem.W.nsIn K mainGlobals "root" = some (some (.ref f_root)))
    (l_root : K.lookup f_root = some ⟨oc_root, od_root, .func (PySem.W.fnOf "root" "root" (defArgs s_root) (defBody s_root) (defScope s_root) .none kV_root dc_root pm_root an_root cd_root ct_root), sl_root⟩) (c_root : PySem.W.codeIn K cd_root "root" = true) (k_root : PySem.W.keepIn K (.ref f_root) = true)
    {od_way an_way : Option Addr} {sl_way : Array (Option Value)} {oc_way kV_way dc_way pm_way cd_way ct_way : Value} (a_way : PySem.W.nsIn K mainGlobals "way" = some (some (.ref f_way)))
    (l_way : K.lookup f_way = some ⟨oc_way, od_way, .func (PySem.W.fnOf "way" "way" (defArgs s_way) (defBody s_way) (defScope s_way) .none kV_way dc_way pm_way an_way cd_way ct_way), sl_way⟩) (c_way : PySem.W.codeIn K cd_way "way" = true) (k_way : PySem.W.keepIn K (.ref f_way) = true)
    {od_common an_common : Option Addr} {sl_common : Array (Option Value)} {oc_common kV_common dc_common pm_common cd_common ct_common : Value} (a_common : PySem.W.nsIn K mainGlobals "common" = some (some (.ref f_common)))
    (l_common : K.lookup f_common = some ⟨oc_common, od_common, .func (PySem.W.fnOf "common" "common" (defArgs s_common) (defBody s_common) (defScope s_common) .none kV_common dc_common pm_common an_common cd_common ct_common), sl_common⟩) (c_common : PySem.W.codeIn K cd_common "common" = true) (k_common : PySem.W.keepIn K (.ref f_common) = true)
    {od_wayup an_wayup : Option Addr} {sl_wayup : Array (Option Value)} {oc_wayup kV_wayup dc_wayup pm_wayup cd_wayup ct_wayup : Value} (a_wayup : PySem.W.nsIn K mainGlobals "_way_up" = some (some (.ref f_wayup)))
    (l_wayup : K.lookup f_wayup = some ⟨oc_wayup, od_wayup, .func (PySem.W.fnOf "_way_up" "_way_up" (defArgs s_wayup) (defBody s_wayup) (defScope s_wayup) .none kV_wayup dc_wayup pm_wayup an_wayup cd_wayup ct_wayup), sl_wayup⟩) (c_wayup : PySem.W.codeIn K cd_wayup "_way_up" = true) (k_wayup : PySem.W.keepIn K (.ref f_wayup) = true)
    {od_need an_need : Option Addr} {sl_need : Array (Option Value)} {oc_need kV_need dc_need pm_need cd_need ct_need : Value} (a_need : PySem.W.nsIn K mainGlobals "_need_house" = some (some (.ref f_need)))
    (l_need : K.lookup f_need = some ⟨oc_need, od_need, .func (PySem.W.fnOf "_need_house" "_need_house" (defArgs s_need) (defBody s_need) (defScope s_need) .none kV_need dc_need pm_need an_need cd_need ct_need), sl_need⟩) (c_need : PySem.W.codeIn K cd_need "_need_house" = true) (k_need : PySem.W.keepIn K (.ref f_need) = true)
    {od_isdeed an_isdeed : Option Addr} {sl_isdeed : Array (Option Value)} {oc_isdeed kV_isdeed dc_isdeed pm_isdeed cd_isdeed ct_isdeed : Value} (a_isdeed : PySem.W.nsIn K mainGlobals "is_deed" = some (some (.ref f_isdeed)))
    (l_isdeed : K.lookup f_isdeed = some ⟨oc_isdeed, od_isdeed, .func (PySem.W.fnOf "is_deed" "is_deed" (defArgs s_isdeed) (defBody s_isdeed) (defScope s_isdeed) .none kV_isdeed dc_isdeed pm_isdeed an_isdeed cd_isdeed ct_isdeed), sl_isdeed⟩) (c_isdeed : PySem.W.codeIn K cd_isdeed "is_deed" = true) (k_isdeed : PySem.W.keepIn K (.ref f_isdeed) = true)
    {od_behind an_behind : Option Addr} {sl_behind : Array (Option Value)} {oc_behind kV_behind dc_behind pm_behind cd_behind ct_behind : Value} (a_behind : PySem.W.nsIn K mainGlobals "behind" = some (some (.ref f_behind)))
    (l_behind : K.lookup f_behind = some ⟨oc_behind, od_behind, .func (PySem.W.fnOf "behind" "behind" (defArgs s_behind) (defBody s_behind) (defScope s_behind) .none kV_behind dc_behind pm_behind an_behind cd_behind ct_behind), sl_behind⟩) (c_behind : PySem.W.codeIn K cd_behind "behind" = true) (k_behind : PySem.W.keepIn K (.ref f_behind) = true)
    {od_led an_led : Option Addr} {sl_led : Array (Option Value)} {oc_led kV_led dc_led pm_led cd_led ct_led : Value} (a_led : PySem.W.nsIn K mainGlobals "led" = some (some (.ref f_led)))
    (l_led : K.lookup f_led = some ⟨oc_led, od_led, .func (PySem.W.fnOf "led" "led" (defArgs s_led) (defBody s_led) (defScope s_led) .none kV_led dc_led pm_led an_led cd_led ct_led), sl_led⟩) (c_led : PySem.W.codeIn K cd_led "led" = true) (k_led : PySem.W.keepIn K (.ref f_led) = true)
    {od_hasform an_hasform : Option Addr} {sl_hasform : Array (Option Value)} {oc_hasform kV_hasform dc_hasform pm_hasform cd_hasform ct_hasform : Value} (a_hasform : PySem.W.nsIn K mainGlobals "_has_form" = some (some (.ref f_hasform)))
    (l_hasform : K.lookup f_hasform = some ⟨oc_hasform, od_hasform, .func (PySem.W.fnOf "_has_form" "_has_form" (defArgs s_hasform) (defBody s_hasform) (defScope s_hasform) .none kV_hasform dc_hasform pm_hasform an_hasform cd_hasform ct_hasform), sl_hasform⟩) (c_hasform : PySem.W.codeIn K cd_hasform "_has_form" = true) (k_hasform : PySem.W.keepIn K (.ref f_hasform) = true)
    {od_fits an_fits : Option Addr} {sl_fits : Array (Option Value)} {oc_fits kV_fits dc_fits pm_fits cd_fits ct_fits : Value} (a_fits : PySem.W.nsIn K mainGlobals "_fits" = some (some (.ref f_fits)))
    (l_fits : K.lookup f_fits = some ⟨oc_fits, od_fits, .func (PySem.W.fnOf "_fits" "_fits" (defArgs s_fits) (defBody s_fits) (defScope s_fits) .none kV_fits dc_fits pm_fits an_fits cd_fits ct_fits), sl_fits⟩) (c_fits : PySem.W.codeIn K cd_fits "_fits" = true) (k_fits : PySem.W.keepIn K (.ref f_fits) = true)
    {od_can an_can : Option Addr} {sl_can : Array (Option Value)} {oc_can kV_can dc_can pm_can cd_can ct_can : Value} (a_can : PySem.W.nsIn K mainGlobals "_can_be_done" = some (some (.ref f_can)))
    (l_can : K.lookup f_can = some ⟨oc_can, od_can, .func (PySem.W.fnOf "_can_be_done" "_can_be_done" (defArgs s_can) (defBody s_can) (defScope s_can) .none kV_can dc_can pm_can an_can cd_can ct_can), sl_can⟩) (c_can : PySem.W.codeIn K cd_can "_can_be_done" = true) (k_can : PySem.W.keepIn K (.ref f_can) = true)
    {od_done an_done : Option Addr} {sl_done : Array (Option Value)} {oc_done kV_done dc_done pm_done cd_done ct_done : Value} (a_done : PySem.W.nsIn K mainGlobals "_done" = some (some (.ref f_done)))
    (l_done : K.lookup f_done = some ⟨oc_done, od_done, .func (PySem.W.fnOf "_done" "_done" (defArgs s_done) (defBody s_done) (defScope s_done) .none kV_done dc_done pm_done an_done cd_done ct_done), sl_done⟩) (c_done : PySem.W.codeIn K cd_done "_done" = true) (k_done : PySem.W.keepIn K (.ref f_done) = true)
    {od_withitem an_withitem : Option Addr} {sl_withitem : Array (Option Value)} {oc_withitem kV_withitem dc_withitem pm_withitem cd_withitem ct_withitem : Value} (a_withitem : PySem.W.nsIn K mainGlobals "_with_item" = some (some (.ref f_withitem)))
    (l_withitem : K.lookup f_withitem = some ⟨oc_withitem, od_withitem, .func (PySem.W.fnOf "_with_item" "_with_item" (defArgs s_withitem) (defBody s_withitem) (defScope s_withitem) .none kV_withitem dc_withitem pm_withitem an_withitem cd_withitem ct_withitem), sl_withitem⟩) (c_withitem : PySem.W.codeIn K cd_withitem "_with_item" = true) (k_withitem : PySem.W.keepIn K (.ref f_withitem) = true)
    {od_turned an_turned : Option Addr} {sl_turned : Array (Option Value)} {oc_turned kV_turned dc_turned pm_turned cd_turned ct_turned : Value} (a_turned : PySem.W.nsIn K mainGlobals "_turned_parents" = some (some (.ref f_turned)))
    (l_turned : K.lookup f_turned = some ⟨oc_turned, od_turned, .func (PySem.W.fnOf "_turned_parents" "_turned_parents" (defArgs s_turned) (defBody s_turned) (defScope s_turned) .none kV_turned dc_turned pm_turned an_turned cd_turned ct_turned), sl_turned⟩) (c_turned : PySem.W.codeIn K cd_turned "_turned_parents" = true) (k_turned : PySem.W.keepIn K (.ref f_turned) = true)
    {od_raised an_raised : Option Addr} {sl_raised : Array (Option Value)} {oc_raised kV_raised dc_raised pm_raised cd_raised ct_raised : Value} (a_raised : PySem.W.nsIn K mainGlobals "_raised_worths" = some (some (.ref f_raised)))
    (l_raised : K.lookup f_raised = some ⟨oc_raised, od_raised, .func (PySem.W.fnOf "_raised_worths" "_raised_worths" (defArgs s_raised) (defBody s_raised) (defScope s_raised) .none kV_raised dc_raised pm_raised an_raised cd_raised ct_raised), sl_raised⟩) (c_raised : PySem.W.codeIn K cd_raised "_raised_worths" = true) (k_raised : PySem.W.keepIn K (.ref f_raised) = true)
    {od_lhand an_lhand : Option Addr} {sl_lhand : Array (Option Value)} {oc_lhand kV_lhand dc_lhand pm_lhand cd_lhand ct_lhand : Value} (a_lhand : PySem.W.nsIn K mainGlobals "_law_hand" = some (some (.ref f_lhand)))
    (l_lhand : K.lookup f_lhand = some ⟨oc_lhand, od_lhand, .func (PySem.W.fnOf "_law_hand" "_law_hand" (defArgs s_lhand) (defBody s_lhand) (defScope s_lhand) .none kV_lhand dc_lhand pm_lhand an_lhand cd_lhand ct_lhand), sl_lhand⟩) (c_lhand : PySem.W.codeIn K cd_lhand "_law_hand" = true) (k_lhand : PySem.W.keepIn K (.ref f_lhand) = true)
    {od_take an_take : Option Addr} {sl_take : Array (Option Value)} {oc_take kV_take dc_take pm_take cd_take ct_take : Value} (a_take : PySem.W.nsIn K mainGlobals "_law_take" = some (some (.ref f_take)))
    (l_take : K.lookup f_take = some ⟨oc_take, od_take, .func (PySem.W.fnOf "_law_take" "_law_take" (defArgs s_take) (defBody s_take) (defScope s_take) .none kV_take dc_take pm_take an_take cd_take ct_take), sl_take⟩) (c_take : PySem.W.codeIn K cd_take "_law_take" = true) (k_take : PySem.W.keepIn K (.ref f_take) = true)
    {od_pick an_pick : Option Addr} {sl_pick : Array (Option Value)} {oc_pick kV_pick dc_pick pm_pick cd_pick ct_pick : Value} (a_pick : PySem.W.nsIn K mainGlobals "_law_pick" = some (some (.ref f_pick)))
    (l_pick : K.lookup f_pick = some ⟨oc_pick, od_pick, .func (PySem.W.fnOf "_law_pick" "_law_pick" (defArgs s_pick) (defBody s_pick) (defScope s_pick) .none kV_pick dc_pick pm_pick an_pick cd_pick ct_pick), sl_pick⟩) (c_pick : PySem.W.codeIn K cd_pick "_law_pick" = true) (k_pick : PySem.W.keepIn K (.ref f_pick) = true)
    {od_lisint an_lisint : Option Addr} {sl_lisint : Array (Option Value)} {oc_lisint kV_lisint dc_lisint pm_lisint cd_lisint ct_lisint : Value} (a_lisint : PySem.W.nsIn K mainGlobals "_law_is_integer" = some (some (.ref f_lisint)))
    (l_lisint : K.lookup f_lisint = some ⟨oc_lisint, od_lisint, .func (PySem.W.fnOf "_law_is_integer" "_law_is_integer" (defArgs s_lisint) (defBody s_lisint) (defScope s_lisint) .none kV_lisint dc_lisint pm_lisint an_lisint cd_lisint ct_lisint), sl_lisint⟩) (c_lisint : PySem.W.codeIn K cd_lisint "_law_is_integer" = true) (k_lisint : PySem.W.keepIn K (.ref f_lisint) = true)
    {od_within an_within : Option Addr} {sl_within : Array (Option Value)} {oc_within kV_within dc_within pm_within cd_within ct_within : Value} (a_within : PySem.W.nsIn K mainGlobals "_law_is_within" = some (some (.ref f_within)))
    (l_within : K.lookup f_within = some ⟨oc_within, od_within, .func (PySem.W.fnOf "_law_is_within" "_law_is_within" (defArgs s_within) (defBody s_within) (defScope s_within) .none kV_within dc_within pm_within an_within cd_within ct_within), sl_within⟩) (c_within : PySem.W.codeIn K cd_within "_law_is_within" = true) (k_within : PySem.W.keepIn K (.ref f_within) = true)
    {od_same an_same : Option Addr} {sl_same : Array (Option Value)} {oc_same kV_same dc_same pm_same cd_same ct_same : Value} (a_same : PySem.W.nsIn K mainGlobals "_law_same" = some (some (.ref f_same)))
    (l_same : K.lookup f_same = some ⟨oc_same, od_same, .func (PySem.W.fnOf "_law_same" "_law_same" (defArgs s_same) (defBody s_same) (defScope s_same) .none kV_same dc_same pm_same an_same cd_same ct_same), sl_same⟩) (c_same : PySem.W.codeIn K cd_same "_law_same" = true) (k_same : PySem.W.keepIn K (.ref f_same) = true)
    {od_odd an_odd : Option Addr} {sl_odd : Array (Option Value)} {oc_odd kV_odd dc_odd pm_odd cd_odd ct_odd : Value} (a_odd : PySem.W.nsIn K mainGlobals "_law_odd" = some (some (.ref f_odd)))
    (l_odd : K.lookup f_odd = some ⟨oc_odd, od_odd, .func (PySem.W.fnOf "_law_odd" "_law_odd" (defArgs s_odd) (defBody s_odd) (defScope s_odd) .none kV_odd dc_odd pm_odd an_odd cd_odd ct_odd), sl_odd⟩) (c_odd : PySem.W.codeIn K cd_odd "_law_odd" = true) (k_odd : PySem.W.keepIn K (.ref f_odd) = true)
    {od_value an_value : Option Addr} {sl_value : Array (Option Value)} {oc_value kV_value dc_value pm_value cd_value ct_value : Value} (a_value : PySem.W.nsIn K mainGlobals "_law_value" = some (some (.ref f_value)))
    (l_value : K.lookup f_value = some ⟨oc_value, od_value, .func (PySem.W.fnOf "_law_value" "_law_value" (defArgs s_value) (defBody s_value) (defScope s_value) .none kV_value dc_value pm_value an_value cd_value ct_value), sl_value⟩) (c_value : PySem.W.codeIn K cd_value "_law_value" = true) (k_value : PySem.W.keepIn K (.ref f_value) = true)
    {od_parents an_parents : Option Addr} {sl_parents : Array (Option Value)} {oc_parents kV_parents dc_parents pm_parents cd_parents ct_parents : Value} (a_parents : PySem.W.nsIn K mainGlobals "_law_parents" = some (some (.ref f_parents)))
    (l_parents : K.lookup f_parents = some ⟨oc_parents, od_parents, .func (PySem.W.fnOf "_law_parents" "_law_parents" (defArgs s_parents) (defBody s_parents) (defScope s_parents) .none kV_parents dc_parents pm_parents an_parents cd_parents ct_parents), sl_parents⟩) (c_parents : PySem.W.codeIn K cd_parents "_law_parents" = true) (k_parents : PySem.W.keepIn K (.ref f_parents) = true)
    {od_plain an_plain : Option Addr} {sl_plain : Array (Option Value)} {oc_plain kV_plain dc_plain pm_plain cd_plain ct_plain : Value} (a_plain : PySem.W.nsIn K mainGlobals "_law_plain" = some (some (.ref f_plain)))
    (l_plain : K.lookup f_plain = some ⟨oc_plain, od_plain, .func (PySem.W.fnOf "_law_plain" "_law_plain" (defArgs s_plain) (defBody s_plain) (defScope s_plain) .none kV_plain dc_plain pm_plain an_plain cd_plain ct_plain), sl_plain⟩) (c_plain : PySem.W.codeIn K cd_plain "_law_plain" = true) (k_plain : PySem.W.keepIn K (.ref f_plain) = true)
    {od_fof an_fof : Option Addr} {sl_fof : Array (Option Value)} {oc_fof kV_fof dc_fof pm_fof cd_fof ct_fof : Value} (a_fof : PySem.W.nsIn K mainGlobals "_law_forest_of" = some (some (.ref f_fof)))
    (l_fof : K.lookup f_fof = some ⟨oc_fof, od_fof, .func (PySem.W.fnOf "_law_forest_of" "_law_forest_of" (defArgs s_fof) (defBody s_fof) (defScope s_fof) .none kV_fof dc_fof pm_fof an_fof cd_fof ct_fof), sl_fof⟩) (c_fof : PySem.W.codeIn K cd_fof "_law_forest_of" = true) (k_fof : PySem.W.keepIn K (.ref f_fof) = true)
    {od_lup an_lup : Option Addr} {sl_lup : Array (Option Value)} {oc_lup kV_lup dc_lup pm_lup cd_lup ct_lup : Value} (a_lup : PySem.W.nsIn K mainGlobals "_law_up" = some (some (.ref f_lup)))
    (l_lup : K.lookup f_lup = some ⟨oc_lup, od_lup, .func (PySem.W.fnOf "_law_up" "_law_up" (defArgs s_lup) (defBody s_lup) (defScope s_lup) .none kV_lup dc_lup pm_lup an_lup cd_lup ct_lup), sl_lup⟩) (c_lup : PySem.W.codeIn K cd_lup "_law_up" = true) (k_lup : PySem.W.keepIn K (.ref f_lup) = true)
    {od_lroot an_lroot : Option Addr} {sl_lroot : Array (Option Value)} {oc_lroot kV_lroot dc_lroot pm_lroot cd_lroot ct_lroot : Value} (a_lroot : PySem.W.nsIn K mainGlobals "_law_root" = some (some (.ref f_lroot)))
    (l_lroot : K.lookup f_lroot = some ⟨oc_lroot, od_lroot, .func (PySem.W.fnOf "_law_root" "_law_root" (defArgs s_lroot) (defBody s_lroot) (defScope s_lroot) .none kV_lroot dc_lroot pm_lroot an_lroot cd_lroot ct_lroot), sl_lroot⟩) (c_lroot : PySem.W.codeIn K cd_lroot "_law_root" = true) (k_lroot : PySem.W.keepIn K (.ref f_lroot) = true)
    {od_lcommon an_lcommon : Option Addr} {sl_lcommon : Array (Option Value)} {oc_lcommon kV_lcommon dc_lcommon pm_lcommon cd_lcommon ct_lcommon : Value} (a_lcommon : PySem.W.nsIn K mainGlobals "_law_common" = some (some (.ref f_lcommon)))
    (l_lcommon : K.lookup f_lcommon = some ⟨oc_lcommon, od_lcommon, .func (PySem.W.fnOf "_law_common" "_law_common" (defArgs s_lcommon) (defBody s_lcommon) (defScope s_lcommon) .none kV_lcommon dc_lcommon pm_lcommon an_lcommon cd_lcommon ct_lcommon), sl_lcommon⟩) (c_lcommon : PySem.W.codeIn K cd_lcommon "_law_common" = true) (k_lcommon : PySem.W.keepIn K (.ref f_lcommon) = true)
    {od_lway an_lway : Option Addr} {sl_lway : Array (Option Value)} {oc_lway kV_lway dc_lway pm_lway cd_lway ct_lway : Value} (a_lway : PySem.W.nsIn K mainGlobals "_law_way" = some (some (.ref f_lway)))
    (l_lway : K.lookup f_lway = some ⟨oc_lway, od_lway, .func (PySem.W.fnOf "_law_way" "_law_way" (defArgs s_lway) (defBody s_lway) (defScope s_lway) .none kV_lway dc_lway pm_lway an_lway cd_lway ct_lway), sl_lway⟩) (c_lway : PySem.W.codeIn K cd_lway "_law_way" = true) (k_lway : PySem.W.keepIn K (.ref f_lway) = true)
    {od_arehouses an_arehouses : Option Addr} {sl_arehouses : Array (Option Value)} {oc_arehouses kV_arehouses dc_arehouses pm_arehouses cd_arehouses ct_arehouses : Value} (a_arehouses : PySem.W.nsIn K mainGlobals "_law_are_houses" = some (some (.ref f_arehouses)))
    (l_arehouses : K.lookup f_arehouses = some ⟨oc_arehouses, od_arehouses, .func (PySem.W.fnOf "_law_are_houses" "_law_are_houses" (defArgs s_arehouses) (defBody s_arehouses) (defScope s_arehouses) .none kV_arehouses dc_arehouses pm_arehouses an_arehouses cd_arehouses ct_arehouses), sl_arehouses⟩) (c_arehouses : PySem.W.codeIn K cd_arehouses "_law_are_houses" = true) (k_arehouses : PySem.W.keepIn K (.ref f_arehouses) = true)
    {od_deedform an_deedform : Option Addr} {sl_deedform : Array (Option Value)} {oc_deedform kV_deedform dc_deedform pm_deedform cd_deedform ct_deedform : Value} (a_deedform : PySem.W.nsIn K mainGlobals "_law_deed_form" = some (some (.ref f_deedform)))
    (l_deedform : K.lookup f_deedform = some ⟨oc_deedform, od_deedform, .func (PySem.W.fnOf "_law_deed_form" "_law_deed_form" (defArgs s_deedform) (defBody s_deedform) (defScope s_deedform) .none kV_deedform dc_deedform pm_deedform an_deedform cd_deedform ct_deedform), sl_deedform⟩) (c_deedform : PySem.W.codeIn K cd_deedform "_law_deed_form" = true) (k_deedform : PySem.W.keepIn K (.ref f_deedform) = true)
    {od_lcan an_lcan : Option Addr} {sl_lcan : Array (Option Value)} {oc_lcan kV_lcan dc_lcan pm_lcan cd_lcan ct_lcan : Value} (a_lcan : PySem.W.nsIn K mainGlobals "_law_can" = some (some (.ref f_lcan)))
    (l_lcan : K.lookup f_lcan = some ⟨oc_lcan, od_lcan, .func (PySem.W.fnOf "_law_can" "_law_can" (defArgs s_lcan) (defBody s_lcan) (defScope s_lcan) .none kV_lcan dc_lcan pm_lcan an_lcan cd_lcan ct_lcan), sl_lcan⟩) (c_lcan : PySem.W.codeIn K cd_lcan "_law_can" = true) (k_lcan : PySem.W.keepIn K (.ref f_lcan) = true)
    {od_lbehind an_lbehind : Option Addr} {sl_lbehind : Array (Option Value)} {oc_lbehind kV_lbehind dc_lbehind pm_lbehind cd_lbehind ct_lbehind : Value} (a_lbehind : PySem.W.nsIn K mainGlobals "_law_behind" = some (some (.ref f_lbehind)))
    (l_lbehind : K.lookup f_lbehind = some ⟨oc_lbehind, od_lbehind, .func (PySem.W.fnOf "_law_behind" "_law_behind" (defArgs s_lbehind) (defBody s_lbehind) (defScope s_lbehind) .none kV_lbehind dc_lbehind pm_lbehind an_lbehind cd_lbehind ct_lbehind), sl_lbehind⟩) (c_lbehind : PySem.W.codeIn K cd_lbehind "_law_behind" = true) (k_lbehind : PySem.W.keepIn K (.ref f_lbehind) = true)
    {od_ldeed an_ldeed : Option Addr} {sl_ldeed : Array (Option Value)} {oc_ldeed kV_ldeed dc_ldeed pm_ldeed cd_ldeed ct_ldeed : Value} (a_ldeed : PySem.W.nsIn K mainGlobals "_law_deed" = some (some (.ref f_ldeed)))
    (l_ldeed : K.lookup f_ldeed = some ⟨oc_ldeed, od_ldeed, .func (PySem.W.fnOf "_law_deed" "_law_deed" (defArgs s_ldeed) (defBody s_ldeed) (defScope s_ldeed) .none kV_ldeed dc_ldeed pm_ldeed an_ldeed cd_ldeed ct_ldeed), sl_ldeed⟩) (c_ldeed : PySem.W.codeIn K cd_ldeed "_law_deed" = true) (k_ldeed : PySem.W.keepIn K (.ref f_ldeed) = true)
    {od_bent an_bent : Option Addr} {sl_bent : Array (Option Value)} {oc_bent kV_bent dc_bent pm_bent cd_bent ct_bent : Value} (a_bent : PySem.W.nsIn K mainGlobals "_law_bent" = some (some (.ref f_bent)))
    (l_bent : K.lookup f_bent = some ⟨oc_bent, od_bent, .func (PySem.W.fnOf "_law_bent" "_law_bent" (defArgs s_bent) (defBody s_bent) (defScope s_bent) .none kV_bent dc_bent pm_bent an_bent cd_bent ct_bent), sl_bent⟩) (c_bent : PySem.W.codeIn K cd_bent "_law_bent" = true) (k_bent : PySem.W.keepIn K (.ref f_bent) = true)
    {od_told an_told : Option Addr} {sl_told : Array (Option Value)} {oc_told kV_told dc_told pm_told cd_told ct_told : Value} (a_told : PySem.W.nsIn K mainGlobals "_law_told" = some (some (.ref f_told)))
    (l_told : K.lookup f_told = some ⟨oc_told, od_told, .func (PySem.W.fnOf "_law_told" "_law_told" (defArgs s_told) (defBody s_told) (defScope s_told) .none kV_told dc_told pm_told an_told cd_told ct_told), sl_told⟩) (c_told : PySem.W.codeIn K cd_told "_law_told" = true) (k_told : PySem.W.keepIn K (.ref f_told) = true)
    {od_ledtold an_ledtold : Option Addr} {sl_ledtold : Array (Option Value)} {oc_ledtold kV_ledtold dc_ledtold pm_ledtold cd_ledtold ct_ledtold : Value} (a_ledtold : PySem.W.nsIn K mainGlobals "_law_led_told" = some (some (.ref f_ledtold)))
    (l_ledtold : K.lookup f_ledtold = some ⟨oc_ledtold, od_ledtold, .func (PySem.W.fnOf "_law_led_told" "_law_led_told" (defArgs s_ledtold) (defBody s_ledtold) (defScope s_ledtold) .none kV_ledtold dc_ledtold pm_ledtold an_ledtold cd_ledtold ct_ledtold), sl_ledtold⟩) (c_ledtold : PySem.W.codeIn K cd_ledtold "_law_led_told" = true) (k_ledtold : PySem.W.keepIn K (.ref f_ledtold) = true)
    {od_some an_some : Option Addr} {sl_some : Array (Option Value)} {oc_some kV_some dc_some pm_some cd_some ct_some : Value} (a_some : PySem.W.nsIn K mainGlobals "_law_some" = some (some (.ref f_some)))
    (l_some : K.lookup f_some = some ⟨oc_some, od_some, .func (PySem.W.fnOf "_law_some" "_law_some" (defArgs s_some) (defBody s_some) (defScope s_some) .none kV_some dc_some pm_some an_some cd_some ct_some), sl_some⟩) (c_some : PySem.W.codeIn K cd_some "_law_some" = true) (k_some : PySem.W.keepIn K (.ref f_some) = true)
    {od_law an_law : Option Addr} {sl_law : Array (Option Value)} {oc_law kV_law dc_law pm_law cd_law ct_law : Value} (a_law : PySem.W.nsIn K mainGlobals "law" = some (some (.ref f_law)))
    (l_law : K.lookup f_law = some ⟨oc_law, od_law, .func (PySem.W.fnOf "law" "law" (defArgs s_law) (defBody s_law) (defScope s_law) .none kV_law dc_law pm_law an_law cd_law ct_law), sl_law⟩) (c_law : PySem.W.codeIn K cd_law "law" = true) (k_law : PySem.W.keepIn K (.ref f_law) = true)
    (aC : PySem.W.nsIn K mainGlobals "Forest" = some (some (.ref C))) (iI : PySem.W.isFn K (.ref f_init) = true) (pg : PySem.W.plainGet K C Str.empty = true) (hd : PySem.W.hasDictIn K C = true) (po : PySem.W.plainOver K C = true) (sa : PySem.W.findIn K (.ref C) "__setattr__" = some (some (.builtin "object.__setattr__"))) (mk : PySem.W.makesIn K C = true) (kc : PySem.W.keepIn K (.ref C) = true)
    (nP : PySem.W.findIn K (.ref C) "parents" = some none) (nW : PySem.W.findIn K (.ref C) "worths" = some none)
    (ow_ha : PySem.W.findIn K (.ref C) "__class__" = some (some (.builtin "object.__class__"))) (ow_hn : PySem.W.specialIn K (.builtin "object.__class__") "__get__" = some (some (.builtin "getset_descriptor.__get__"))) (ow_htk : PySem.W.takesIn K (.builtin "object.__class__") = some true) (ow_hm : PySem.W.mroIn K C (.type "object") = some true) (ow_kI : PySem.W.kitOne K (.ref C) (.type "int") = some false) (ow_kB : PySem.W.kitOne K (.ref C) (.type "bool") = some false) (ow_kT : PySem.W.kitOne K (.ref C) (.type "tuple") = some false) (ow_kL : PySem.W.kitOne K (.ref C) (.type "list") = some false) (ow_kS : PySem.W.kitOne K (.ref C) (.type "str") = some false) (ow_kC : PySem.W.kitOne K (.ref C) (.ref C) = some true) (ow_tC : PySem.W.kitOne K (.type "tuple") (.ref C) = some false) (ow_nC : PySem.W.notFirst K C (.ref C) = true) (ow_nT : PySem.W.notFirst K C (.type "tuple") = true)
    {nnm nq : Str} {nN : Addr} {nbs : List Value} {nsn : List Str} {nsub : List Value} {nab : Bool} {ncol : Option Bool} {ndd : Option Addr} {nm0 nm1 nm2 nm3 nm5 : Option Value} {nod1 nan1 : Option Addr} {nsl1 : Array (Option Value)} {noc1 ndc1 npm1 ncd1 nct1 : Value} {bnm bq : Str} {bN : Addr} {bbs : List Value} {bsn : List Str} {bsub : List Value} {bab : Bool} {bcol : Option Bool} {bdd : Option Addr} {bm0 bm1 bm2 bm3 bm5 : Option Value} {bod1 ban1 : Option Addr} {bsl1 : Array (Option Value)} {boc1 bdc1 bpm1 bcd1 bct1 : Value} {e1 e2 e3 e4 e5 : DictEntry} {nF n1 n2 n3 n4 n5 : Nat} {dd1 dd2 dd3 dd4 dd5 : Option Addr} {sl1 sl2 sl3 sl4 sl5 : Array (Option Value)} {ka1 kb1 ka2 ka3 ka4 kb4 ka5 kb5 kc5 : Tok}
    (nC : PySem.W.nsIn K mainGlobals "NoDeed" = some (some (.ref CN))) (nxL : K.lookup CN = some (excClassObj nnm nq CN nN nbs [.ref CFn, .type "ValueError", .type "Exception", .type "BaseException", .type "object"] true nsn nsub nab ncol ndd nm0 nm1 nm2 nm3 nm5 "ValueError.__new__")) (na1 : PySem.W.findIn K (.ref CN) "__init__" = some (some (.ref fN))) (nt1 : PySem.W.typeIn K (.ref fN) = some (.type "function")) (nl1 : K.lookup fN = some ⟨noc1, nod1, .func (PySem.W.fnOf "__init__" "NoDeed.__init__" (PySem.XNoDeed.iA ⟨14, 17, 14, 21⟩) (PySem.XNoDeed.iB ⟨15, 8, 15, 12⟩) PySem.XNoDeed.iS .none .none ndc1 npm1 nan1 ncd1 nct1), nsl1⟩) (nc1 : PySem.W.codeIn K ncd1 "NoDeed.__init__" = true) (nkC : PySem.W.keepIn K (.ref CN) = true) (neC : PySem.W.subIn K (.ref CN) (.type "BaseException") = some true) (ntC : PySem.W.typeIn K (.ref CN) = some (.type "type")) (niC : PySem.W.isClsIn K CN = true) (nsC : PySem.W.subIn K (.ref CN) (.ref CN) = some true) (bC : PySem.W.nsIn K mainGlobals "BadDeeds" = some (some (.ref CD))) (bxL : K.lookup CD = some (excClassObj bnm bq CD bN bbs [.ref CFb, .type "ValueError", .type "Exception", .type "BaseException", .type "object"] true bsn bsub bab bcol bdd bm0 bm1 bm2 bm3 bm5 "ValueError.__new__")) (bsa : PySem.W.findIn K (.ref CD) "__setattr__" = some (some (.builtin "object.__setattr__"))) (bga : PySem.W.findIn K (.ref CD) "__getattribute__" = some (some (.builtin "BaseException.__getattribute__"))) (bgg : PySem.W.findIn K (.ref CD) "__getattr__" = some none) (bnb : PySem.W.findIn K (.ref CD) "index" = some none) (bhC : PySem.W.hasDictIn K CD = true) (ba1 : PySem.W.findIn K (.ref CD) "__init__" = some (some (.ref fD))) (bt1 : PySem.W.typeIn K (.ref fD) = some (.type "function")) (bl1 : K.lookup fD = some ⟨boc1, bod1, .func (PySem.W.fnOf "__init__" "BadDeeds.__init__" (PySem.XBadDeeds.iA ⟨18, 17, 18, 21⟩ ⟨18, 23, 18, 28⟩) (PySem.XBadDeeds.iB ⟨19, 8, 19, 12⟩ ⟨19, 8, 19, 18⟩ ⟨19, 21, 19, 26⟩ ⟨19, 8, 19, 26⟩) PySem.XBadDeeds.iS .none .none bdc1 bpm1 ban1 bcd1 bct1), bsl1⟩) (bc1 : PySem.W.codeIn K bcd1 "BadDeeds.__init__" = true) (bkC : PySem.W.keepIn K (.ref CD) = true) (beC : PySem.W.subIn K (.ref CD) (.type "BaseException") = some true) (btC : PySem.W.typeIn K (.ref CD) = some (.type "type")) (biC : PySem.W.isClsIn K CD = true) (bsC : PySem.W.subIn K (.ref CD) (.ref CD) = some true) (aF : PySem.W.nsIn K mainGlobals "FORMS" = some (some (.ref fF))) (lF : K.lookup fF = some ⟨.type "dict", none, .dict #[e1, e2, e3, e4, e5] nF, #[]⟩) (neF : (fF == sysModules) = false) (kd1 : keyed e1 w.params "link" t1) (kd2 : keyed e2 w.params "cut" t2) (kd3 : keyed e3 w.params "turn" t3) (kd4 : keyed e4 w.params "put" t4) (kd5 : keyed e5 w.params "add" t5) (lt1 : K.lookup t1 = some ⟨.type "tuple", dd1, .seq #[.str "house" ka1, .str "house" kb1] n1, sl1⟩) (lt2 : K.lookup t2 = some ⟨.type "tuple", dd2, .seq #[.str "house" ka2] n2, sl2⟩) (lt3 : K.lookup t3 = some ⟨.type "tuple", dd3, .seq #[.str "house" ka3] n3, sl3⟩) (lt4 : K.lookup t4 = some ⟨.type "tuple", dd4, .seq #[.str "house" ka4, .str "integer" kb4] n4, sl4⟩) (lt5 : K.lookup t5 = some ⟨.type "tuple", dd5, .seq #[.str "house" ka5, .str "house" kb5, .str "integer" kc5] n5, sl5⟩)
    {t : Tok} (n_len : PySem.W.nsIn K mainGlobals "len" = some none) (n_isinstance : PySem.W.nsIn K mainGlobals "isinstance" = some none) (n_int : PySem.W.nsIn K mainGlobals "int" = some none) (n_bool : PySem.W.nsIn K mainGlobals "bool" = some none) (n_str : PySem.W.nsIn K mainGlobals "str" = some none) (n_tuple : PySem.W.nsIn K mainGlobals "tuple" = some none) (n_list : PySem.W.nsIn K mainGlobals "list" = some none) (n_range : PySem.W.nsIn K mainGlobals "range" = some none) (n_zip : PySem.W.nsIn K mainGlobals "zip" = some none) (n_max : PySem.W.nsIn K mainGlobals "max" = some none) (n_all : PySem.W.nsIn K mainGlobals "all" = some none) (n_enumerate : PySem.W.nsIn K mainGlobals "enumerate" = some none) (most : PySem.W.nsIn K mainGlobals "MOST_HOUSES" = some (some (.int 64 t))) :
    ∃ fd : FuncData, (∀ (s : Shared) (v : Value), BindsTo s fd ⟨[v], []⟩ [("_law_script", v)]) ∧ ∀ base : Heap, K.In base → base.Ns mainGlobals mg → FnOk P w K mg base CX0 11 fa fd ["_law_script"] (spLaw K) := by
  have D_isint := def_mk (st := s_isint) (ps := ["thing"]) X G a_isint l_isint c_isint k_isint fun _ _ _ _ _ _ us hl => match us, hl with | [_], _ => rfl
  have D_ishouse := def_mk (st := s_ishouse) (ps := ["many", "thing"]) X G a_ishouse l_ishouse c_ishouse k_ishouse fun _ _ _ _ _ _ us hl => match us, hl with | [_, _], _ => rfl
  have D_arepar := def_mk (st := s_arepar) (ps := ["thing"]) X G a_arepar l_arepar c_arepar k_arepar fun _ _ _ _ _ _ us hl => match us, hl with | [_], _ => rfl
  have D_come := def_mk (st := s_come) (ps := ["parents"]) X G a_come l_come c_come k_come fun _ _ _ _ _ _ us hl => match us, hl with | [_], _ => rfl
  have D_arewor := def_mk (st := s_arewor) (ps := ["thing", "houses"]) X G a_arewor l_arewor c_arewor k_arewor fun _ _ _ _ _ _ us hl => match us, hl with | [_, _], _ => rfl
  have D_many := def_mk (st := s_many) (ps := ["forest"]) X G a_many l_many c_many k_many fun _ _ _ _ _ _ us hl => match us, hl with | [_], _ => rfl
  have D_root := def_mk (st := s_root) (ps := ["forest", "house"]) X G a_root l_root c_root k_root fun _ _ _ _ _ _ us hl => match us, hl with | [_, _], _ => rfl
  have D_way := def_mk (st := s_way) (ps := ["forest", "one", "other"]) X G a_way l_way c_way k_way fun _ _ _ _ _ _ us hl => match us, hl with | [_, _, _], _ => rfl
  have D_common := def_mk (st := s_common) (ps := ["forest", "one", "other"]) X G a_common l_common c_common k_common fun _ _ _ _ _ _ us hl => match us, hl with | [_, _, _], _ => rfl
  have D_wayup := def_mk (st := s_wayup) (ps := ["forest", "house"]) X G a_wayup l_wayup c_wayup k_wayup fun _ _ _ _ _ _ us hl => match us, hl with | [_, _], _ => rfl
  have D_need := def_mk (st := s_need) (ps := ["forest", "thing"]) X G a_need l_need c_need k_need fun _ _ _ _ _ _ us hl => match us, hl with | [_, _], _ => rfl
  have D_isdeed := def_mk (st := s_isdeed) (ps := ["forest", "thing"]) X G a_isdeed l_isdeed c_isdeed k_isdeed fun _ _ _ _ _ _ us hl => match us, hl with | [_, _], _ => rfl
  have D_behind := def_mk (st := s_behind) (ps := ["forest", "deed"]) X G a_behind l_behind c_behind k_behind fun _ _ _ _ _ _ us hl => match us, hl with | [_, _], _ => rfl
  have D_led := def_mk (st := s_led) (ps := ["forest", "deeds"]) X G a_led l_led c_led k_led fun _ _ _ _ _ _ us hl => match us, hl with | [_, _], _ => rfl
  have D_hasform := def_mk (st := s_hasform) (ps := ["houses", "thing"]) X G a_hasform l_hasform c_hasform k_hasform fun _ _ _ _ _ _ us hl => match us, hl with | [_, _], _ => rfl
  have D_fits := def_mk (st := s_fits) (ps := ["houses", "part", "kind"]) X G a_fits l_fits c_fits k_fits fun _ _ _ _ _ _ us hl => match us, hl with | [_, _, _], _ => rfl
  have D_can := def_mk (st := s_can) (ps := ["forest", "deed"]) X G a_can l_can c_can k_can fun _ _ _ _ _ _ us hl => match us, hl with | [_, _], _ => rfl
  have D_done := def_mk (st := s_done) (ps := ["forest", "deed"]) X G a_done l_done c_done k_done fun _ _ _ _ _ _ us hl => match us, hl with | [_, _], _ => rfl
  have D_withitem := def_mk (st := s_withitem) (ps := ["row", "at", "item"]) X G a_withitem l_withitem c_withitem k_withitem fun _ _ _ _ _ _ us hl => match us, hl with | [_, _, _], _ => rfl
  have D_turned := def_mk (st := s_turned) (ps := ["forest", "house"]) X G a_turned l_turned c_turned k_turned fun _ _ _ _ _ _ us hl => match us, hl with | [_, _], _ => rfl
  have D_raised := def_mk (st := s_raised) (ps := ["forest", "houses", "number"]) X G a_raised l_raised c_raised k_raised fun _ _ _ _ _ _ us hl => match us, hl with | [_, _, _], _ => rfl
  have D_lhand := def_mk (st := s_lhand) (ps := ["_law_script"]) X G a_lhand l_lhand c_lhand k_lhand fun _ _ _ _ _ _ us hl => match us, hl with | [_], _ => rfl
  have D_take := def_mk (st := s_take) (ps := ["_law_hand_here", "_law_size"]) X G a_take l_take c_take k_take fun _ _ _ _ _ _ us hl => match us, hl with | [_, _], _ => rfl
  have D_pick := def_mk (st := s_pick) (ps := ["_law_hand_here", "_law_things"]) X G a_pick l_pick c_pick k_pick fun _ _ _ _ _ _ us hl => match us, hl with | [_, _], _ => rfl
  have D_lisint := def_mk (st := s_lisint) (ps := ["_law_thing"]) X G a_lisint l_lisint c_lisint k_lisint fun _ _ _ _ _ _ us hl => match us, hl with | [_], _ => rfl
  have D_within := def_mk (st := s_within) (ps := ["_law_thing", "_law_least", "_law_most"]) X G a_within l_within c_within k_within fun _ _ _ _ _ _ us hl => match us, hl with | [_, _, _], _ => rfl
  have D_same := def_mk (st := s_same) (ps := ["_law_actual", "_law_due"]) X G a_same l_same c_same k_same fun _ _ _ _ _ _ us hl => match us, hl with | [_, _], _ => rfl
  have D_odd := def_mk (st := s_odd) (ps := ["_law_hand_here"]) X G a_odd l_odd c_odd k_odd fun _ _ _ _ _ _ us hl => match us, hl with | [_], _ => rfl
  have D_value := def_mk (st := s_value) (ps := ["_law_hand_here"]) X G a_value l_value c_value k_value fun _ _ _ _ _ _ us hl => match us, hl with | [_], _ => rfl
  have D_parents := def_mk (st := s_parents) (ps := ["_law_hand_here", "_law_size"]) X G a_parents l_parents c_parents k_parents fun _ _ _ _ _ _ us hl => match us, hl with | [_, _], _ => rfl
  have D_plain := def_mk (st := s_plain) (ps := ["_law_hand_here", "_law_sizes"]) X G a_plain l_plain c_plain k_plain fun _ _ _ _ _ _ us hl => match us, hl with | [_, _], _ => rfl
  have D_fof := def_mk (st := s_fof) (ps := ["_law_plain_here"]) X G a_fof l_fof c_fof k_fof fun _ _ _ _ _ _ us hl => match us, hl with | [_], _ => rfl
  have D_lup := def_mk (st := s_lup) (ps := ["_law_parents_here", "_law_house"]) X G a_lup l_lup c_lup k_lup fun _ _ _ _ _ _ us hl => match us, hl with | [_, _], _ => rfl
  have D_lroot := def_mk (st := s_lroot) (ps := ["_law_parents_here", "_law_house"]) X G a_lroot l_lroot c_lroot k_lroot fun _ _ _ _ _ _ us hl => match us, hl with | [_, _], _ => rfl
  have D_lcommon := def_mk (st := s_lcommon) (ps := ["_law_parents_here", "_law_one", "_law_other"]) X G a_lcommon l_lcommon c_lcommon k_lcommon fun _ _ _ _ _ _ us hl => match us, hl with | [_, _, _], _ => rfl
  have D_lway := def_mk (st := s_lway) (ps := ["_law_parents_here", "_law_one", "_law_other"]) X G a_lway l_lway c_lway k_lway fun _ _ _ _ _ _ us hl => match us, hl with | [_, _, _], _ => rfl
  have D_arehouses := def_mk (st := s_arehouses) (ps := ["_law_size", "_law_things"]) X G a_arehouses l_arehouses c_arehouses k_arehouses fun _ _ _ _ _ _ us hl => match us, hl with | [_, _], _ => rfl
  have D_deedform := def_mk (st := s_deedform) (ps := ["_law_size", "_law_thing"]) X G a_deedform l_deedform c_deedform k_deedform fun _ _ _ _ _ _ us hl => match us, hl with | [_, _], _ => rfl
  have D_lcan := def_mk (st := s_lcan) (ps := ["_law_plain_here", "_law_thing"]) X G a_lcan l_lcan c_lcan k_lcan fun _ _ _ _ _ _ us hl => match us, hl with | [_, _], _ => rfl
  have D_lbehind := def_mk (st := s_lbehind) (ps := ["_law_plain_here", "_law_deed_here"]) X G a_lbehind l_lbehind c_lbehind k_lbehind fun _ _ _ _ _ _ us hl => match us, hl with | [_, _], _ => rfl
  have D_ldeed := def_mk (st := s_ldeed) (ps := ["_law_hand_here", "_law_plain_here"]) X G a_ldeed l_ldeed c_ldeed k_ldeed fun _ _ _ _ _ _ us hl => match us, hl with | [_, _], _ => rfl
  have D_bent := def_mk (st := s_bent) (ps := ["_law_hand_here", "_law_thing"]) X G a_bent l_bent c_bent k_bent fun _ _ _ _ _ _ us hl => match us, hl with | [_, _], _ => rfl
  have D_told := def_mk (st := s_told) (ps := ["_law_forest", "_law_thing"]) X G a_told l_told c_told k_told fun _ _ _ _ _ _ us hl => match us, hl with | [_, _], _ => rfl
  have D_ledtold := def_mk (st := s_ledtold) (ps := ["_law_forest", "_law_deeds"]) X G a_ledtold l_ledtold c_ledtold k_ledtold fun _ _ _ _ _ _ us hl => match us, hl with | [_, _], _ => rfl
  have D_some := def_mk (st := s_some) (ps := ["_law_hand_here", "_law_plain_here"]) X G a_some l_some c_some k_some fun _ _ _ _ _ _ us hl => match us, hl with | [_, _], _ => rfl
  have T : Txt K mg := txt_mk X G n_len n_isinstance n_int n_bool n_str n_tuple n_list n_range n_zip n_max n_all n_enumerate most
  have FN : PySem.XNoDeed.TxtNoDeed K mg CN fN :=
    { gC := PySem.W.mg_of X G nC, cls := ⟨nnm, nq, nN, nbs, _, nsn, nsub, nab, ncol, ndd, nm0, nm1, nm2, nm3, nm5, nxL, rfl⟩, iC := na1, tC := nt1, kC := nkC, exC := neC, tyC := ntC, te := exm_self neC niC ntC nsC,
      fn := ⟨_, _, _, _, _, _, _, _, _, _, nl1, nc1⟩ }
  have FB : PySem.XBadDeeds.TxtBadDeeds K mg CD fD :=
    { gC := PySem.W.mg_of X G bC, cls := ⟨bnm, bq, bN, bbs, _, bsn, bsub, bab, bcol, bdd, bm0, bm1, bm2, bm3, bm5, bxL, rfl⟩, sa := bsa, ga := bga, gg := bgg, noN := bnb, iC := ba1, tC := bt1, kC := bkC, exC := beC, tyC := btC, hdC := bhC, te := exm_self beC biC btC bsC,
      fn := ⟨_, _, _, _, _, _, _, _, _, _, _, _, _, _, bl1, bc1⟩ }
  have FC : ForC K mg C f_init := ⟨⟨⟨pg, hd, po, sa⟩, ow_ha, ow_hn, ow_htk, ow_hm, ow_kI, ow_kB, ow_kT, ow_kL, ow_kS, ow_kC, ow_tC, ow_nC, ow_nT⟩, nP, nW, PySem.W.mg_of X G aC, ⟨mk, a_init, iI, kc⟩⟩
  have FD : ForD K w mg fF t1 t2 t3 t4 t5 := ⟨PySem.W.mg_of X G aF, kd_mk lF neF kd1 kd2 kd3 kd4 kd5, sqT_mk lt1 (by show 2 ≤ 100; decide) (.cons ⟨_, rfl⟩ (.cons ⟨_, rfl⟩ .nil)), sqT_mk lt2 (by show 1 ≤ 100; decide) (.cons ⟨_, rfl⟩ .nil), sqT_mk lt3 (by show 1 ≤ 100; decide) (.cons ⟨_, rfl⟩ .nil), sqT_mk lt4 (by show 2 ≤ 100; decide) (.cons ⟨_, rfl⟩ (.cons ⟨_, rfl⟩ .nil)), sqT_mk lt5 (by show 3 ≤ 100; decide) (.cons ⟨_, rfl⟩ (.cons ⟨_, rfl⟩ (.cons ⟨_, rfl⟩ .nil)))⟩
  have F := fun_mk (st := s_init) l_init c_init k_init
  have bI := F.binds (ps := ["self", "parents", "worths"]) fun _ _ _ _ _ _ us hl => match us, hl with | [_, _, _], _ => rfl
  have e := hfa.symm.trans (PySem.W.mg_of X G a_law)
  cases e
  refine ⟨PySem.W.fnOf "law" "law" (defArgs s_law) (defBody s_law) (defScope s_law) .none kV_law dc_law pm_law an_law cd_law ct_law, fun s v => .of_eq rfl, fun base _ _ => ?_⟩
  exact ok_all (P := P) (w := w) (base := base) T FC FN FB FD F bI (fun_mk (st := s_law) l_law c_law k_law) D_isint D_ishouse D_arepar D_come D_arewor D_many D_root D_way D_common D_wayup D_need D_isdeed D_behind D_led D_hasform D_fits D_can D_done D_withitem D_turned D_raised D_lhand D_take D_pick D_lisint D_within D_same D_odd D_value D_parents D_plain D_fof D_lup D_lroot D_lcommon D_lway D_arehouses D_deedform D_lcan D_lbehind D_ldeed D_bent D_told D_ledtold D_some

end W2
open PySem PySem.W PyProof.Rows in
set_option maxRecDepth 100000 in
set_option maxHeartbeats 0 in
theorem PySem.Challenge.cw_cutlinked_k03_whole_deeds_on_plain_fores_holds : PySem.Challenge.rw_cutlinked_k03_whole_deeds_on_plain_fores.Holds := by
  w_on; o_law; k_head; (case hw => w_witness2)
  k_fill
  refine W2.walk (l := PySem.Challenge.rw_cutlinked_k03_whole_deeds_on_plain_fores) rfl rfl (fun w h Y => PySem.W.kIn_of Y) ?F
  case F =>
    intro w mg fa h KX G hmg
    refine' W2.all_mk KX G hmg ?a_isint ?l_isint ?c_isint ?k_isint ?a_ishouse ?l_ishouse ?c_ishouse ?k_ishouse ?a_init ?l_init ?c_init ?k_init ?a_arepar ?l_arepar ?c_arepar ?k_arepar ?a_come ?l_come ?c_come ?k_come ?a_arewor ?l_arewor ?c_arewor ?k_arewor ?a_many ?l_many ?c_many ?k_many ?a_root ?l_root ?c_root ?k_root ?a_way ?l_way ?c_way ?k_way ?a_common ?l_common ?c_common ?k_common ?a_wayup ?l_wayup ?c_wayup ?k_wayup ?a_need ?l_need ?c_need ?k_need ?a_isdeed ?l_isdeed ?c_isdeed ?k_isdeed ?a_behind ?l_behind ?c_behind ?k_behind ?a_led ?l_led ?c_led ?k_led ?a_hasform ?l_hasform ?c_hasform ?k_hasform ?a_fits ?l_fits ?c_fits ?k_fits ?a_can ?l_can ?c_can ?k_can ?a_done ?l_done ?c_done ?k_done ?a_withitem ?l_withitem ?c_withitem ?k_withitem ?a_turned ?l_turned ?c_turned ?k_turned ?a_raised ?l_raised ?c_raised ?k_raised ?a_lhand ?l_lhand ?c_lhand ?k_lhand ?a_take ?l_take ?c_take ?k_take ?a_pick ?l_pick ?c_pick ?k_pick ?a_lisint ?l_lisint ?c_lisint ?k_lisint ?a_within ?l_within ?c_within ?k_within ?a_same ?l_same ?c_same ?k_same ?a_odd ?l_odd ?c_odd ?k_odd ?a_value ?l_value ?c_value ?k_value ?a_parents ?l_parents ?c_parents ?k_parents ?a_plain ?l_plain ?c_plain ?k_plain ?a_fof ?l_fof ?c_fof ?k_fof ?a_lup ?l_lup ?c_lup ?k_lup ?a_lroot ?l_lroot ?c_lroot ?k_lroot ?a_lcommon ?l_lcommon ?c_lcommon ?k_lcommon ?a_lway ?l_lway ?c_lway ?k_lway ?a_arehouses ?l_arehouses ?c_arehouses ?k_arehouses ?a_deedform ?l_deedform ?c_deedform ?k_deedform ?a_lcan ?l_lcan ?c_lcan ?k_lcan ?a_lbehind ?l_lbehind ?c_lbehind ?k_lbehind ?a_ldeed ?l_ldeed ?c_ldeed ?k_ldeed ?a_bent ?l_bent ?c_bent ?k_bent ?a_told ?l_told ?c_told ?k_told ?a_ledtold ?l_ledtold ?c_ledtold ?k_ledtold ?a_some ?l_some ?c_some ?k_some ?a_law ?l_law ?c_law ?k_law ?aC ?iI ?pg ?hd ?po ?sa ?mk ?kc ?nP ?nW ?ow_ha ?ow_hn ?ow_htk ?ow_hm ?ow_kI ?ow_kB ?ow_kT ?ow_kL ?ow_kS ?ow_kC ?ow_tC ?ow_nC ?ow_nT ?nC ?nxL ?na1 ?nt1 ?nl1 ?nc1 ?nkC ?neC ?ntC ?niC ?nsC ?bC ?bxL ?bsa ?bga ?bgg ?bnb ?bhC ?ba1 ?bt1 ?bl1 ?bc1 ?bkC ?beC ?btC ?biC ?bsC ?aF ?lF ?neF ?kd1 ?kd2 ?kd3 ?kd4 ?kd5 ?lt1 ?lt2 ?lt3 ?lt4 ?lt5 ?n_len ?n_isinstance ?n_int ?n_bool ?n_str ?n_tuple ?n_list ?n_range ?n_zip ?n_max ?n_all ?n_enumerate ?most
    (case aC => k_is)
    (case nC => k_is)
    (case bC => k_is)
    (case aF => k_is)
    (case lF => k_is)
    (case a_isint => k_is)
    (case l_isint => k_is)
    (case c_isint => k_is)
    (case k_isint => k_is)
    (case a_ishouse => k_is)
    (case l_ishouse => k_is)
    (case c_ishouse => k_is)
    (case k_ishouse => k_is)
    (case a_init => k_is)
    (case l_init => k_is)
    (case c_init => k_is)
    (case k_init => k_is)
    (case a_arepar => k_is)
    (case l_arepar => k_is)
    (case c_arepar => k_is)
    (case k_arepar => k_is)
    (case a_come => k_is)
    (case l_come => k_is)
    (case c_come => k_is)
    (case k_come => k_is)
    (case a_arewor => k_is)
    (case l_arewor => k_is)
    (case c_arewor => k_is)
    (case k_arewor => k_is)
    (case a_many => k_is)
    (case l_many => k_is)
    (case c_many => k_is)
    (case k_many => k_is)
    (case a_root => k_is)
    (case l_root => k_is)
    (case c_root => k_is)
    (case k_root => k_is)
    (case a_way => k_is)
    (case l_way => k_is)
    (case c_way => k_is)
    (case k_way => k_is)
    (case a_common => k_is)
    (case l_common => k_is)
    (case c_common => k_is)
    (case k_common => k_is)
    (case a_wayup => k_is)
    (case l_wayup => k_is)
    (case c_wayup => k_is)
    (case k_wayup => k_is)
    (case a_need => k_is)
    (case l_need => k_is)
    (case c_need => k_is)
    (case k_need => k_is)
    (case a_isdeed => k_is)
    (case l_isdeed => k_is)
    (case c_isdeed => k_is)
    (case k_isdeed => k_is)
    (case a_behind => k_is)
    (case l_behind => k_is)
    (case c_behind => k_is)
    (case k_behind => k_is)
    (case a_led => k_is)
    (case l_led => k_is)
    (case c_led => k_is)
    (case k_led => k_is)
    (case a_hasform => k_is)
    (case l_hasform => k_is)
    (case c_hasform => k_is)
    (case k_hasform => k_is)
    (case a_fits => k_is)
    (case l_fits => k_is)
    (case c_fits => k_is)
    (case k_fits => k_is)
    (case a_can => k_is)
    (case l_can => k_is)
    (case c_can => k_is)
    (case k_can => k_is)
    (case a_done => k_is)
    (case l_done => k_is)
    (case c_done => k_is)
    (case k_done => k_is)
    (case a_withitem => k_is)
    (case l_withitem => k_is)
    (case c_withitem => k_is)
    (case k_withitem => k_is)
    (case a_turned => k_is)
    (case l_turned => k_is)
    (case c_turned => k_is)
    (case k_turned => k_is)
    (case a_raised => k_is)
    (case l_raised => k_is)
    (case c_raised => k_is)
    (case k_raised => k_is)
    (case a_lhand => k_is)
    (case l_lhand => k_is)
    (case c_lhand => k_is)
    (case k_lhand => k_is)
    (case a_take => k_is)
    (case l_take => k_is)
    (case c_take => k_is)
    (case k_take => k_is)
    (case a_pick => k_is)
    (case l_pick => k_is)
    (case c_pick => k_is)
    (case k_pick => k_is)
    (case a_lisint => k_is)
    (case l_lisint => k_is)
    (case c_lisint => k_is)
    (case k_lisint => k_is)
    (case a_within => k_is)
    (case l_within => k_is)
    (case c_within => k_is)
    (case k_within => k_is)
    (case a_same => k_is)
    (case l_same => k_is)
    (case c_same => k_is)
    (case k_same => k_is)
    (case a_odd => k_is)
    (case l_odd => k_is)
    (case c_odd => k_is)
    (case k_odd => k_is)
    (case a_value => k_is)
    (case l_value => k_is)
    (case c_value => k_is)
    (case k_value => k_is)
    (case a_parents => k_is)
    (case l_parents => k_is)
    (case c_parents => k_is)
    (case k_parents => k_is)
    (case a_plain => k_is)
    (case l_plain => k_is)
    (case c_plain => k_is)
    (case k_plain => k_is)
    (case a_fof => k_is)
    (case l_fof => k_is)
    (case c_fof => k_is)
    (case k_fof => k_is)
    (case a_lup => k_is)
    (case l_lup => k_is)
    (case c_lup => k_is)
    (case k_lup => k_is)
    (case a_lroot => k_is)
    (case l_lroot => k_is)
    (case c_lroot => k_is)
    (case k_lroot => k_is)
    (case a_lcommon => k_is)
    (case l_lcommon => k_is)
    (case c_lcommon => k_is)
    (case k_lcommon => k_is)
    (case a_lway => k_is)
    (case l_lway => k_is)
    (case c_lway => k_is)
    (case k_lway => k_is)
    (case a_arehouses => k_is)
    (case l_arehouses => k_is)
    (case c_arehouses => k_is)
    (case k_arehouses => k_is)
    (case a_deedform => k_is)
    (case l_deedform => k_is)
    (case c_deedform => k_is)
    (case k_deedform => k_is)
    (case a_lcan => k_is)
    (case l_lcan => k_is)
    (case c_lcan => k_is)
    (case k_lcan => k_is)
    (case a_lbehind => k_is)
    (case l_lbehind => k_is)
    (case c_lbehind => k_is)
    (case k_lbehind => k_is)
    (case a_ldeed => k_is)
    (case l_ldeed => k_is)
    (case c_ldeed => k_is)
    (case k_ldeed => k_is)
    (case a_bent => k_is)
    (case l_bent => k_is)
    (case c_bent => k_is)
    (case k_bent => k_is)
    (case a_told => k_is)
    (case l_told => k_is)
    (case c_told => k_is)
    (case k_told => k_is)
    (case a_ledtold => k_is)
    (case l_ledtold => k_is)
    (case c_ledtold => k_is)
    (case k_ledtold => k_is)
    (case a_some => k_is)
    (case l_some => k_is)
    (case c_some => k_is)
    (case k_some => k_is)
    (case a_law => k_is)
    (case l_law => k_is)
    (case c_law => k_is)
    (case k_law => k_is)
    (case iI => k_is)
    (case pg => k_is)
    (case hd => k_is)
    (case po => k_is)
    (case sa => k_is)
    (case mk => k_is)
    (case kc => k_is)
    (case nP => k_is)
    (case nW => k_is)
    (case ow_ha => k_is)
    (case ow_hn => k_is)
    (case ow_htk => k_is)
    (case ow_hm => k_is)
    (case ow_kI => kit_is)
    (case ow_kB => kit_is)
    (case ow_kT => kit_is)
    (case ow_kL => kit_is)
    (case ow_kS => kit_is)
    (case ow_kC => kit_is)
    (case ow_tC => kit_is)
    (case ow_nC => k_is)
    (case ow_nT => k_is)
    (case nxL => k_is)
    (case na1 => k_is)
    (case nt1 => k_is)
    (case nl1 => k_is)
    (case nc1 => k_is)
    (case nkC => k_is)
    (case neC => k_is)
    (case ntC => k_is)
    (case niC => k_is)
    (case nsC => first | rfl | k_is)
    (case bxL => k_is)
    (case bsa => k_is)
    (case bga => k_is)
    (case bgg => k_is)
    (case bnb => k_is)
    (case bhC => k_is)
    (case ba1 => k_is)
    (case bt1 => k_is)
    (case bl1 => k_is)
    (case bc1 => k_is)
    (case bkC => k_is)
    (case beC => k_is)
    (case btC => k_is)
    (case biC => k_is)
    (case bsC => first | rfl | k_is)
    (case neF => rfl)
    (case kd1 => exact ⟨⟨_, rfl⟩, rfl, rfl⟩)
    (case kd2 => exact ⟨⟨_, rfl⟩, rfl, rfl⟩)
    (case kd3 => exact ⟨⟨_, rfl⟩, rfl, rfl⟩)
    (case kd4 => exact ⟨⟨_, rfl⟩, rfl, rfl⟩)
    (case kd5 => exact ⟨⟨_, rfl⟩, rfl, rfl⟩)
    (case lt1 => k_is)
    (case lt2 => k_is)
    (case lt3 => k_is)
    (case lt4 => k_is)
    (case lt5 => k_is)
    (case n_len => k_is)
    (case n_isinstance => k_is)
    (case n_int => k_is)
    (case n_bool => k_is)
    (case n_str => k_is)
    (case n_tuple => k_is)
    (case n_list => k_is)
    (case n_range => k_is)
    (case n_zip => k_is)
    (case n_max => k_is)
    (case n_all => k_is)
    (case n_enumerate => k_is)
    (case most => k_is)
