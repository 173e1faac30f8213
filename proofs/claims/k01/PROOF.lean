import PyProof.Rows.All
import Wide.All
import OpenK.AllK
import Wide.FinOn
import HandS.ForMost
import HandS.IsInst
import HandS.Conv
import HandS.Zip
import HandS.Style
import HandS.Wide
import HandS.Codes
import HandS.TupAny
import HandS.TupMul
import HandS.SlotsOwn
import HandS.ForExc
import PyProof.EqLayable
import PySem.Challenge.RW_cutlinked_k01_forests_judged
set_option Elab.async false
set_option linter.all false
set_option maxRecDepth 100000
set_option maxHeartbeats 4000000
namespace W2
open PySem PySem.Spec PyProof.Rows L2
/-! ### x is True, x is False, whatever x is -/
def rIsBo : R2 := fun x y H Q => ∃ b : Bool, y = .bl b ∧ Q (.bl (decide (x = .bl b))) H
theorem op_isB {X : Cx} : OpR X (compareOp .Is) rIsBo := by
  intro pins s σ H x y v u Q I rx ry h
  obtain ⟨b, rfl, q⟩ := h
  cases (show u = Value.bool b from ry)
  by_cases e : x = .bl b
  · subst e
    cases (show v = Value.bool b from rx)
    exact wpAny_is_self rfl ⟨.bl true, H, I, rfl, by simpa using q⟩
  · have nv : v ≠ Value.bool b := fun z => e (rx.inj (show RelV (.bl b) v from z))
    have q' : Q (.bl false) H := by rw [decide_eq_false e] at q; exact q
    cases x with
    | non => cases (show v = Value.none from rx); exact wpAny_is_other rfl (fun z => nomatch z) ⟨.bl false, H, I, rfl, q'⟩
    | bl a => cases (show v = Value.bool a from rx); exact wpAny_is_other rfl nv ⟨.bl false, H, I, rfl, q'⟩
    | int i => obtain ⟨t, rfl⟩ := rx; exact wpAny_is_other rfl nv ⟨.bl false, H, I, rfl, q'⟩
    | str i => obtain ⟨t, rfl⟩ := rx; exact wpAny_is_other rfl nv ⟨.bl false, H, I, rfl, q'⟩
    | byt i => obtain ⟨t, rfl⟩ := rx; exact wpAny_is_other rfl nv ⟨.bl false, H, I, rfl, q'⟩
    | flt i => obtain ⟨t, rfl⟩ := rx; exact wpAny_is_other rfl nv ⟨.bl false, H, I, rfl, q'⟩
    | ref a => cases (show v = Value.ref a from rx); exact wpAny_is_other rfl nv ⟨.bl false, H, I, rfl, q'⟩
    | ty n => cases (show v = Value.type n from rx); exact wpAny_is_other rfl nv ⟨.bl false, H, I, rfl, q'⟩
/-! ### a def to be called -/
structure Cal (P : Program) (w : World) (K : PySem.W.Frag) (mg : Str → Option Value) (base : Heap) (k : Nat) (x : Str) (ps : List Str) (sp : Sp) : Prop where
  ex : ∃ f fd, FnOk P w K mg base CX0 k f fd ps sp ∧ mg x = some (.ref f) ∧ PySem.W.keepIn K (.ref f) = true ∧ Binds K fd ps []
/-- a def as the top has left it -/
structure Def (K : PySem.W.Frag) (mg : Str → Option Value) (x : Str) (st : Stmt) (ps : List Str) : Prop where
  ex : ∃ f fd, Fun K x x st f fd ∧ mg x = some (.ref f) ∧ Binds K fd ps []
section
variable {X : Cx} {k j : Nat} {x : Str} {ps : List Str} {sp : Sp} {e : Expr} {es : List Expr} {t : TA} {p pos : Pos}
theorem pcal (C : Cal X.prog X.w X.K X.mg X.base k x ps sp) (hr : Room j X.A) (hk : k ≤ j) (hg : Gl X x) (ha : PA X (e :: es) t) (hdb : (x == ("__debug__" : Str)) = false := by decide) (he : starEach (e :: es) X.env = (false, eval e X.env) :: starEach es X.env := by rfl) (hpl : (backTo pos (starEach es X.env)).any (·.1) = false := by rfl) :
    PE X (.Call (.Name x p) (e :: es) [] pos) (tCall sp [] E0 t) := by
  obtain ⟨f, fd, F, hm, kp, b⟩ := C.ex
  exact pe_call F (hr.mono hk) hg hm kp b .nil pass0 ha hdb he hpl
end
theorem Def.cal {P : Program} {w : World} {K : PySem.W.Frag} {mg : Str → Option Value} {base : Heap} {k : Nat} {x : Str} {st : Stmt} {N ps : List Str} {sp : Sp} (D : Def K mg x st ps) (S : FnScope N ps (defScope st)) (len : ∀ vs H Q E, sp vs H Q E → vs.length = ps.length)
    (hbody : ∀ (f : Addr) (cdv : Value) (A : Around) (outer : List Env) (s : Shared) (H : Hp) (vs : List V) (Q : VK) (E : XK), Room k (A.deeper (envOfC x (defScope st) s.heap.objs.size f cdv)) → sp vs H Q E →
      ∃ t, PSs (cxOf CX0 P w K mg base N x (defScope st) f cdv A outer s H E).nox (defBody st) t ∧ t { nx := fun _ H' => Q .non H', rt := Q } (start N vs) H) : Cal P w K mg base (k + 1) x ps sp := by
  obtain ⟨f, fd, F, hm, b⟩ := D.ex
  exact ⟨f, fd, F.ok S len (hbody f), hm, F.kp, b⟩
/-! ### rules whose reading names K itself (within a comprehension's block) -/
section
variable {X : Cx} {K : PySem.W.Frag}
theorem call_lenK (h : X.K = K) : CallR X (.builtin "len") (fun xs H Q => ∃ p ys, xs = [.ref p] ∧ (SqL K H p ys ∨ SqT K H p ys) ∧ Q (.int ys.length) H) := h ▸ call_len_seq
theorem call_isiK1 (h : X.K = K) : CallR X (.builtin "isinstance") (rIsi K) := h ▸ call_isi
theorem op_inK (h : X.K = K) : OpR X (compareOp .In) (rIn K false) := h ▸ op_in_seq
theorem ix_listK (h : X.K = K) : IxR X (rIxL K) := h ▸ ix_list
theorem ix_tupK (h : X.K = K) : IxR X (rIxT K) := h ▸ ix_tup
end
/-! ### heaps -/
/-- all but h stays -/
def Bt (h : Addr) (H H' : Hp) : Prop := ∀ b o, b ≠ h → H b = some o → H' b = some o
theorem Bt.refl (h : Addr) (H : Hp) : Bt h H H := fun _ _ _ e => e
theorem Bt.trans {h : Addr} {H H1 H2 : Hp} (a : Bt h H H1) (b : Bt h H1 H2) : Bt h H H2 := fun c o n e => b c o n (a c o n e)
theorem Bt.of {h : Addr} {H H' : Hp} (a : Same H H') : Bt h H H' := fun c o _ e => a c o e
theorem Bt.upd {h : Addr} {H H' : Hp} {o : HO} (a : Bt h H H') : Bt h H (upd H' h o) := fun c u n e => by rw [upd_ne n]; exact a c u n e
theorem same_upd {H : Hp} {p : Addr} {o : HO} (h : H p = none) : Same H (upd H p o) := fun b x e => by rw [upd_ne (ne_of_none e h)]; exact e
theorem Same.upd {H H' : Hp} {p : Addr} {o : HO} (a : Same H H') (h : H p = none) : Same H (upd H' p o) := fun b x e => by rw [upd_ne (ne_of_none e h)]; exact a b x e
theorem Same.new {H H' : Hp} {p : Addr} {o : HO} (a : Same H H') (h : H' p = none) : Same H (L2.upd H' p o) := a.trans (same_upd h)
theorem Bt.new {h : Addr} {H H' : Hp} {p : Addr} {o : HO} (a : Bt h H H') (hp : H' p = none) : Bt h H (L2.upd H' p o) := a.trans (Bt.of (same_upd hp))
theorem Bt.free {h p : Addr} {H H' : Hp} (a : Bt h H H') (n : p ≠ h) (hp : H' p = none) : H p = none := by
  cases e : H p with
  | none => rfl
  | some o => rw [a p o n e] at hp; cases hp
def Ret (v : V) (H : Hp) (Q : VK) : Prop := ∀ H', Same H H' → Q v H'
def RetL (xs : List V) (H : Hp) (Q : VK) : Prop := ∀ (H' : Hp) (p : Addr), Same H H' → H p = none → H' p = some (.lst xs) → Q (.ref p) H'
def RetT (xs : List V) (H : Hp) (Q : VK) : Prop := ∀ (H' : Hp) (p : Addr), Same H H' → H p = none → H' p = some (.tup xs) → Q (.ref p) H'
theorem small {n : Nat} (h : n ≤ 100000) : n ≤ sizeLine := Nat.le_trans h (by decide)
theorem smalls {n : Nat} (h : n < 100000) : n < sizeLine := Nat.lt_of_lt_of_le h (by decide)
end W2
namespace W2
open PySem PySem.Spec PyProof.Rows L2
theorem M31 : (0 : Int) < 2147483647 := by decide
theorem M30 : (0 : Int) < 2147483399 := by decide
theorem iteB {c : Bool} {A B : Prop} (h1 : c = true → A) (h2 : c = false → B) : if c = true then A else B := by
  cases c with
  | true => exact h1 rfl
  | false => exact h2 rfl
theorem atI_last {α : Type} {xs : List α} {v : α} (h : xs.getLast? = some v) : atI xs (-1) = some v := by
  rw [List.getLast?_eq_getElem?] at h
  have hn := (List.getElem?_eq_some_iff.mp h).1
  unfold atI ixN
  rw [if_neg (by decide), if_pos (by omega)]
  show xs[((-1 : Int) + (xs.length : Int)).toNat]? = some v
  rw [show ((-1 : Int) + (xs.length : Int)).toNat = xs.length - 1 by omega]
  exact h
theorem cut_to (xs : List V) (k : Nat) (h : k ≤ xs.length) : cutV xs none (some (k : Int)) = xs.take k := by
  unfold cutV
  rw [HT.sIx_none, show HT.sIx xs.length xs.length (some (k : Int)) = min k xs.length from HT.sIx_nat xs.length xs.length k, Nat.min_eq_left h]
  rfl
/-- a list whose items are ints: kinds -/
theorem isi_int {K : PySem.W.Frag} {H : Hp} {i : Int} : TyX K H (.int i) (.type "int") := .base (.int i)
end W2
namespace W2
open PySem PySem.Spec PyProof.Rows L2
theorem ixN_nat {n y : Nat} (h : y < n) : ixN n (y : Int) = some y := by
  unfold ixN
  rw [if_pos (by omega), if_pos (by omega), Int.toNat_natCast]
end W2
namespace W2
inductive Ch (ps : List (Option Nat)) : Nat → List Nat → Prop
  | root {h : Nat} : ps[h]? = some none → Ch ps h [h]
  | step {h p : Nat} {l : List Nat} : ps[h]? = some (some p) → Ch ps p l → Ch ps h (h :: l)
theorem Ch.head {ps : List (Option Nat)} {h : Nat} {l : List Nat} (c : Ch ps h l) : ∃ r, l = h :: r := by
  cases c with
  | root _ => exact ⟨[], rfl⟩
  | step _ _ => exact ⟨_, rfl⟩
theorem Ch.det {ps : List (Option Nat)} {h : Nat} {l : List Nat} (c : Ch ps h l) : ∀ {m : List Nat}, Ch ps h m → l = m := by
  induction c with
  | root e =>
    intro m d
    cases d with
    | root _ => rfl
    | step e2 _ => rw [e] at e2; cases e2
  | step e c ih =>
    intro m d
    cases d with
    | root e2 => rw [e] at e2; cases e2
    | step e2 d2 =>
      rw [e] at e2
      cases e2
      rw [ih d2]
theorem Ch.tail {ps : List (Option Nat)} : ∀ {pre : List Nat} {h x : Nat} {post : List Nat}, Ch ps h (pre ++ x :: post) → Ch ps x (x :: post)
  | [], h, x, post, c => by
    obtain ⟨r, e⟩ := c.head
    have e1 : x = h := by simpa using (List.cons.inj e).1
    subst e1
    exact c
  | a :: pre, h, x, post, c => by
    have go : ∀ m, Ch ps h m → m = a :: (pre ++ x :: post) → Ch ps x (x :: post) := by
      intro m d e
      cases d with
      | root _ =>
        have := (List.cons.inj e).2
        cases pre <;> simp at this
      | step _ d2 =>
        have e2 := (List.cons.inj e).2
        subst e2
        exact Ch.tail d2
    exact go _ c rfl
theorem Ch.lt {ps : List (Option Nat)} {h : Nat} {l : List Nat} (c : Ch ps h l) : ∀ x ∈ l, x < ps.length := by
  induction c with
  | @root h e =>
    intro x hx
    have q : x = h := by simpa using hx
    subst q
    exact (List.getElem?_eq_some_iff.mp e).1
  | step e c ih =>
    intro x hx
    rcases List.mem_cons.mp hx with rfl | hx
    · exact (List.getElem?_eq_some_iff.mp e).1
    · exact ih x hx
theorem Ch.nodup {ps : List (Option Nat)} {h : Nat} {l : List Nat} (c : Ch ps h l) : l.Nodup := by
  induction c with
  | root e => simp
  | @step h p l e c ih =>
    refine List.nodup_cons.mpr ⟨fun hm => ?_, ih⟩
    obtain ⟨pre, post, e2⟩ := List.append_of_mem hm
    subst e2
    have d := Ch.tail c
    have d2 : Ch ps h (h :: (pre ++ h :: post)) := .step e c
    have q := congrArg List.length (d.det d2)
    simp at q
    omega
theorem Ch.last {ps : List (Option Nat)} {h : Nat} {l : List Nat} (c : Ch ps h l) : ∃ r, l.getLast? = some r ∧ ps[r]? = some none := by
  induction c with
  | root e => exact ⟨_, rfl, e⟩
  | @step h p l e c ih =>
    obtain ⟨r, e1, e2⟩ := ih
    refine ⟨r, ?_, e2⟩
    obtain ⟨z, rfl⟩ := c.head
    rw [List.getLast?_cons_cons]
    exact e1
/-- at place i of the way up: the parent -/
theorem Ch.next {ps : List (Option Nat)} {h : Nat} {l : List Nat} (c : Ch ps h l) {i : Nat} {x : Nat} (hx : l[i]? = some x) : (ps[x]? = some none ∧ i + 1 = l.length) ∨ (∃ y, ps[x]? = some (some y) ∧ l[i + 1]? = some y) := by
  have hi := (List.getElem?_eq_some_iff.mp hx).1
  have hs : l = l.take i ++ x :: l.drop (i + 1) := by
    have e : l.drop i = x :: l.drop (i + 1) := by
      rw [List.drop_eq_getElem_cons hi]
      congr 1
      exact (List.getElem?_eq_some_iff.mp hx).2
    rw [← e, List.take_append_drop]
  rw [hs] at c
  have d := Ch.tail c
  generalize hq : l.drop (i + 1) = q at d
  cases d with
  | root e =>
    have := congrArg List.length hq
    simp at this
    exact .inl ⟨e, by omega⟩
  | @step _ y _ e d2 =>
    obtain ⟨r, rfl⟩ := d2.head
    refine .inr ⟨y, e, ?_⟩
    have := congrArg (fun z => z[0]?) hq
    simpa [List.getElem?_drop] using this
theorem Ch.par_lt {ps : List (Option Nat)} {h p : Nat} {l : List Nat} (c : Ch ps h l) (e : ps[h]? = some (some p)) : p < ps.length := by
  cases c with
  | root e2 => rw [e] at e2; cases e2
  | step e2 c2 =>
    rw [e] at e2
    cases e2
    obtain ⟨r, e3⟩ := c2.head
    exact c2.lt _ (by rw [e3]; simp)
open Classical in
noncomputable def up (ps : List (Option Nat)) (h : Nat) : List Nat := if e : ∃ l, Ch ps h l then e.choose else []
theorem up_of {ps : List (Option Nat)} {h : Nat} {l : List Nat} (c : Ch ps h l) : up ps h = l := by
  unfold up
  rw [dif_pos ⟨l, c⟩]
  exact (Exists.choose_spec (⟨l, c⟩ : ∃ l, Ch ps h l)).det c
/-- a right forest -/
def Tree (ps : List (Option Nat)) : Prop := ∀ h, h < ps.length → Ch ps h (up ps h) ∧ (up ps h).length ≤ ps.length
theorem tree_of {ps : List (Option Nat)} (h : ∀ h, h < ps.length → ∃ l, Ch ps h l ∧ l.length ≤ ps.length) : Tree ps := fun x hx => by
  obtain ⟨l, c, z⟩ := h x hx
  rw [up_of c]
  exact ⟨c, z⟩
/-- by an order: each house's parent stands ahead -/
theorem tree_ord {ps : List (Option Nat)} {o : List Nat} (hl : o.length = ps.length) (sur : ∀ h, h < ps.length → ∃ k : Nat, o[k]? = some h)
    (hp : ∀ (k : Nat) h, o[k]? = some h → ps[h]? = some none ∨ ∃ j p, j < k ∧ o[j]? = some p ∧ ps[h]? = some (some p)) : Tree ps := by
  have go : ∀ (k : Nat), ∀ (m : Nat), m ≤ k → ∀ h, o[m]? = some h → ∃ l, Ch ps h l ∧ l.length ≤ m + 1 := by
    intro k
    induction k with
    | zero =>
      intro m hm h e
      rcases hp m h e with q | ⟨j, p, hj, _, _⟩
      · exact ⟨[h], .root q, by simp⟩
      · omega
    | succ k ih =>
      intro m hm h e
      rcases hp m h e with q | ⟨j, p, hj, ej, q⟩
      · exact ⟨[h], .root q, by simp⟩
      · obtain ⟨l, c, z⟩ := ih j (by omega) p ej
        exact ⟨h :: l, .step q c, by simp; omega⟩
  refine tree_of fun h hh => ?_
  obtain ⟨k, ek⟩ := sur h hh
  obtain ⟨l, c, z⟩ := go k k (Nat.le_refl _) h ek
  have := (List.getElem?_eq_some_iff.mp ek).1
  exact ⟨l, c, by omega⟩
/-! ### the deepest common house -/
def fnd (l m : List Nat) : Option Nat := l.find? fun x => decide (x ∈ m)
theorem find_first {p : Nat → Bool} : ∀ {l : List Nat} {i : Nat} {x : Nat}, l[i]? = some x → p x = true → (∀ (j : Nat) y, j < i → l[j]? = some y → p y = false) → l.find? p = some x
  | [], i, x, h, _, _ => by simp at h
  | a :: l, 0, x, h, hp, _ => by
    have e : a = x := by simpa using h
    subst e
    rw [List.find?_cons, hp]
  | a :: l, i + 1, x, h, hp, hn => by
    have ha : p a = false := hn 0 a (by omega) rfl
    rw [List.find?_cons, ha]
    exact find_first (l := l) (i := i) (by simpa using h) hp fun j y hj e => hn (j + 1) y (by omega) (by simpa using e)
theorem fnd_some {l m : List Nat} {i x : Nat} (h : l[i]? = some x) (hm : x ∈ m) (hn : ∀ (j : Nat) y, j < i → l[j]? = some y → y ∉ m) : fnd l m = some x :=
  find_first h (decide_eq_true hm) fun j y hj e => decide_eq_false (hn j y hj e)
theorem fnd_none {l m : List Nat} (hn : ∀ (j : Nat) y, l[j]? = some y → y ∉ m) : fnd l m = none := by
  unfold fnd
  rw [List.find?_eq_none]
  intro x hx
  obtain ⟨j, hj, e⟩ := List.getElem_of_mem hx
  have := hn j x (List.getElem?_eq_some_iff.mpr ⟨hj, e⟩)
  simpa using this
theorem fnd_split {l m : List Nat} {x : Nat} (h : fnd l m = some x) : x ∈ m ∧ ∃ pre post, l = pre ++ x :: post ∧ ∀ y ∈ pre, y ∉ m := by
  unfold fnd at h
  rw [List.find?_eq_some_iff_append] at h
  obtain ⟨h1, as, bs, e, h2⟩ := h
  exact ⟨by simpa using h1, as, bs, e, fun y hy => by simpa using h2 y hy⟩
theorem fnd_comm {ps : List (Option Nat)} {a b : Nat} {l m : List Nat} (ca : Ch ps a l) (cb : Ch ps b m) : fnd l m = fnd m l := by
  cases e : fnd l m with
  | none =>
    symm
    refine fnd_none fun j y hy hm => ?_
    have ym : y ∈ m := List.mem_of_getElem? hy
    unfold fnd at e
    rw [List.find?_eq_none] at e
    have := e y hm
    simp [ym] at this
  | some x =>
    obtain ⟨xm, pre, post, el, hpre⟩ := fnd_split e
    obtain ⟨pre2, post2, em⟩ := List.append_of_mem xm
    rw [el] at ca
    rw [em] at cb
    have nb := cb.nodup
    have e2 : x :: post = x :: post2 := (Ch.tail ca).det (Ch.tail cb)
    symm
    refine fnd_some (i := pre2.length) (by rw [em]; simp) (by rw [el]; simp) fun j y hj hy yl => ?_
    have yp : y ∈ pre2 := by
      rw [em, List.getElem?_append_left hj] at hy
      exact List.mem_of_getElem? hy
    rw [el] at yl
    rcases List.mem_append.mp yl with h1 | h1
    · exact hpre y h1 (by rw [em]; exact List.mem_append_left _ yp)
    · rw [e2] at h1
      exact (List.nodup_append.mp nb).2.2 y yp y h1 rfl
/-! ### the way -/
def wayOf (l m : List Nat) (x : Nat) : List Nat := l.take (l.idxOf x) ++ [x] ++ (m.take (m.idxOf x)).reverse
theorem take_idx {l : List Nat} {x : Nat} (h : x ∈ l) : l.take (l.idxOf x + 1) = l.take (l.idxOf x) ++ [x] := by
  have hl : l.idxOf x < l.length := List.idxOf_lt_length_of_mem h
  rw [List.take_add_one, List.getElem?_eq_getElem hl, List.getElem_idxOf hl]
  rfl
theorem rev_idx (l : List Nat) : (List.range l.length).map (fun k => l.getD (l.length - 1 - k) 0) = l.reverse := by
  apply List.ext_getElem?
  intro i
  by_cases hi : i < l.length
  · rw [List.getElem?_map, List.getElem?_range hi, List.getElem?_reverse hi]
    simp only [Option.map_some]
    have h2 : l.length - 1 - i < l.length := by omega
    rw [List.getD_eq_getElem?_getD, List.getElem?_eq_getElem h2]
    rfl
  · rw [List.getElem?_eq_none (by simpa using hi), List.getElem?_eq_none (by simpa using hi)]
theorem nodup_len : ∀ {n : Nat} {l : List Nat}, l.Nodup → (∀ x ∈ l, x < n) → l.length ≤ n
  | 0, l, _, h => by
    cases l with
    | nil => exact Nat.le_refl _
    | cons a r => exact absurd (h a (by simp)) (by omega)
  | n + 1, l, nd, h => by
    by_cases hm : n ∈ l
    · have nd2 : (l.erase n).Nodup := nd.erase n
      have h2 : ∀ x ∈ l.erase n, x < n := fun x hx => by
        have h3 := h x (List.mem_of_mem_erase hx)
        have h4 : x ≠ n := fun e => by
          subst e
          exact (List.Nodup.mem_erase_iff nd).mp hx |>.1 rfl
        omega
      have h5 := nodup_len nd2 h2
      rw [List.length_erase_of_mem hm] at h5
      omega
    · have h2 : ∀ x ∈ l, x < n := fun x hx => by
        have h3 := h x hx
        have h4 : x ≠ n := fun e => hm (e ▸ hx)
        omega
      exact Nat.le_succ_of_le (nodup_len nd h2)
theorem Ch.len {ps : List (Option Nat)} {h : Nat} {l : List Nat} (c : Ch ps h l) : l.length ≤ ps.length := nodup_len c.nodup c.lt
/-- each parent is a house -/
def Inr (ps : List (Option Nat)) : Prop := ∀ (k q : Nat), ps[k]? = some (some q) → q < ps.length
theorem Tree.inr {ps : List (Option Nat)} (t : Tree ps) : Inr ps := fun k q e => (t k (List.getElem?_eq_some_iff.mp e).1).1.par_lt e
theorem tree_iff {ps : List (Option Nat)} : Tree ps ↔ ∀ h, h < ps.length → ∃ l, Ch ps h l :=
  ⟨fun t h hh => ⟨_, (t h hh).1⟩, fun t => tree_of fun h hh => let ⟨l, c⟩ := t h hh; ⟨l, c, c.len⟩⟩
theorem no_next {ps : List (Option Nat)} (ir : Inr ps) {h : Nat} (hh : h < ps.length) (n : ¬ ∃ l, Ch ps h l) : ∃ q, ps[h]? = some (some q) ∧ q < ps.length ∧ ¬ ∃ l, Ch ps q l := by
  have e : ps[h]? = some ps[h] := List.getElem?_eq_getElem hh
  cases q : ps[h] with
  | none => rw [q] at e; exact absurd ⟨_, .root e⟩ n
  | some q' =>
    rw [q] at e
    exact ⟨q', e, ir _ _ e, fun ⟨l, c⟩ => n ⟨_, .step e c⟩⟩
end W2
namespace PySem
namespace XBadForest
open PySem.W PySem.Calls PyProof.Rows PySem.HandSPX
/-! ### the text of __init__ -/
def iA (p1 p2 : Pos) : Arguments := { posonlyargs := [], args := [{ arg := "self", annotation := none, pos := p1 }, { arg := "part", annotation := none, pos := p2 }], vararg := none, kwonlyargs := [], kw_defaults := [], kwarg := none, defaults := [] }
def iB (q1 q2 q3 q4 : Pos) : List Stmt := [.Assign [.Attribute (.Name "self" q1) "part" q2] (.Name "part" q3) q4]
def iS : Scope := { kind := .function, names := [(PySem.Str.ofString "self", .local), (PySem.Str.ofString "part", .local)], isGenerator := false, isCoroutine := false, more := [] }
/-- what the written part says of Low, at C, and of its __init__, at fI -/
structure TxtBadForest (K : Frag) (mg : Str → Option Value) (C fI : Addr) : Prop where
  gC : mg "BadForest" = some (.ref C)
  cls : ∃ nm q N bs bm sn sub ab col dd k0 k1 k2 k3 k5, K.lookup C = some (excClassObj nm q C N bs bm true sn sub ab col dd k0 k1 k2 k3 k5 "ValueError.__new__") ∧ refsVE bm = true
  sa : findIn K (.ref C) "__setattr__" = some (some (.builtin "object.__setattr__"))
  ga : findIn K (.ref C) "__getattribute__" = some (some (.builtin "BaseException.__getattribute__"))
  gg : findIn K (.ref C) "__getattr__" = some none
  noN : findIn K (.ref C) "part" = some none
  iC : findIn K (.ref C) "__init__" = some (some (.ref fI))
  tC : typeIn K (.ref fI) = some (.type "function")
  kC : keepIn K (.ref C) = true
  exC : subIn K (.ref C) (.type "BaseException") = some true
  tyC : typeIn K (.ref C) = some (.type "type")
  hdC : hasDictIn K C = true
  te : exmOne K (.ref C) (.ref C) = some true
  fn : ∃ (oc : Value) (od : Option Addr) (doc pm : Value) (an : Option Addr) (cdv ct : Value) (osl : Array (Option Value)) (p1 p2 q1 q2 q3 q4 : Pos),
    K.lookup fI = some ⟨oc, od, .func (fnOf "__init__" "BadForest.__init__" (iA p1 p2) (iB q1 q2 q3 q4) iS .none .none doc pm an cdv ct), osl⟩ ∧ codeIn K cdv "BadForest.__init__" = true
theorem one_size (v : Value) : [v].length ≤ sizeLine := by
  rw [sizeLine_eq]
  exact (by decide : 1 ≤ 16777216)
theorem kept_but {K : Frag} {h h' : Heap} {x : Addr} (X : K.In h) (hx : K.lookup x = none) (k : ∀ b o, b ≠ x → h.get? b = some o → h'.get? b = some o) : K.In h' := fun a o e =>
  k a o (fun z => by rw [z, hx] at e; cases e) (X a o e)
theorem ldC {M : Model} {s : Shared} {name : Str} {scope : Scope} {L a : Addr} {cd : Value} {m : Str → Option Value} {x : Str} {pos : Pos} {v : Value} {Q : Value → Shared → Prop} {A : Around} {E : Value → Shared → Prop} (hn : s.heap.Ns L m) (hv : m x = some v) (h : Q v s)
    (hk : scope.kind = .function := by rfl) (hl : (envOfC name scope L a cd).kindOf x = some .local := by rfl) (hd : (x == ("__debug__" : Str)) = false := by decide) :
    wpAny M A (eval (.Name x pos) (envOfC name scope L a cd)) Q E s := wpAny_Name (wpAny_loadName_local hk hl hn hv h) hd
/-- what __init__ leaves of a fresh exception at x -/
structure InitEnd (h h' : Heap) (x C dx t1 : Addr) (v : Value) : Prop where
  keep : ∀ b o, b ≠ x → h.get? b = some o → h'.get? b = some o
  obj : h'.get? x = some { cls := .ref C, dict := some dx, data := .fields #[.ref t1, .none, .none, .none, .bool false, .none] }
  dbig : h.objs.size ≤ dx
  dne : dx ≠ x
  ns : h'.Ns1 dx (fun y => if y = "part" then some v else none)
/-- a made Low -/
structure OwnMade (h h' : Heap) (e C d : Addr) (v : Value) : Prop where
  keep : ∀ b o, h.get? b = some o → h'.get? b = some o
  new : h.objs.size ≤ e
  obj : ∃ oe vs, h'.get? e = some oe ∧ oe.cls = .ref C ∧ oe.dict = some d ∧ oe.data = .fields vs ∧ vs[1]? = some .none
  dbig : h.objs.size ≤ d
  dne : d ≠ e
  ns : h'.Ns1 d (fun y => if y = "part" then some v else none)
section
variable {prog : Program} {w : World} {A : Around} {E : Value → Shared → Prop} {R : Result → Shared → Prop} {s : Shared} {K : Frag} {mg : Str → Option Value} {C fI : Addr}
theorem low_init (T : TxtBadForest K mg C fI) {x t0 : Addr} {v : Value} (X : K.In s.heap) (hlim : s.heap.NoLimit) (hx : s.heap.get? x = some (excO C t0)) (hnx : K.lookup x = none) (hroom : A.depth < recursionLimit)
    (hq : ∀ h' tk dx, InitEnd s.heap h' x C dx t0 v → R (.ok (.ret .none)) { s with heap := h', toks := tk }) :
    codeAny (model prog w) A (.call (.ref fI) ⟨[.ref x, v], []⟩) R s := by
  obtain ⟨oc, od, doc, pm, an, cdv, ct, osl, p1, p2, q1, q2, q3, q4, ho, hcd⟩ := T.fn
  obtain ⟨nm, q, N, bs, bm, sn, sub, ab, col, dd, k0, k1, k2, k3, k5, hC, hbm⟩ := T.cls
  have hcl : clsIn K C = some { name := nm, bases := bs, mro := .ref C :: bm, ns := N, qualname := q, hasDict := true, slotNames := sn, subclasses := sub, abstract := ab, collection := col, hasDel := false } := by unfold clsIn; rw [hC] <;> rfl
  refine Att.call_fn (binds := [("self", .ref x), ("part", v)]) X hlim ho hcd hroom (BindsTo.of_eq (by first | rfl | with_unfolding_all rfl)) (by first | rfl | decide | with_unfolding_all rfl) (fun s₁ IC => ?_) rfl rfl rfl
  obtain ⟨h₁, tk₁, rfl⟩ := IC.toInCall.same
  have k : ∀ b o, s.heap.get? b = some o → h₁.get? b = some o := IC.toInCall.keep
  have hn := IC.toInCall.ns
  have hxL : s.heap.objs.size ≠ x := Nat.ne_of_gt (Heap.lt_size hx)
  have X₁ : K.In h₁ := X.keeps k
  have hx₁ := k _ _ hx
  -- self.by = by
  show wpAny _ _ (execs _ _) _ _ _
  refine wpAny_execs_cons (plainObj_wpAny_Assign_Attribute ?_)
  refine ldC (v := v) hn (by first | rfl | with_unfolding_all rfl | kernel_rfl) (ldC (v := .ref x) hn (by first | rfl | with_unfolding_all rfl | kernel_rfl) ?_)
  refine set_plain X₁ (ox := excO C t0) (od := none) ⟨hx₁, rfl, rfl, trivial⟩ T.sa ?_
  refine exc_osa X₁ hx₁ hcl (show refsVE (.ref C :: bm) = true from hbm) rfl T.noN (fun h₃ tk₃ dx k₃ dn dne hx₃ hn₃ => ?_)
  show wpAny _ _ (execs _ _) _ _ _
  have z : s.heap.objs.size < h₁.objs.size := hn.lt
  exact wpAny_execs_nil (hq h₃ tk₃ dx ⟨fun b o hb e => k₃ b o hb (k b o e), hx₃, Nat.le_of_lt (Nat.lt_of_lt_of_le z dn), dne, hn₃⟩)
theorem low_made (T : TxtBadForest K mg C fI) {v : Value} (X : K.In s.heap) (hlim : s.heap.NoLimit) (hroom : A.depth + 1 < recursionLimit)
    (hq : ∀ h' tk e d, OwnMade s.heap h' e C d v → R (.ok (.ret (.ref e))) { s with heap := h', toks := tk }) :
    codeAny (model prog w) A (.call (.ref C) ⟨[v], []⟩) R s := by
  obtain ⟨nm, q, N, bs, bm, sn, sub, ab, col, dd, k0, k1, k2, k3, k5, hC, hbm⟩ := T.cls
  obtain ⟨hp, g, dr, tk, os⟩ := s
  have k : ∀ b o, hp.get? b = some o → ((hp.push (kdv_tup [v])).push (excO C hp.objs.size)).get? b = some o := fun b o e => Heap.get?_push_of_some _ (Heap.get?_push_of_some _ e)
  have hget : ((hp.push (kdv_tup [v])).push (excO C hp.objs.size)).get? (hp.objs.size + 1) = some (excO C hp.objs.size) := by heap_get
  have hnx : K.lookup (hp.objs.size + 1) = none := by
    cases e : K.lookup (hp.objs.size + 1) with
    | none => rfl
    | some o =>
      have z : hp.get? (hp.objs.size + 1) = some o := X _ _ e
      exact absurd (Nat.lt_of_succ_lt (Heap.lt_size z)) (Nat.lt_irrefl _)
  refine call_own F.excBase_ValueError (fun X => refsVE_contains X bm hbm) (X _ _ hC) (looks_findIn X T.iC) (fun self => bind_fn X self T.tC) (one_size v) ?_
  refine low_init (s := ⟨(hp.push (kdv_tup [v])).push (excO C hp.objs.size), g, dr, tk, os⟩) T (X.keeps k) (hlim.keeps k) hget hnx ?_ fun h' tk' dx ⟨k', hx, dn, dne, hns⟩ => ?_
  · show A.depth + 1 < recursionLimit
    exact hroom
  · have old : ∀ b o, hp.get? b = some o → h'.get? b = some o := fun b o e => k' b o (Nat.ne_of_lt (Nat.lt_succ_of_lt (Heap.lt_size e))) (k b o e)
    have z : hp.objs.size + 1 + 1 ≤ dx := by
      first
        | (simpa only [Heap.size_push] using dn)
        | exact dn
        | (have q := dn; rw [Heap.size_push, Heap.size_push] at q; exact q)
    exact ⟨rfl, hq h' tk' (hp.objs.size + 1) dx ⟨old, Nat.le_succ _, ⟨_, _, hx, rfl, rfl, rfl, rfl⟩, Nat.le_trans (Nat.le_trans (Nat.le_succ _) (Nat.le_succ _)) z, dne, hns⟩⟩
end
end XBadForest
end PySem
namespace L2
open PySem PySem.Spec PyProof.Rows
theorem relO__BadForest {v : V} {v' : Value} (r : RelV v v') (f : Str) : RelO (List.lookup f [(("part" : Str), v)]) (if f = "part" then some v' else none) := by
  by_cases hw : f = "part"
  · subst hw
    rw [if_pos rfl]
    have q : List.lookup ("part" : Str) [(("part" : Str), v)] = some v := by simp [List.lookup]
    rw [q]
    exact r
  · rw [if_neg hw]
    have qw : (f == ("part" : Str)) = false := by simpa using hw
    have q2 : List.lookup f [(("part" : Str), v)] = none := by simp [List.lookup, qw]
    rw [q2]
    trivial
section
variable {X : Cx} {C fI : Addr}
/-- Low(e) -/
def tMk_BadForest (C : Addr) (ta : TA) : St → Hp → XK → Prop := fun σ H Q => ta σ H fun vs H1 => ∃ v, vs = [v] ∧ ∀ d, H1 d = none → Q (.ref C) (some d) (upd H1 d (.xd [(("part" : Str), v)]))
theorem pmk__BadForest {a : Expr} {ta : TA} {p pos : Pos} {k : Nat} (T : PySem.XBadForest.TxtBadForest X.K X.mg C fI) (hr : Room k X.A) (ha : PA X [a] ta) (hg : Gl X "BadForest" := by rfl)
    (he : starEach (a :: []) X.env = (false, eval a X.env) :: starEach [] X.env := by rfl) (hpl : (backTo pos (starEach [] X.env)).any (·.1) = false := by rfl) :
    PMk X (.Call (.Name "BadForest" p) [a] [] pos) (tMk_BadForest C ta) := by
  intro pins s σ H Q I h
  refine wpAny_Call_Name_kw (ld_glob I hg T.gC ?_)
  refine PySem.W.callWith_K (h₀ := X.base) I.ok.mod.kin T.kC (thn (ha.run pos pins s σ H _ I h) fun us s1 hh => ?_) he hpl
  obtain ⟨vs, H1, I1, r1, v, ev, q1⟩ := hh
  subst ev
  refine ⟨I1.kIn, ?_⟩
  cases r1 with
  | cons rv rn =>
    rename_i v' us'
    cases rn
    show wpAny _ _ (call (.ref C) [v']) _ _ _
    have hlim := I1.nolimit
    obtain ⟨hp, g, dr, tk, os⟩ := s1
    refine wpAny_call (PySem.XBadForest.low_made T I1.kIn hlim (by have := hr.dp; omega) fun h' tk' e d M => ?_)
    show MkP X pins σ Q (.ref e) ⟨h', g, dr, tk', os⟩
    obtain ⟨oe, fv, hoe, hc, hd, hdat, h1⟩ := M.obj
    have hns := M.ns
    obtain ⟨G', g1, g2⟩ := restrict h' fun b => decide (b ≠ e)
    have gk : ∀ b, b ≠ e → G'.get? b = h'.get? b := fun b hb => g1 b (decide_eq_true hb)
    have ge : G'.get? e = none := g2 e (by simp)
    have old : ∀ b o, hp.get? b = some o → G'.get? b = some o := fun b o q => (gk b (Nat.ne_of_lt (Nat.lt_of_lt_of_le (Heap.lt_size q) M.new))).trans (M.keep b o q)
    have ob : ObjOk X.prog X.w (upd H1 d (.xd [(("part" : Str), v)])) G' d (.xd [(("part" : Str), v)]) :=
      ⟨_, hns.at (fun o q => (gk d M.dne).trans q), fun f => relO__BadForest rv f⟩
    have J : Inv X pins σ (upd H1 d (.xd [(("part" : Str), v)])) ⟨G', g, dr, tk', os⟩ := I1.laid (t' := tk') old M.dbig ob
    refine ⟨e, oe, fv, ⟨G', g, dr, tk', os⟩, _, .ref C, some d, rfl, J, fun b o q => ?_, ge, hoe, ⟨hc, hd⟩, hdat, h1, ?_, rfl, I1.bare, raises_own T.exC T.tyC, q1 d (I1.hok.fresh M.dbig)⟩
    · by_cases hb : b = e
      · have q' : G'.get? b = some o := q
        rw [hb, ge] at q'; cases q'
      · exact (gk b hb).symm.trans q
    · rw [upd_ne (Ne.symm M.dne)]
      exact I1.hok.fresh M.new
/-- raise Low(e) -/
def tRaise_BadForest (C : Addr) (W : WX) (ta : TA) : TS := fun _ σ H => tMk_BadForest C ta σ H fun cls d H' => W cls d σ H'
theorem ps_raise_BadForest {a : Expr} {ta : TA} {W : WX} {p pos pos2 : Pos} {k : Nat} (hc : X.calm = true) (T : PySem.XBadForest.TxtBadForest X.K X.mg C fI) (hr : Room k X.A) (tk : Takes X W) (ha : PA X [a] ta) (hg : Gl X "BadForest" := by rfl)
    (he : starEach (a :: []) X.env = (false, eval a X.env) :: starEach [] X.env := by rfl) (hpl : (backTo pos (starEach [] X.env)).any (·.1) = false := by rfl) :
    PS X (.Raise (some (.Call (.Name "BadForest" p) [a] [] pos)) none pos2) (tRaise_BadForest C W ta) := ps_raise hc tk (pmk__BadForest T hr ha hg he hpl)
/-- low.by, low the exception that the suite holds (at a; its class cls, its dict d) -/
def tBy_BadForest (C : Addr) (a : Addr) (cls : Value) (d : Option Addr) (te : TE) : TE := fun σ H Q => te σ H fun x H1 => x = .ref a ∧ cls = .ref C ∧ ∃ (dd : Addr) (v : V), d = some dd ∧ H1 dd = some (.xd [(("part" : Str), v)]) ∧ Q v H1
theorem pe_by_BadForest {a : Addr} {oe : Obj} {cls : Value} {d : Option Addr} {pn : List (Addr × Obj)} {e : Expr} {te : TE} {pos : Pos} (T : PySem.XBadForest.TxtBadForest X.K X.mg C fI) (hz : Zc cls d oe) (hf : ∃ vs, oe.data = .fields vs) (he : PE (X.suite a ((a, oe) :: pn)) e te)
    (hb : attributeBase e "part" X.env (eval e X.env) = eval e X.env := by rfl) :
    PE (X.suite a ((a, oe) :: pn)) (.Attribute e "part" pos) (tBy_BadForest C a cls d te) := by
  refine ⟨fun pins s σ H Q I h => ?_⟩
  refine attr_of hb (thn (he.run pins s σ H _ I h) fun u s1 hh => ?_)
  obtain ⟨x, H1, I1, rx, ex, ec, dd, v, ed, ea, q⟩ := hh
  subst ex
  obtain rfl : u = Value.ref a := rx
  subst ec
  subst ed
  obtain ⟨ha, _⟩ := I1.pin (a, oe) (List.mem_append_left _ List.mem_cons_self)
  obtain ⟨vs, hd⟩ := hf
  have hx : ObjOk X.prog X.w H1 s1.heap dd (.xd [(("part" : Str), v)]) := I1.hok dd _ ea
  obtain ⟨mA, hns, hr⟩ := hx
  obtain ⟨od, ho, hl⟩ := lookIn_ns hns
  have l : List.lookup ("part" : Str) [(("part" : Str), v)] = some v := by simp [List.lookup]
  obtain ⟨u, hu, ru⟩ := RelO.some_of (v := v) (o := mA "part") (by rw [← l]; exact hr "part")
  have J : PySem.W.InstAt s1.heap a oe C (some od) := ⟨ha, hz.1, by unfold PySem.W.notCls; rw [hd] <;> rfl, by rw [hz.2]; exact ho⟩
  exact HandSPX.exc_get I1.kIn J T.ga T.gg T.exC (PySem.W.findObj_own T.hdC T.noN rfl (by rw [hl, hu])) (handed_of ru) ⟨v, H1, I1.tok _, ru, q⟩
end
end L2
namespace W2
open PySem PySem.Spec PyProof.Rows L2
/-! ### kinds of things -/
structure Own (K : PySem.W.Frag) (C : Addr) : Prop where
  cl : Cls K C
  ha : PySem.W.findIn K (.ref C) "__class__" = some (some (.builtin "object.__class__"))
  hn : PySem.W.specialIn K (.builtin "object.__class__") "__get__" = some (some (.builtin "getset_descriptor.__get__"))
  htk : PySem.W.takesIn K (.builtin "object.__class__") = some true
  hm : PySem.W.mroIn K C (.type "object") = some true
  kI : PySem.W.kitOne K (.ref C) (.type "int") = some false
  kB : PySem.W.kitOne K (.ref C) (.type "bool") = some false
  kT : PySem.W.kitOne K (.ref C) (.type "tuple") = some false
  kL : PySem.W.kitOne K (.ref C) (.type "list") = some false
  kS : PySem.W.kitOne K (.ref C) (.type "str") = some false
  kC : PySem.W.kitOne K (.ref C) (.ref C) = some true
  tC : PySem.W.kitOne K (.type "tuple") (.ref C) = some false
  nC : PySem.W.notFirst K C (.ref C) = true
  nT : PySem.W.notFirst K C (.type "tuple") = true
/-- a thing of a known kind; a list is not the hand at h -/
inductive Any (C h : Addr) (H : Hp) : V → Prop
  | non : Any C h H .non
  | bl (b : Bool) : Any C h H (.bl b)
  | int (i : Int) : Any C h H (.int i)
  | str (s : Str) : Any C h H (.str s)
  | lst {a : Addr} {xs : List V} (n : a ≠ h) (e : H a = some (.lst xs)) : Any C h H (.ref a)
  | tup {a : Addr} {xs : List V} (e : H a = some (.tup xs)) : Any C h H (.ref a)
  | dic {a : Addr} {kvs : List (Key × V)} (n : a ≠ h) (e : H a = some (.dK kvs)) : Any C h H (.ref a)
  | ins {a dx : Addr} {fs : List (Str × V)} (n : a ≠ h) (e : H a = some (.ins C dx fs)) : Any C h H (.ref a)
theorem Any.bt {C h : Addr} {H H' : Hp} {x : V} {l : List V} (a : Any C h H x) (hh : H h = some (.lst l)) (s : Bt h H H') : Any C h H' x := by
  cases a with
  | non => exact .non
  | bl b => exact .bl b
  | int i => exact .int i
  | str i => exact .str i
  | lst n e => exact .lst n (s _ _ n e)
  | tup e => exact .tup (s _ _ (ne_of e hh (fun z => nomatch z)) e)
  | dic n e => exact .dic n (s _ _ n e)
  | ins n e => exact .ins n (s _ _ n e)
theorem Any.same {C h : Addr} {H H' : Hp} {x : V} (a : Any C h H x) (s : Same H H') : Any C h H' x := by
  cases a with
  | non => exact .non
  | bl b => exact .bl b
  | int i => exact .int i
  | str i => exact .str i
  | lst n e => exact .lst n (s _ _ e)
  | tup e => exact .tup (s _ _ e)
  | dic n e => exact .dic n (s _ _ e)
  | ins n e => exact .ins n (s _ _ e)
/-- and its items too, if it is a tuple -/
structure Thing (C h : Addr) (H : Hp) (x : V) : Prop where
  any : Any C h H x
  items : ∀ a xs, x = .ref a → H a = some (.tup xs) → ∀ y ∈ xs, Any C h H y
theorem Any.tup_back {C h : Addr} {H H' : Hp} {a : Addr} {xs : List V} (x : Any C h H (.ref a)) (k : ∀ b o, b ≠ h → H b = some o → H' b = some o) (k2 : ∀ ys, H a = some (.tup ys) → H' a = some (.tup ys)) (e : H' a = some (.tup xs)) : H a = some (.tup xs) := by
  cases x with
  | lst n e2 => rw [k _ _ n e2] at e; cases e
  | tup e2 => rw [k2 _ e2] at e; rw [e2, e]
  | dic n e2 => rw [k _ _ n e2] at e; cases e
  | ins n e2 => rw [k _ _ n e2] at e; cases e
theorem Thing.bt {C h : Addr} {H H' : Hp} {x : V} {l : List V} (t : Thing C h H x) (hh : H h = some (.lst l)) (s : Bt h H H') : Thing C h H' x := by
  refine ⟨t.any.bt hh s, fun a xs e hx y hy => ?_⟩
  subst e
  exact (t.items a xs rfl (t.any.tup_back s (fun ys e2 => s _ _ (ne_of e2 hh (fun z => nomatch z)) e2) hx) y hy).bt hh s
theorem Thing.same {C h : Addr} {H H' : Hp} {x : V} (t : Thing C h H x) (s : Same H H') : Thing C h H' x := by
  refine ⟨t.any.same s, fun a xs e hx y hy => ?_⟩
  subst e
  exact (t.items a xs rfl (t.any.tup_back (fun b o _ e => s b o e) (fun ys e2 => s _ _ e2) hx) y hy).same s
theorem Thing.flat {C h : Addr} {H : Hp} {x : V} (a : Any C h H x) (n : ∀ b, x ≠ .ref b) : Thing C h H x := ⟨a, fun b _ e => (n b e).elim⟩
theorem Thing.tup {C h : Addr} {H : Hp} {a : Addr} {xs : List V} (e : H a = some (.tup xs)) (k : ∀ y ∈ xs, Any C h H y) : Thing C h H (.ref a) := ⟨.tup e, fun b ys q hy => by
  cases q
  rw [e] at hy
  cases hy
  exact k⟩
theorem Thing.lst {C h : Addr} {H : Hp} {a : Addr} {xs : List V} (n : a ≠ h) (e : H a = some (.lst xs)) : Thing C h H (.ref a) := ⟨.lst n e, fun b ys q hy => by
  cases q
  rw [e] at hy
  cases hy⟩
theorem Thing.dic {C h : Addr} {H : Hp} {a : Addr} {kvs : List (Key × V)} (n : a ≠ h) (e : H a = some (.dK kvs)) : Thing C h H (.ref a) := ⟨.dic n e, fun b ys q hy => by
  cases q
  rw [e] at hy
  cases hy⟩
theorem Thing.ins {C h : Addr} {H : Hp} {a dx : Addr} {fs : List (Str × V)} (n : a ≠ h) (e : H a = some (.ins C dx fs)) : Thing C h H (.ref a) := ⟨.ins n e, fun b ys q hy => by
  cases q
  rw [e] at hy
  cases hy⟩
def isI : V → Bool
  | .int _ => true
  | _ => false
def isB : V → Bool
  | .bl _ => true
  | _ => false
theorem isI_of {x : V} (h : isI x = true) : ∃ i, x = .int i := by
  cases x <;> first | exact ⟨_, rfl⟩ | cases h
/-- isinstance of such a thing: int, bool, tuple, str -/
theorem any_kit {K : PySem.W.Frag} {C h : Addr} {H : Hp} {x : V} (O : Own K C) (a : Any C h H x) : ∃ t, TyX K H x t ∧ PySem.W.kitOne K t (.type "int") = some (isI x || isB x) ∧ PySem.W.kitOne K t (.type "bool") = some (isB x) := by
  cases a with
  | non => exact ⟨_, .base .non, kit_ty (by decide +kernel), kit_ty (by decide +kernel)⟩
  | bl b => exact ⟨_, .base (.bl b), kit_ty (r := true) (by decide +kernel), kit_ty (r := true) (by decide +kernel)⟩
  | int i => exact ⟨_, .base (.int i), kit_ty (r := true) (by decide +kernel), kit_ty (r := false) (by decide +kernel)⟩
  | str i => exact ⟨_, .base (.str i), kit_ty (r := false) (by decide +kernel), kit_ty (r := false) (by decide +kernel)⟩
  | lst n e => exact ⟨_, .base (.lst e), kit_ty (r := false) (by decide +kernel), kit_ty (r := false) (by decide +kernel)⟩
  | tup e => exact ⟨_, .base (.tup e), kit_ty (r := false) (by decide +kernel), kit_ty (r := false) (by decide +kernel)⟩
  | dic n e => exact ⟨_, .base (.dK e), kit_ty (r := false) (by decide +kernel), kit_ty (r := false) (by decide +kernel)⟩
  | ins n e => exact ⟨_, .base (.ins e O.cl O.ha O.hn O.htk O.hm), O.kI, O.kB⟩
theorem any_tup {K : PySem.W.Frag} {C h : Addr} {H : Hp} {x : V} (O : Own K C) (a : Any C h H x) : ∃ (t : Value) (b : Bool), TyX K H x t ∧ PySem.W.kitOne K t (.type "tuple") = some b ∧ (b = true → ∃ p xs, x = .ref p ∧ H p = some (.tup xs)) ∧ (b = false → ∀ p xs, x = .ref p → H p ≠ some (.tup xs)) := by
  cases a with
  | non => exact ⟨_, false, .base .non, kit_ty (by decide +kernel), (fun z => nomatch z), fun _ p xs z => nomatch z⟩
  | bl b => exact ⟨_, false, .base (.bl b), kit_ty (by decide +kernel), (fun z => nomatch z), fun _ p xs z => nomatch z⟩
  | int i => exact ⟨_, false, .base (.int i), kit_ty (by decide +kernel), (fun z => nomatch z), fun _ p xs z => nomatch z⟩
  | str i => exact ⟨_, false, .base (.str i), kit_ty (by decide +kernel), (fun z => nomatch z), fun _ p xs z => nomatch z⟩
  | lst n e => exact ⟨_, false, .base (.lst e), kit_ty (by decide +kernel), (fun z => nomatch z), fun _ p xs z q => by cases z; rw [e] at q; cases q⟩
  | tup e => exact ⟨_, true, .base (.tup e), kit_ty (by decide +kernel), (fun _ => ⟨_, _, rfl, e⟩), fun z => nomatch z⟩
  | dic n e => exact ⟨_, false, .base (.dK e), kit_ty (by decide +kernel), (fun z => nomatch z), fun _ p xs z q => by cases z; rw [e] at q; cases q⟩
  | ins n e => exact ⟨_, false, .base (.ins e O.cl O.ha O.hn O.htk O.hm), O.kT, (fun z => nomatch z), fun _ p xs z q => by cases z; rw [e] at q; cases q⟩
/-! ### == by an own __eq__ -/
def rEqI (K : PySem.W.Frag) (C : Addr) (sp : Sp) : R2 := fun x y H Q => ∃ a dx fs t, x = .ref a ∧ H a = some (.ins C dx fs) ∧ TyX K H y t ∧ PySem.W.notFirst K C t = true ∧ sp [x, y] H Q E0
theorem op_eqI {X : Cx} {C g : Addr} {n j : Nat} {fd : FuncData} {ps : List Str} {sp : Sp} (hs : PySem.W.findIn X.K (.ref C) "__eq__" = some (some (.ref g))) (hf : PySem.W.isFn X.K (.ref g) = true) (F : FnOk X.prog X.w X.K X.mg X.base CX0 n g fd ps sp) (hb : Binds X.K fd ps [])
    (hr : Room j X.A) (hj : n ≤ j) : OpR X (compareOp .Eq) (rEqI X.K C sp) := by
  intro pins s σ H x y v u Q I rx ry h
  obtain ⟨a, dx, fs, t, rfl, ea, ty, hn, q⟩ := h
  cases (show v = Value.ref a from rx)
  obtain ⟨mA, O, _⟩ := ins_get I.hok ea
  obtain ⟨od, J, _⟩ := O.look
  obtain ⟨P, Z, p, hx⟩ := kit_of I ry ty
  obtain ⟨m, hF⟩ := I.fr
  refine PySem.W.cmp_K (op := .Eq) (tb := t) hr.units0 hF I.ok.mod.kin J (Z.ty _ _ I.kIn p) hn hs hf ?_
  refine wpAny_mono (run_fn (us := [.ref a, u]) (vs := [.ref a, y]) F (hr.mono hj) hb .nil pass0 I (.cons rfl (.cons ry .nil)) q) (fun w s' z => ?_) fun _ _ x => x
  obtain ⟨z', H', I', rz, qz⟩ := z
  exact SlX.cmpback rz ⟨z', H', I', rz, qz⟩
/-! ### a new instance, what is raised wished for at the slots -/
def tMakeS (C : Addr) (sp : Sp) (E : L2.St → XK) (t : TA) : TE := fun σ H Q => t σ H fun vs H1 => ∀ x dx, H1 x = none → H1 dx = none → dx ≠ x → sp (.ref x :: vs) (upd (upd H1 dx (.own x)) x (.ins C dx [])) (fun v H2 => v = .non ∧ Q (.ref x) H2) (E σ)
section
variable {X : Cx} {C f : Addr} {k : Nat} {fd : FuncData} {ps : List Str} {sp : Sp} {CX : CXT} {x : Str} {e : Expr} {es : List Expr} {t : TA} {p pos : Pos} {E : L2.St → XK}
theorem pe_makeS (M : Mk X.K C f) (F : FnOk X.prog X.w X.K X.mg X.base CX k f fd ps sp) (hr : Room (k + 1) X.A) (hg : Gl X x) (hm : X.mg x = some (.ref C)) (hb : Binds X.K fd ps []) (hx : ∀ σ, PassesAt CX X σ (E σ))
    (ha : PA X (e :: es) t) (hdb : (x == ("__debug__" : Str)) = false := by decide) (he : starEach (e :: es) X.env = (false, eval e X.env) :: starEach es X.env := by rfl) (hpl : (backTo pos (starEach es X.env)).any (·.1) = false := by rfl) :
    PE X (.Call (.Name x p) (e :: es) [] pos) (tMakeS C sp E t) := by
  refine ⟨fun pins s σ H Q I h => ?_⟩
  refine wpAny_Call_Name_kw (ld_glob I hg hm ?_ hdb)
  refine PySem.W.callWith_K (h₀ := X.base) I.ok.mod.kin M.kp (thn (ha.run pos pins s σ H _ I h) fun us s1 ⟨vs, H1, I1, r, q⟩ => ⟨I1.kIn, ?_⟩) he hpl
  have hq := q (s1.heap.objs.size + 1) s1.heap.objs.size (I1.hok.fresh (Nat.le_succ _)) (I1.hok.fresh (Nat.le_refl _)) (Nat.ne_of_lt (Nat.lt_succ_self _))
  have I2 := Inv.made (C := C) I1
  have r2 : Vals (V.ref (s1.heap.objs.size + 1) :: vs) (Value.ref (s1.heap.objs.size + 1) :: us) := .cons rfl r
  have hl : (Value.ref (s1.heap.objs.size + 1) :: us ++ []).length = ps.length := by
    have e := r2.length
    rw [F.len _ _ _ _ hq] at e
    rw [List.append_nil]
    exact e.symm
  have b := hb _ (Value.ref (s1.heap.objs.size + 1) :: us) I2.kIn hl
  rw [List.append_nil] at b
  refine wpAny_call (make_map (f := f) I1.kIn M.makes M.init (beq_iff_eq.mp M.fn) (codeAny_mono (F.run _ X.stack _ _ ⟨Value.ref (s1.heap.objs.size + 1) :: us, []⟩ (Value.ref (s1.heap.objs.size + 1) :: us) _ _ (E σ) (hr.make C us [])
    (I2.env0.make C us []) b r2 hq) fun r s' hq' => ?_))
  cases r with
  | error e => exact hx σ pins _ _ e s' I2 hq'
  | ok fl =>
    cases fl with
    | ret u =>
      obtain ⟨v, H', I3, rv, ev, q3⟩ := I2.after hq'
      subst ev
      exact ⟨rv, ⟨V.ref (s1.heap.objs.size + 1), H', I3, rfl, q3⟩⟩
    | next => exact False.elim hq'
    | brk => exact False.elim hq'
    | cont => exact False.elim hq'
end
/-! ### tuples cut and joined -/
theorem catA_of {K : PySem.W.Frag} {a b : Addr} {xs ys : List V} {H : Hp} {Q : VK} (ha : H a = some (.tup xs)) (hb : H b = some (.tup ys)) (hz : xs.length + ys.length ≤ 100000) (k : ∀ r H', Same H H' → H' r = some (.tup (xs ++ ys)) → Q (.ref r) H') : rCatA K (.ref a) (.ref b) H Q := by
  refine ⟨a, b, xs, ys, rfl, rfl, SqT.of ha, SqT.of hb, small hz, fun e => k b H (L2.Same.refl _) ?_, fun _ e => k a H (L2.Same.refl _) ?_, fun _ _ p hp => k p _ (same_upd hp) upd_same⟩
  · rw [e, List.nil_append]
    exact hb
  · rw [e, List.append_nil]
    exact ha
theorem slT_of {K : PySem.W.Frag} {a : Addr} {xs : List V} {lo hi : Option Int} {H : Hp} {Q : VK} (ha : H a = some (.tup xs)) (hn : ¬ (HT.sIx xs.length 0 lo = 0 ∧ HT.sIx xs.length xs.length hi = xs.length)) (k : ∀ p, H p = none → Q (.ref p) (L2.upd H p (.tup (cutV xs lo hi)))) : rSlT K (.ref a) lo hi H Q := ⟨a, xs, rfl, SqT.of ha, hn, k⟩
theorem cut_from (xs : List V) (k : Nat) (h : k ≤ xs.length) : cutV xs (some (k : Int)) none = xs.drop k := by
  unfold cutV
  rw [HT.sIx_none, show HT.sIx xs.length 0 (some (k : Int)) = min k xs.length from HT.sIx_nat xs.length 0 k, Nat.min_eq_left h, ← List.length_drop]
  exact List.take_length
theorem six_to (n k : Nat) (h : k < n) : ¬ (HT.sIx n 0 none = 0 ∧ HT.sIx n n (some (k : Int)) = n) := fun z => by
  have := z.2
  rw [HT.sIx_nat] at this
  omega
theorem six_from (n k : Nat) (h : k < n) : ¬ (HT.sIx n 0 (some ((k + 1 : Nat) : Int)) = 0 ∧ HT.sIx n n none = n) := fun z => by
  have := z.1
  rw [HT.sIx_nat] at this
  omega
end W2
namespace W2
open PySem PySem.Spec PyProof.Rows L2
/-! ### the text by places -/
def top (i : Nat) : Stmt := PySem.Challenge.pw_cutlinked_k01_forests_judged.main.body.getD i (.Pass ⟨0, 0, 0, 0⟩)
abbrev s_isint : Stmt := top 4
abbrev s_ishouse : Stmt := top 5
abbrev s_init : Stmt := inClass (top 8) 0
abbrev s_eq : Stmt := inClass (top 8) 1
abbrev s_arepar : Stmt := top 9
abbrev s_come : Stmt := top 10
abbrev s_arewor : Stmt := top 11
abbrev s_many : Stmt := top 12
abbrev s_lhand : Stmt := top 14
abbrev s_take : Stmt := top 15
abbrev s_pick : Stmt := top 16
abbrev s_lisint : Stmt := top 17
abbrev s_within : Stmt := top 18
abbrev s_same : Stmt := top 19
abbrev s_odd : Stmt := top 20
abbrev s_value : Stmt := top 21
abbrev s_parents : Stmt := top 22
abbrev s_plain : Stmt := top 23
abbrev s_lup : Stmt := top 24
abbrev s_lroot : Stmt := top 25
abbrev s_lbelow : Stmt := top 26
abbrev s_pright : Stmt := top 27
abbrev s_bad : Stmt := top 28
abbrev s_spoilt : Stmt := top 29
abbrev s_made : Stmt := top 30
abbrev s_law : Stmt := top 31
theorem sc_isint : FnScope ["thing"] ["thing"] (defScope s_isint) := ⟨rfl, rfl, rfl, by decide +kernel, rfl, by decide +kernel, by decide +kernel⟩
theorem sc_ishouse : FnScope ["many", "thing"] ["many", "thing"] (defScope s_ishouse) := ⟨rfl, rfl, rfl, by decide +kernel, rfl, by decide +kernel, by decide +kernel⟩
theorem sc_init : FnScope ["self", "parents", "worths"] ["self", "parents", "worths"] (defScope s_init) := ⟨rfl, rfl, rfl, by decide +kernel, rfl, by decide +kernel, by decide +kernel⟩
theorem sc_eq : FnScope ["self", "other"] ["self", "other"] (defScope s_eq) := ⟨rfl, rfl, rfl, by decide +kernel, rfl, by decide +kernel, by decide +kernel⟩
theorem sc_arepar : FnScope ["thing", "parent"] ["thing"] (defScope s_arepar) := ⟨rfl, rfl, rfl, by decide +kernel, rfl, by decide +kernel, by decide +kernel⟩
theorem sc_come : FnScope ["parents", "sure", "parent", "house", "line", "at", "passed"] ["parents"] (defScope s_come) := ⟨rfl, rfl, rfl, by decide +kernel, rfl, by decide +kernel, by decide +kernel⟩
theorem sc_arewor : FnScope ["thing", "houses", "worth"] ["thing", "houses"] (defScope s_arewor) := ⟨rfl, rfl, rfl, by decide +kernel, rfl, by decide +kernel, by decide +kernel⟩
theorem sc_many : FnScope ["forest"] ["forest"] (defScope s_many) := ⟨rfl, rfl, rfl, by decide +kernel, rfl, by decide +kernel, by decide +kernel⟩
theorem sc_lhand : FnScope ["script"] ["script"] (defScope s_lhand) := ⟨rfl, rfl, rfl, by decide +kernel, rfl, by decide +kernel, by decide +kernel⟩
theorem sc_take : FnScope ["hand", "size", "cell", "found", "number"] ["hand", "size"] (defScope s_take) := ⟨rfl, rfl, rfl, by decide +kernel, rfl, by decide +kernel, by decide +kernel⟩
theorem sc_pick : FnScope ["hand", "things"] ["hand", "things"] (defScope s_pick) := ⟨rfl, rfl, rfl, by decide +kernel, rfl, by decide +kernel, by decide +kernel⟩
theorem sc_lisint : FnScope ["thing"] ["thing"] (defScope s_lisint) := ⟨rfl, rfl, rfl, by decide +kernel, rfl, by decide +kernel, by decide +kernel⟩
theorem sc_within : FnScope ["thing", "least", "most"] ["thing", "least", "most"] (defScope s_within) := ⟨rfl, rfl, rfl, by decide +kernel, rfl, by decide +kernel, by decide +kernel⟩
theorem sc_same : FnScope ["actual", "due", "one", "other"] ["actual", "due"] (defScope s_same) := ⟨rfl, rfl, rfl, by decide +kernel, rfl, by decide +kernel, by decide +kernel⟩
theorem sc_odd : FnScope ["hand", "turn"] ["hand"] (defScope s_odd) := ⟨rfl, rfl, rfl, by decide +kernel, rfl, by decide +kernel, by decide +kernel⟩
theorem sc_value : FnScope ["hand"] ["hand"] (defScope s_value) := ⟨rfl, rfl, rfl, by decide +kernel, rfl, by decide +kernel, by decide +kernel⟩
theorem sc_parents : FnScope ["hand", "size", "order", "k", "at", "found", "shape"] ["hand", "size"] (defScope s_parents) := ⟨rfl, rfl, rfl, by decide +kernel, rfl, by decide +kernel, by decide +kernel⟩
theorem sc_plain : FnScope ["hand", "sizes", "size", "k"] ["hand", "sizes"] (defScope s_plain) := ⟨rfl, rfl, rfl, by decide +kernel, rfl, by decide +kernel, by decide +kernel⟩
theorem sc_lup : FnScope ["parents", "house", "found", "k"] ["parents", "house"] (defScope s_lup) := ⟨rfl, rfl, rfl, by decide +kernel, rfl, by decide +kernel, by decide +kernel⟩
theorem sc_lroot : FnScope ["parents", "house"] ["parents", "house"] (defScope s_lroot) := ⟨rfl, rfl, rfl, by decide +kernel, rfl, by decide +kernel, by decide +kernel⟩
theorem sc_lbelow : FnScope ["parents", "house", "other"] ["parents", "house"] (defScope s_lbelow) := ⟨rfl, rfl, rfl, by decide +kernel, rfl, by decide +kernel, by decide +kernel⟩
theorem sc_pright : FnScope ["thing", "one"] ["thing"] (defScope s_pright) := ⟨rfl, rfl, rfl, by decide +kernel, rfl, by decide +kernel, by decide +kernel⟩
theorem sc_bad : FnScope ["parents", "worths", "one"] ["parents", "worths"] (defScope s_bad) := ⟨rfl, rfl, rfl, by decide +kernel, rfl, by decide +kernel, by decide +kernel⟩
theorem sc_spoilt : FnScope ["hand", "parents", "worths", "size", "turn", "at", "low", "other"] ["hand", "parents", "worths"] (defScope s_spoilt) := ⟨rfl, rfl, rfl, by decide +kernel, rfl, by decide +kernel, by decide +kernel⟩
theorem sc_made : FnScope ["parents", "worths", "forest", "error"] ["parents", "worths"] (defScope s_made) := ⟨rfl, rfl, rfl, by decide +kernel, rfl, by decide +kernel, by decide +kernel⟩
theorem sc_law : FnScope ["script", "hand", "plain", "parents", "worths", "forest", "k", "pair", "bad", "due"] ["script"] (defScope s_law) := ⟨rfl, rfl, rfl, by decide +kernel, rfl, by decide +kernel, by decide +kernel⟩
/-! ### what the top has left -/
structure Txt (K : PySem.W.Frag) (mg : Str → Option Value) : Prop where
  n_len : mg "len" = none
  n_isinstance : mg "isinstance" = none
  n_int : mg "int" = none
  n_bool : mg "bool" = none
  n_str : mg "str" = none
  n_tuple : mg "tuple" = none
  n_list : mg "list" = none
  n_range : mg "range" = none
  n_zip : mg "zip" = none
  n_max : mg "max" = none
  n_all : mg "all" = none
  most : ∃ t, mg "MOST_HOUSES" = some (.int 64 t)
structure ForC (K : PySem.W.Frag) (mg : Str → Option Value) (C fI fE CB fB : Addr) : Prop where
  own : Own K C
  nP : NoAttr K C "parents"
  nW : NoAttr K C "worths"
  mgC : mg "Forest" = some (.ref C)
  M : Mk K C fI
  eq1 : PySem.W.findIn K (.ref C) "__eq__" = some (some (.ref fE))
  eq2 : PySem.W.isFn K (.ref fE) = true
  bad : PySem.XBadForest.TxtBadForest K mg CB fB
/-! ### data -/
def ov : Option Nat → V
  | none => .non
  | some k => .int (k : Int)
abbrev nv (k : Nat) : V := .int (k : Int)
abbrev pv' (ps : List (Option Nat)) : List V := ps.map ov
theorem pw_ : ¬ (("parents" : Str) = "worths") := by decide +kernel
theorem wp_ : ¬ (("worths" : Str) = "parents") := by decide +kernel
def pf (a b : Addr) : List (Str × V) := putF "worths" (.ref b) (putF "parents" (.ref a) [])
theorem pf_parents (a b : Addr) : (pf a b).lookup ("parents" : Str) = some (.ref a) := by
  unfold pf
  rw [lookup_putF, if_neg pw_, lookup_putF, if_pos rfl]
theorem pf_worths (a b : Addr) : (pf a b).lookup ("worths" : Str) = some (.ref b) := by
  unfold pf
  rw [lookup_putF, if_pos rfl]
/-! ### lists of houses -/
theorem flat_nv (l : List Nat) : (l.map nv).all flatV = true := by
  rw [List.all_eq_true]
  intro x hx
  obtain ⟨y, _, rfl⟩ := List.mem_map.mp hx
  rfl
theorem eqV_nv (a b : Nat) : eqV (nv a) (nv b) = decide (a = b) := by
  show ((a : Int) == (b : Int)) = decide (a = b)
  rw [Bool.eq_iff_iff, beq_iff_eq, decide_eq_true_iff]
  omega
theorem inV_nv (h : Nat) (l : List Nat) : inV (nv h) (l.map nv) = decide (h ∈ l) := by
  unfold inV
  rw [List.any_map, Bool.eq_iff_iff, List.any_eq_true, decide_eq_true_iff]
  constructor
  · rintro ⟨x, hx, e⟩
    have e2 : eqV (nv x) (nv h) = true := e
    rw [eqV_nv] at e2
    have := of_decide_eq_true e2
    subst this
    exact hx
  · intro hx
    refine ⟨h, hx, ?_⟩
    show eqV (nv h) (nv h) = true
    rw [eqV_nv]
    simp
theorem idx_at {l : List Nat} {x : Nat} (h : x ∈ l) : (l.map nv)[l.idxOf x]? = some (nv x) := by
  have hl : l.idxOf x < l.length := List.idxOf_lt_length_of_mem h
  rw [List.getElem?_map, List.getElem?_eq_getElem hl, List.getElem_idxOf hl]
  rfl
theorem idx_no {l : List Nat} {x : Nat} (m : Nat) (z : V) (hm : m < l.idxOf x) (hz : (l.map nv)[m]? = some z) : eqV z (nv x) = false := by
  rw [List.getElem?_map] at hz
  cases e : l[m]? with
  | none => rw [e] at hz; cases hz
  | some y =>
    rw [e] at hz
    have ez : z = nv y := (Option.some.inj hz).symm
    subst ez
    rw [eqV_nv]
    refine decide_eq_false fun q => ?_
    subst q
    have hl := (List.getElem?_eq_some_iff.mp e).1
    have := List.not_of_lt_findIdx (p := fun z => z == y) (xs := l) (i := m) hm
    rw [(List.getElem?_eq_some_iff.mp e).2] at this
    simp at this
theorem eqV_self (x : Nat) : eqV (nv x) (nv x) = true := by
  rw [eqV_nv]
  simp
theorem rgV_nv (n : Nat) : rgV 0 (n : Int) = (List.range n).map nv := by
  unfold rgV
  rw [Int.sub_zero, Int.toNat_natCast]
  refine List.map_congr_left fun i _ => ?_
  rw [Int.zero_add]
theorem flat_rep (n : Nat) : (List.replicate n [V.non]).flatten = (List.replicate n (none : Option Nat)).map ov := by
  induction n with
  | zero => rfl
  | succ n ih =>
    rw [List.replicate_succ, List.flatten_cons, ih, List.replicate_succ, List.map_cons]
    rfl
/-! ### parents by an order -/
def Par (od : List Nat) (ps : List (Option Nat)) : Prop := ∀ (k g : Nat), od[k]? = some g → ps[g]? = some none ∨ ∃ (j p : Nat), j < k ∧ od[j]? = some p ∧ ps[g]? = some (some p)
theorem par_set {od : List Nat} {ps : List (Option Nat)} (h : Par od ps) (nd : od.Nodup) {k g : Nat} (hk : od[k]? = some g) (hg : g < ps.length) {v : Option Nat} (hv : v = none ∨ ∃ (j p : Nat), j < k ∧ od[j]? = some p ∧ v = some p) : Par od (ps.set g v) := by
  intro k' g' hk'
  by_cases e : g = g'
  · subst e
    have ek : k = k' := nd_ix nd hk hk'
    subst ek
    rw [List.getElem?_set_self hg]
    rcases hv with rfl | ⟨j, p, hj, hp, rfl⟩
    · exact .inl rfl
    · exact .inr ⟨j, p, hj, hp, rfl⟩
  · rw [List.getElem?_set_ne e]
    exact h k' g' hk'
theorem par_tree {od : List Nat} {ps : List (Option Nat)} (h : Par od ps) {n : Nat} (hp : od.Perm (List.range n)) (hn : ps.length = n) : Tree ps := by
  refine tree_ord (o := od) (by rw [hp.length_eq, List.length_range, hn]) (fun x hx => ?_) h
  have : x ∈ od := hp.mem_iff.mpr (List.mem_range.mpr (by omega))
  obtain ⟨i, hi, e⟩ := List.getElem_of_mem this
  exact ⟨i, List.getElem?_eq_some_iff.mpr ⟨hi, e⟩⟩
/-- a Forest -/
structure FAt (C : Addr) (H : Hp) (f : Addr) (ps : List (Option Nat)) (ws : List Int) (dx a b : Addr) : Prop where
  o : H f = some (.ins C dx (pf a b))
  p : H a = some (.tup (ps.map ov))
  w : H b = some (.tup (ws.map V.int))
theorem FAt.same {C : Addr} {H H' : Hp} {f : Addr} {ps : List (Option Nat)} {ws : List Int} {dx a b : Addr} (x : FAt C H f ps ws dx a b) (s : Same H H') : FAt C H' f ps ws dx a b := ⟨s _ _ x.o, s _ _ x.p, s _ _ x.w⟩
theorem FAt.bt {C : Addr} {H H' : Hp} {f h : Addr} {ps : List (Option Nat)} {ws : List Int} {dx a b : Addr} {l : List V} (x : FAt C H f ps ws dx a b) (hh : H h = some (.lst l)) (s : Bt h H H') : FAt C H' f ps ws dx a b :=
  ⟨s _ _ (ne_of x.o hh (fun z => nomatch z)) x.o, s _ _ (ne_of x.p hh (fun z => nomatch z)) x.p, s _ _ (ne_of x.w hh (fun z => nomatch z)) x.w⟩
/-- the hand -/
structure HandAt (H : Hp) (h : Addr) (l : Addr) (ns : List Int) (i b s c : Int) : Prop where
  o : H h = some (.lst [.ref l, .int i, .int b, .int s, .int c])
  n : H l = some (.lst (ns.map V.int))
  i0 : 0 ≤ i
  b0 : 0 ≤ b
  s0 : 0 ≤ s
  s1 : s < 2147483647
def Hand (H : Hp) (h l : Addr) : Prop := ∃ ns i b s c, HandAt H h l ns i b s c
theorem Hand.lst {H : Hp} {h l : Addr} (x : Hand H h l) : ∃ l, H h = some (.lst l) := let ⟨_, _, _, _, _, y⟩ := x; ⟨_, y.o⟩
theorem Hand.row {H : Hp} {h l : Addr} (x : Hand H h l) : ∃ ns, H l = some (.lst ns) := let ⟨_, _, _, _, _, y⟩ := x; ⟨_, y.n⟩
theorem Hand.same {H H' : Hp} {h l : Addr} (x : Hand H h l) (s : Same H H') : Hand H' h l := let ⟨ns, i, b, t, c, y⟩ := x; ⟨ns, i, b, t, c, s _ _ y.o, s _ _ y.n, y.i0, y.b0, y.s0, y.s1⟩
theorem Hand.upd {H : Hp} {h l p : Addr} {o : HO} (x : Hand H h l) (hp : H p = none) : Hand (L2.upd H p o) h l := x.same (same_upd hp)
/-- an object at q, not the hand nor its row, is changed -/
theorem Hand.set {H : Hp} {h l q : Addr} {o : HO} (x : Hand H h l) (n1 : q ≠ h) (n2 : q ≠ l) : Hand (L2.upd H q o) h l := by
  obtain ⟨ns, i, b, s, c, y⟩ := x
  exact ⟨ns, i, b, s, c, by rw [upd_ne n1.symm]; exact y.o, by rw [upd_ne n2.symm]; exact y.n, y.i0, y.b0, y.s0, y.s1⟩

theorem ov_inj {a b : Option Nat} (h : ov a = ov b) : a = b := by
  cases a with
  | none => cases b with
    | none => rfl
    | some k => cases h
  | some k => cases b with
    | none => cases h
    | some m =>
      have e : (k : Int) = (m : Int) := V.int.inj h
      rw [show k = m by omega]
theorem map_inj {α : Type} {f : α → V} (hf : ∀ a b, f a = f b → a = b) : ∀ {l m : List α}, l.map f = m.map f → l = m
  | [], [], _ => rfl
  | [], _ :: _, h => by cases h
  | _ :: _, [], h => by cases h
  | a :: l, b :: m, h => by
    have h1 := (List.cons.inj h).1
    have h2 := (List.cons.inj h).2
    rw [hf a b h1, map_inj hf h2]
theorem ov_maps {l m : List (Option Nat)} (h : l.map ov = m.map ov) : l = m := map_inj (fun _ _ => ov_inj) h
theorem int_maps {l m : List Int} (h : l.map V.int = m.map V.int) : l = m := map_inj (fun _ _ => V.int.inj) h
/-- a house, by value -/
def hsV (n : Int) : V → Bool
  | .int i => decide (0 ≤ i) && decide (i < n)
  | _ => false
def wiV (a b : Int) : V → Bool
  | .int i => decide (a ≤ i) && decide (i ≤ b)
  | _ => false
def okE (n : Int) (x : V) : Bool := decide (x = .non) || hsV n x
theorem okE_ov {n : Nat} {x : V} (h : okE n x = true) : ∃ o : Option Nat, x = ov o ∧ ∀ q, o = some q → q < n := by
  unfold okE at h
  rcases Bool.or_eq_true_iff.mp h with h | h
  · exact ⟨none, of_decide_eq_true h, fun q z => nomatch z⟩
  · cases x with
    | int i =>
      have h2 := Bool.and_eq_true_iff.mp h
      have h3 := of_decide_eq_true h2.1
      have h4 := of_decide_eq_true h2.2
      refine ⟨some i.toNat, ?_, fun q z => ?_⟩
      · show V.int i = V.int ((i.toNat : Nat) : Int)
        rw [Int.toNat_of_nonneg h3]
      · cases z
        omega
    | _ => cases h
theorem ov_okE {n : Nat} {o : Option Nat} (h : ∀ q, o = some q → q < n) : okE n (ov o) = true := by
  cases o with
  | none => rfl
  | some q =>
    have := h q rfl
    show (decide (V.int (q : Int) = V.non) || (decide ((0 : Int) ≤ (q : Int)) && decide ((q : Int) < (n : Int)))) = true
    rw [decide_eq_true (show (0 : Int) ≤ (q : Int) by omega), decide_eq_true (show (q : Int) < (n : Int) by omega)]
    simp
theorem all_ov {n : Nat} : ∀ {xs : List V}, (∀ x ∈ xs, okE n x = true) → ∃ ps : List (Option Nat), xs = ps.map ov ∧ ∀ o ∈ ps, ∀ q, o = some q → q < n
  | [], _ => ⟨[], rfl, fun _ h => by cases h⟩
  | x :: xs, h => by
    obtain ⟨ps, e, k⟩ := all_ov (xs := xs) fun y hy => h y (List.mem_cons_of_mem _ hy)
    obtain ⟨o, e2, k2⟩ := okE_ov (h x List.mem_cons_self)
    refine ⟨o :: ps, by rw [e, e2]; rfl, fun o' ho => ?_⟩
    rcases List.mem_cons.mp ho with rfl | ho
    · exact k2
    · exact k o' ho
theorem int_all : ∀ {xs : List V}, (∀ x ∈ xs, isI x = true) → ∃ ws : List Int, xs = ws.map V.int
  | [], _ => ⟨[], rfl⟩
  | x :: xs, h => by
    obtain ⟨ws, e⟩ := int_all (xs := xs) fun y hy => h y (List.mem_cons_of_mem _ hy)
    obtain ⟨i, e2⟩ := isI_of (h x List.mem_cons_self)
    exact ⟨i :: ws, by rw [e, e2]; rfl⟩
theorem wiV_hsV (n : Nat) (x : V) : wiV 0 ((n : Int) - 1) x = hsV n x := by
  cases x with
  | int i =>
    show (decide (0 ≤ i) && decide (i ≤ (n : Int) - 1)) = (decide (0 ≤ i) && decide (i < (n : Int)))
    have e : decide (i ≤ (n : Int) - 1) = decide (i < (n : Int)) := by
      rw [decide_eq_decide]
      omega
    rw [e]
  | _ => rfl
/-- right parents, right worths -/
def OkP (H : Hp) (x : V) (a : Addr) (ps : List (Option Nat)) : Prop := x = .ref a ∧ H a = some (.tup (ps.map ov)) ∧ Tree ps ∧ 1 ≤ ps.length ∧ ps.length ≤ 64
def OkW (H : Hp) (x : V) (n : Nat) (a : Addr) (ws : List Int) : Prop := x = .ref a ∧ H a = some (.tup (ws.map V.int)) ∧ ws.length = n
theorem OkP.same {H H' : Hp} {x : V} {a : Addr} {ps : List (Option Nat)} (o : OkP H x a ps) (s : Same H H') : OkP H' x a ps := ⟨o.1, s _ _ o.2.1, o.2.2⟩
theorem OkW.same {H H' : Hp} {x : V} {n : Nat} {a : Addr} {ps : List Int} (o : OkW H x n a ps) (s : Same H H') : OkW H' x n a ps := ⟨o.1, s _ _ o.2.1, o.2.2⟩
theorem no_same {C h : Addr} {H H' : Hp} {x : V} (t : Thing C h H x) (s : Same H H') (n : ¬ ∃ a ps, OkP H x a ps) : ¬ ∃ a ps, OkP H' x a ps := fun ⟨a, ps, e, e2, r⟩ => by
  subst e
  exact n ⟨a, ps, rfl, t.any.tup_back (fun b o _ q => s b o q) (fun ys q => s _ _ q) e2, r⟩
theorem now_same {C h : Addr} {H H' : Hp} {x : V} {m : Nat} (t : Thing C h H x) (s : Same H H') (n : ¬ ∃ a ps, OkW H x m a ps) : ¬ ∃ a ps, OkW H' x m a ps := fun ⟨a, ps, e, e2, r⟩ => by
  subst e
  exact n ⟨a, ps, rfl, t.any.tup_back (fun b o _ q => s b o q) (fun ys q => s _ _ q) e2, r⟩
/-! ### promises -/
def spIsInt (C : Addr) : Sp := fun vs H Q _ => ∃ (h : Addr) (x : V), vs = [x] ∧ Any C h H x ∧ Ret (.bl (isI x)) H Q
def spIsHouse (C : Addr) : Sp := fun vs H Q _ => ∃ (h : Addr) (n : Int) (x : V), vs = [.int n, x] ∧ Any C h H x ∧ Ret (.bl (hsV n x)) H Q
def spWithin (C : Addr) : Sp := fun vs H Q _ => ∃ (h : Addr) (a b : Int) (x : V), vs = [x, .int a, .int b] ∧ Any C h H x ∧ Ret (.bl (wiV a b x)) H Q
def spCome (K : PySem.W.Frag) : Sp := fun vs H Q _ => ∃ (a : Addr) (ps : List (Option Nat)), vs = [.ref a] ∧ H a = some (.tup (ps.map ov)) ∧ Inr ps ∧ ps.length ≤ 64 ∧ (Tree ps → Ret (.bl true) H Q) ∧ (¬ Tree ps → Ret (.bl false) H Q)
def spAreP (C : Addr) : Sp := fun vs H Q _ => ∃ (h : Addr) (x : V), vs = [x] ∧ Thing C h H x ∧ (∀ a ps, OkP H x a ps → Ret (.bl true) H Q) ∧ ((¬ ∃ a ps, OkP H x a ps) → Ret (.bl false) H Q)
def spAreW (C : Addr) : Sp := fun vs H Q _ => ∃ (h : Addr) (x : V) (n : Nat), vs = [x, .int (n : Int)] ∧ Thing C h H x ∧ n ≤ 64 ∧ (∀ a ws, OkW H x n a ws → Ret (.bl true) H Q) ∧ ((¬ ∃ a ws, OkW H x n a ws) → Ret (.bl false) H Q)
/-- BadForest, its part told -/
def BadE (CB : Addr) (s : Str) (H : Hp) (E : XK) : Prop := ∀ H' d, Same H H' → H d = none → H' d = some (.xd [(("part" : Str), .str s)]) → E (.ref CB) (some d) H'
def spInit (C CB : Addr) : Sp := fun vs H Q E => ∃ (h x dx : Addr) (y z : V), vs = [.ref x, y, z] ∧ H x = some (.ins C dx []) ∧ Thing C h H y ∧ Thing C h H z ∧
  (∀ a ps b ws, OkP H y a ps → OkW H z ps.length b ws → ∀ H', Bt x H H' → H' x = some (.ins C dx (pf a b)) → Q .non H') ∧ ((¬ ∃ a ps, OkP H y a ps) → BadE CB "parents" H E) ∧ (∀ a ps, OkP H y a ps → (¬ ∃ b ws, OkW H z ps.length b ws) → BadE CB "worths" H E)
def od : Option Nat → PyData
  | none => .none
  | some k => .int (k : Int)
def eqF (ps qs : List (Option Nat)) (ws vs : List Int) : Bool := PyData.eqv (.tuple (ps.map od)) (.tuple (qs.map od)) && PyData.eqv (.tuple (ws.map PyData.int)) (.tuple (vs.map PyData.int))
theorem dp_ps {K : PySem.W.Frag} {H : Hp} : ∀ ps : List (Option Nat), DpAll K H (ps.map ov) (ps.map od)
  | [] => .nil
  | none :: ps => .cons .non (dp_ps ps)
  | some k :: ps => .cons (.int _) (dp_ps ps)
theorem dp_ws {K : PySem.W.Frag} {H : Hp} : ∀ ws : List Int, DpAll K H (ws.map V.int) (ws.map PyData.int)
  | [] => .nil
  | k :: ws => .cons (.int _) (dp_ws ws)
theorem lay_ps : ∀ ps : List (Option Nat), PyData.canLayAll0 (ps.map od) = true
  | [] => rfl
  | none :: ps => lay_ps ps
  | some k :: ps => lay_ps ps
theorem lay_ws : ∀ ws : List Int, PyData.canLayAll0 (ws.map PyData.int) = true
  | [] => rfl
  | k :: ws => lay_ws ws
theorem dep_ps : ∀ ps : List (Option Nat), PyData.depthAll (ps.map od) ≤ 1
  | [] => Nat.zero_le _
  | none :: ps => Nat.max_le.mpr ⟨by decide, dep_ps ps⟩
  | some k :: ps => Nat.max_le.mpr ⟨by show PyData.depth (.int _) ≤ 1; simp [PyData.depth], dep_ps ps⟩
theorem dep_ws : ∀ ws : List Int, PyData.depthAll (ws.map PyData.int) ≤ 1
  | [] => Nat.zero_le _
  | k :: ws => Nat.max_le.mpr ⟨by show PyData.depth (.int _) ≤ 1; simp [PyData.depth], dep_ws ws⟩
theorem sh_tup {l : List PyData} (h1 : PyData.canLayAll0 l = true) (h2 : PyData.depthAll l ≤ 60) : SeqAt.shaped (.tuple l) = true := by
  refine Bool.and_eq_true_iff.mpr ⟨h1, decide_eq_true ?_⟩
  show PyData.depthAll l + 1 ≤ 64
  omega
theorem sh_ps (ps : List (Option Nat)) : SeqAt.shaped (.tuple (ps.map od)) = true := sh_tup (lay_ps ps) (Nat.le_trans (dep_ps ps) (by decide))
theorem sh_ws (ws : List Int) : SeqAt.shaped (.tuple (ws.map PyData.int)) = true := sh_tup (lay_ws ws) (Nat.le_trans (dep_ws ws) (by decide))
/-- of a forest at f -/
def Fo (C : Addr) (H : Hp) (f : Addr) (ps : List (Option Nat)) (ws : List Int) : Prop := ∃ dx a b, FAt C H f ps ws dx a b
theorem Fo.same {C : Addr} {H H' : Hp} {f : Addr} {ps : List (Option Nat)} {ws : List Int} (x : Fo C H f ps ws) (s : Same H H') : Fo C H' f ps ws := let ⟨dx, a, b, y⟩ := x; ⟨dx, a, b, y.same s⟩
def spEq (C : Addr) : Sp := fun vs H Q _ => ∃ (f : Addr) (y : V) (ps : List (Option Nat)) (ws : List Int), vs = [.ref f, y] ∧ Fo C H f ps ws ∧
  ((∃ g qs vs', y = .ref g ∧ Fo C H g qs vs' ∧ Ret (.bl (eqF ps qs ws vs')) H Q) ∨ (∃ t xs, y = .ref t ∧ H t = some (.tup xs) ∧ Ret (.bl false) H Q))
def spMany (C : Addr) : Sp := fun vs H Q _ => ∃ (f : Addr) (ps : List (Option Nat)) (ws : List Int), vs = [.ref f] ∧ Fo C H f ps ws ∧ Ret (nv ps.length) H Q
/-- a row of parents, list or tuple -/
def Pa (H : Hp) (p : Addr) (ps : List (Option Nat)) : Prop := H p = some (.lst (ps.map ov)) ∨ H p = some (.tup (ps.map ov))
theorem Pa.same {H H' : Hp} {p : Addr} {ps : List (Option Nat)} (x : Pa H p ps) (s : Same H H') : Pa H' p ps := x.elim (fun e => .inl (s _ _ e)) fun e => .inr (s _ _ e)
theorem Pa.ix {K : PySem.W.Frag} {H : Hp} {p : Addr} {ps : List (Option Nat)} {i : Int} {v : V} {Q : VK} (x : Pa H p ps) (e : atI (ps.map ov) i = some v) (q : Q v H) : rIxL K (.ref p) (.int i) H Q ∨ rIxT K (.ref p) (.int i) H Q :=
  x.elim (fun h => .inl ⟨p, _, _, _, rfl, rfl, SqL.of h, e, q⟩) fun h => .inr ⟨p, _, _, _, rfl, rfl, SqT.of h, e, q⟩
theorem Pa.sq {K : PySem.W.Frag} {H : Hp} {p : Addr} {ps : List (Option Nat)} (x : Pa H p ps) : SqL K H p (ps.map ov) ∨ SqT K H p (ps.map ov) := x.elim (fun h => .inl (SqL.of h)) fun h => .inr (SqT.of h)
def spLUp : Sp := fun vs H Q _ => ∃ (p : Addr) (ps : List (Option Nat)) (h : Nat), vs = [.ref p, nv h] ∧ Pa H p ps ∧ Inr ps ∧ ps.length ≤ 64 ∧ h < ps.length ∧ (∀ l, Ch ps h l → RetL (l.map nv) H Q) ∧
  ((¬ ∃ l, Ch ps h l) → ∀ H' q ys z, Same H H' → H q = none → H' q = some (.lst (List.map nv ys)) → ys.getLast? = some z → z < ps.length → (¬ ∃ l, Ch ps z l) → Q (.ref q) H')
noncomputable def rt (ps : List (Option Nat)) (h : Nat) : Nat := (up ps h).getLastD 0
noncomputable def bel (ps : List (Option Nat)) (h : Nat) : List Nat := (List.range ps.length).filter fun s => decide (h ∈ up ps s)
def spLRoot : Sp := fun vs H Q _ => ∃ (p : Addr) (ps : List (Option Nat)) (h : Nat), vs = [.ref p, nv h] ∧ Pa H p ps ∧ Inr ps ∧ ps.length ≤ 64 ∧ h < ps.length ∧ (∀ l r, Ch ps h l → ps[r]? = some none → Ret (nv r) H Q) ∧
  ((¬ ∃ l, Ch ps h l) → ∀ z, z < ps.length → (¬ ∃ l, Ch ps z l) → Ret (nv z) H Q)
def spLBelow : Sp := fun vs H Q _ => ∃ (p : Addr) (ps : List (Option Nat)) (h : Nat), vs = [.ref p, nv h] ∧ Pa H p ps ∧ Tree ps ∧ ps.length ≤ 64 ∧ h < ps.length ∧ RetL ((bel ps h).map nv) H Q
def spBad (C : Addr) : Sp := fun vs H Q _ => ∃ (h : Addr) (y z : V), vs = [y, z] ∧ Thing C h H y ∧ Thing C h H z ∧ (∀ a ps b ws, OkP H y a ps → OkW H z ps.length b ws → Ret .non H Q) ∧ ((¬ ∃ a ps, OkP H y a ps) → Ret (.str "parents") H Q) ∧
  (∀ a ps, OkP H y a ps → (¬ ∃ b ws, OkW H z ps.length b ws) → Ret (.str "worths") H Q)
def spMade (C : Addr) : Sp := fun vs H Q _ => ∃ (h : Addr) (y z : V), vs = [y, z] ∧ Thing C h H y ∧ Thing C h H z ∧ (∀ a ps b ws, OkP H y a ps → OkW H z ps.length b ws → RetT [.str "told", y, z] H Q) ∧ ((¬ ∃ a ps, OkP H y a ps) → RetT [.str "BadForest", .str "parents"] H Q) ∧
  (∀ a ps, OkP H y a ps → (¬ ∃ b ws, OkW H z ps.length b ws) → RetT [.str "BadForest", .str "worths"] H Q)
def spHand (K : PySem.W.Frag) : Sp := fun vs H Q _ => ∃ (s : Addr) (ns : List Int), vs = [.ref s] ∧ SqL K H s (ns.map V.int) ∧ ∀ H' h l, Same H H' → H h = none → Hand H' h l → Q (.ref h) H'
def spTake : Sp := fun vs H Q _ => ∃ (h l : Addr) (n : Int), vs = [.ref h, .int n] ∧ Hand H h l ∧ 0 < n ∧ n < 1073741824 ∧ ∀ H' r, Bt h H H' → Hand H' h l → 0 ≤ r → r < n → Q (.int r) H'
def spPick : Sp := fun vs H Q _ => ∃ (h l t : Addr) (xs : List V), vs = [.ref h, .ref t] ∧ Hand H h l ∧ H t = some (.lst xs) ∧ t ≠ h ∧ 0 < xs.length ∧ xs.length ≤ 100000 ∧ ∀ H' x, Bt h H H' → Hand H' h l → x ∈ xs → Q x H'
def spValue : Sp := fun vs H Q _ => ∃ (h l : Addr), vs = [.ref h] ∧ Hand H h l ∧ ∀ H' (i : Int), Bt h H H' → Hand H' h l → Q (.int i) H'
def spParents : Sp := fun vs H Q _ => ∃ (h l : Addr) (n : Nat), vs = [.ref h, nv n] ∧ Hand H h l ∧ 1 ≤ n ∧ n ≤ 64 ∧ ∀ H' p ps, Bt h H H' → Hand H' h l → H p = none → H' p = some (.lst (List.map ov ps)) → ps.length = n → Tree ps → Q (.ref p) H'
def spPlain : Sp := fun vs H Q _ => ∃ (h l t : Addr) (ss : List Nat), vs = [.ref h, .ref t] ∧ Hand H h l ∧ H t = some (.lst (ss.map nv)) ∧ t ≠ h ∧ 0 < ss.length ∧ ss.length ≤ 100 ∧ (∀ s ∈ ss, 1 ≤ s ∧ s ≤ 64) ∧
  ∀ H' pl p q ps ws, Bt h H H' → Hand H' h l → H pl = none → H p = none → H q = none → H' pl = some (.lst [.ref p, .ref q]) → H' p = some (.lst (List.map ov ps)) → H' q = some (.lst (List.map V.int ws)) → Tree ps → 1 ≤ ps.length → ps.length ≤ 64 → ws.length = ps.length → Q (.ref pl) H'
def spOdd (C : Addr) : Sp := fun vs H Q _ => ∃ (h l : Addr), vs = [.ref h] ∧ Hand H h l ∧ ∀ H' x, Bt h H H' → Hand H' h l → Thing C h H' x → Q x H'
def spSpoilt (C : Addr) : Sp := fun vs H Q _ => ∃ (h l p q : Addr) (ps : List (Option Nat)) (ws : List Int), vs = [.ref h, .ref p, .ref q] ∧ Hand H h l ∧ H p = some (.tup (ps.map ov)) ∧ H q = some (.tup (ws.map V.int)) ∧ Tree ps ∧ 1 ≤ ps.length ∧ ps.length ≤ 64 ∧ ws.length = ps.length ∧
  ∀ H' t x y, Bt h H H' → Hand H' h l → H' t = some (.tup [x, y]) → Thing C h H' x → Thing C h H' y → Q (.ref t) H'
/-- alike, to a depth -/
def EqS : Nat → Hp → V → V → Prop
  | 0, _, _, _ => False
  | d + 1, H, x, y => (x = .non ∧ y = .non) ∨ (∃ i, x = .int i ∧ y = .int i) ∨ (∃ i, x = .str i ∧ y = .str i) ∨ ∃ a b xs ys, x = .ref a ∧ y = .ref b ∧ H a = some (.tup xs) ∧ H b = some (.tup ys) ∧ xs.length = ys.length ∧ ∀ (i : Nat) (x y : V), xs[i]? = some x → ys[i]? = some y → EqS d H x y
theorem EqS.same {H H' : Hp} (s : Same H H') : ∀ {d : Nat} {x y : V}, EqS d H x y → EqS d H' x y
  | 0, _, _, h => h.elim
  | d + 1, x, y, h => by
    rcases h with h | h | h | ⟨a, b, xs, ys, h1, h2, h3, h4, h5, h6⟩
    · exact .inl h
    · exact .inr (.inl h)
    · exact .inr (.inr (.inl h))
    · exact .inr (.inr (.inr ⟨a, b, xs, ys, h1, h2, s _ _ h3, s _ _ h4, h5, fun i x y q r => (h6 i x y q r).same s⟩))
theorem EqS.succ {H : Hp} : ∀ {d : Nat} {x y : V}, EqS d H x y → EqS (d + 1) H x y
  | 0, _, _, h => h.elim
  | d + 1, x, y, h => by
    rcases h with h | h | h | ⟨a, b, xs, ys, h1, h2, h3, h4, h5, h6⟩
    · exact .inl h
    · exact .inr (.inl h)
    · exact .inr (.inr (.inl h))
    · exact .inr (.inr (.inr ⟨a, b, xs, ys, h1, h2, h3, h4, h5, fun i x y q r => (h6 i x y q r).succ⟩))
theorem eqs_flat {H : Hp} {d : Nat} {a b : Addr} {xs : List V} (ha : H a = some (.tup xs)) (hb : H b = some (.tup xs)) (h : ∀ x ∈ xs, x = .non ∨ ∃ i, x = .int i) : EqS (d + 2) H (.ref a) (.ref b) := by
  refine .inr (.inr (.inr ⟨a, b, xs, xs, rfl, rfl, ha, hb, rfl, fun i x y hx hy => ?_⟩))
  rw [hx] at hy
  cases hy
  rcases h x (List.mem_of_getElem? hx) with rfl | ⟨j, rfl⟩
  · exact .inl ⟨rfl, rfl⟩
  · exact .inr (.inl ⟨j, rfl, rfl⟩)
theorem flat_ov2 (l : List (Option Nat)) : ∀ x ∈ l.map ov, x = V.non ∨ ∃ i, x = V.int i := fun x hx => by
  obtain ⟨y, _, rfl⟩ := List.mem_map.mp hx
  cases y with
  | none => exact .inl rfl
  | some k => exact .inr ⟨_, rfl⟩
theorem flat_int2 (l : List Int) : ∀ x ∈ l.map V.int, x = V.non ∨ ∃ i, x = V.int i := fun x hx => by
  obtain ⟨y, _, rfl⟩ := List.mem_map.mp hx
  exact .inr ⟨_, rfl⟩
theorem rt_mem {ps : List (Option Nat)} (TR : Tree ps) {h : Nat} (hl : h < ps.length) : rt ps h ∈ up ps h := by
  obtain ⟨r, e, _⟩ := (TR h hl).1.last
  unfold rt
  rw [List.getLastD_eq_getLast?, e]
  exact List.mem_of_getLast? e
theorem rt_lt {ps : List (Option Nat)} (TR : Tree ps) {h : Nat} (hl : h < ps.length) : rt ps h < ps.length := (TR h hl).1.lt _ (rt_mem TR hl)
theorem bel_mem {ps : List (Option Nat)} {h x : Nat} : x ∈ bel ps h ↔ x < ps.length ∧ h ∈ up ps x := by
  unfold bel
  rw [List.mem_filter, List.mem_range, decide_eq_true_iff]
theorem bel_len (ps : List (Option Nat)) (h : Nat) : (bel ps h).length ≤ ps.length := by
  unfold bel
  exact Nat.le_trans (List.length_filter_le _ _) (by rw [List.length_range]; exact Nat.le_refl _)
def spSame (d : Nat) : Sp := fun vs H Q _ => ∃ x y, vs = [x, y] ∧ EqS d H x y ∧ Ret (.bl true) H Q
def spLaw (K : PySem.W.Frag) : Sp := fun vs H Q _ => ∃ (a : Addr) (ns : List Int), vs = [.ref a] ∧ SqL K H a (ns.map V.int) ∧ ns.length ≤ 63 ∧ ∀ H', Q (.bl true) H'
end W2
namespace W2
open PySem PySem.Spec PyProof.Rows L2
theorem rIxL_any {K : PySem.W.Frag} {t : Addr} {xs : List V} {r : Int} {H : Hp} {Q : VK} (ht : H t = some (.lst xs)) (h0 : 0 ≤ r) (h1 : r < xs.length) (k : ∀ v ∈ xs, Q v H) : rIxL K (.ref t) (.int r) H Q := by
  have hr : r.toNat < xs.length := by omega
  exact ⟨t, _, _, _, rfl, rfl, SqL.of ht, at_of (by omega) (List.getElem?_eq_getElem hr), k _ (List.getElem_mem hr)⟩
theorem any_ov {C h : Addr} {H : Hp} (o : Option Nat) : Any C h H (ov o) := by
  cases o with
  | none => exact .non
  | some k => exact .int _
theorem thing_ov {C h a : Addr} {H : Hp} {ps : List (Option Nat)} (e : H a = some (.tup (ps.map ov))) : Thing C h H (.ref a) := .tup e fun y hy => by
  obtain ⟨o, _, rfl⟩ := List.mem_map.mp hy
  exact any_ov o
theorem thing_int {C h a : Addr} {H : Hp} {ws : List Int} (e : H a = some (.tup (ws.map V.int))) : Thing C h H (.ref a) := .tup e fun y hy => by
  obtain ⟨o, _, rfl⟩ := List.mem_map.mp hy
  exact .int _
theorem thing_rep {C h a : Addr} {H : Hp} {n : Nat} (e : H a = some (.tup (List.replicate n [V.non]).flatten)) : Thing C h H (.ref a) := by
  rw [flat_rep] at e
  exact thing_ov e
theorem Thing.go {C h l : Addr} {H H' : Hp} {x : V} (t : Thing C h H x) (hh : Hand H h l) (s : Bt h H H') : Thing C h H' x := let ⟨_, e⟩ := hh.lst; t.bt e s
theorem made_ok {C CB a b x dx : Addr} {ps : List (Option Nat)} {ws : List Int} {H : Hp} {Q : VK} {E : XK} (oy : OkP H (.ref a) a ps) (oz : OkW H (.ref b) ps.length b ws) (hx : H x = none) (hdx : H dx = none) (ne : dx ≠ x)
    (k : ∀ H', L2.Same H H' → FAt C H' x ps ws dx a b → Q (.ref x) H') : spInit C CB [.ref x, .ref a, .ref b] (L2.upd (L2.upd H dx (.own x)) x (.ins C dx [])) (fun v H2 => v = .non ∧ Q (.ref x) H2) E := by
  have hx1 : (L2.upd H dx (.own x)) x = none := by rw [upd_ne ne.symm]; exact hx
  have s : L2.Same H (L2.upd (L2.upd H dx (.own x)) x (.ins C dx [])) := (same_upd hdx).trans (same_upd hx1)
  have oy2 := oy.same s
  have oz2 := oz.same s
  refine ⟨x, x, dx, _, _, rfl, upd_same, thing_ov oy2.2.1, thing_int oz2.2.1, fun a' ps' b' ws' oy' oz' H1 bt e1 => ⟨rfl, ?_⟩, fun n => absurd ⟨a, ps, oy2⟩ n, fun a' ps' oy' n => ?_⟩
  · obtain ⟨z1, ea, _⟩ := oy'
    obtain ⟨z2, eb, _⟩ := oz'
    cases z1
    cases z2
    rw [oy2.2.1] at ea
    rw [oz2.2.1] at eb
    have e3 := ov_maps (HO.tup.inj (Option.some.inj ea))
    have e4 := int_maps (HO.tup.inj (Option.some.inj eb))
    have sm : L2.Same H H1 := fun c o e => bt c o (ne_of_none e hx) (s c o e)
    exact k H1 sm ⟨e1, sm _ _ oy.2.1, sm _ _ oz.2.1⟩
  · obtain ⟨z1, ea, _⟩ := oy'
    cases z1
    rw [oy2.2.1] at ea
    have e3 := ov_maps (HO.tup.inj (Option.some.inj ea))
    exact absurd ⟨b, ws, by rw [← e3]; exact oz2⟩ n
theorem made_okR {C CB a b x dx : Addr} {ps : List (Option Nat)} {ws : List Int} {H : Hp} {R : VK} {E : XK} (oy : OkP H (.ref a) a ps) (oz : OkW H (.ref b) ps.length b ws) (hx : H x = none) (hdx : H dx = none) (ne : dx ≠ x)
    (k : ∀ H', L2.Same H H' → FAt C H' x ps ws dx a b → R .non H') : spInit C CB (.ref x :: ([.ref a, .ref b] ++ [])) (L2.upd (L2.upd H dx (.own x)) x (.ins C dx [])) R E := by
  have hx1 : (L2.upd H dx (.own x)) x = none := by rw [upd_ne ne.symm]; exact hx
  have s : L2.Same H (L2.upd (L2.upd H dx (.own x)) x (.ins C dx [])) := (same_upd hdx).trans (same_upd hx1)
  have oy2 := oy.same s
  have oz2 := oz.same s
  refine ⟨x, x, dx, _, _, rfl, upd_same, thing_ov oy2.2.1, thing_int oz2.2.1, fun a' ps' b' ws' oy' oz' H1 bt e1 => ?_, fun n => absurd ⟨a, ps, oy2⟩ n, fun a' ps' oy' n => ?_⟩
  · obtain ⟨z1, ea, _⟩ := oy'
    obtain ⟨z2, eb, _⟩ := oz'
    cases z1
    cases z2
    rw [oy2.2.1] at ea
    rw [oz2.2.1] at eb
    have e3 := ov_maps (HO.tup.inj (Option.some.inj ea))
    have e4 := int_maps (HO.tup.inj (Option.some.inj eb))
    have sm : L2.Same H H1 := fun c o e => bt c o (ne_of_none e hx) (s c o e)
    exact k H1 sm ⟨e1, sm _ _ oy.2.1, sm _ _ oz.2.1⟩
  · obtain ⟨z1, ea, _⟩ := oy'
    cases z1
    rw [oy2.2.1] at ea
    have e3 := ov_maps (HO.tup.inj (Option.some.inj ea))
    exact absurd ⟨b, ws, by rw [← e3]; exact oz2⟩ n
theorem tree_one : Tree [none] := tree_iff.mpr fun h hh => by
  have : h = 0 := by have := hh; simp at this; omega
  subst this
  exact ⟨[0], .root rfl⟩
/-- Forest((None,), (7,)) -/
theorem tF_ok {C CB : Addr} {σ : L2.St} {H : Hp} {Q : VK} (k : ∀ H' x, L2.Same H H' → H x = none → Fo C H' x [none] [7] → Q (.ref x) H') : tMake C (spInit C CB) [] E0 (tCons (tTup (tCons (tC .non) tNil)) (tCons (tTup (tCons (tC (.int 7)) tNil)) tNil)) σ H Q := by
  refine ⟨small (by show 1 ≤ 100000; decide), fun t1 h1 => ⟨small (by show 1 ≤ 100000; decide), fun t2 h2 x dx hx hdx ne => ?_⟩⟩
  have s1 := same_upd (o := .tup [V.non]) h1
  have s2 := same_upd (o := .tup [V.int 7]) h2
  refine made_ok (ps := [none]) (ws := [7]) ⟨rfl, s2 _ _ upd_same, tree_one, by decide, by decide⟩ ⟨rfl, upd_same, rfl⟩ hx hdx ne fun H' s f => ?_
  exact k H' x ((s1.trans s2).trans s) ((s1.trans s2).free hx) ⟨_, _, _, f⟩
theorem FAt.thing {C h x dx a b : Addr} {H : Hp} {ps : List (Option Nat)} {ws : List Int} (f : FAt C H x ps ws dx a b) (n : x ≠ h) : Thing C h H (.ref x) := .ins n f.o
theorem Fo.thing {C h x : Addr} {H : Hp} {ps : List (Option Nat)} {ws : List Int} (f : Fo C H x ps ws) (n : x ≠ h) : Thing C h H (.ref x) := let ⟨_, _, _, f⟩ := f; f.thing n
theorem Hand.nn {H : Hp} {h l x : Addr} (hh : Hand H h l) (hx : H x = none) : x ≠ h := let ⟨_, e⟩ := hh.lst; (ne_of_none e hx).symm
theorem tE_ok {σ : L2.St} {H : Hp} {Q : VK} (k : ∀ H' t, L2.Same H H' → H' t = some (.tup []) → Q (.ref t) H') : tTup tNil σ H Q := ⟨small (by show 0 ≤ 100000; decide), fun t ht => k _ t (same_upd ht) upd_same⟩
theorem t1_ok {v : V} {σ : L2.St} {H : Hp} {Q : VK} (k : ∀ H' t, L2.Same H H' → H' t = some (.tup [v]) → Q (.ref t) H') : tTup (tCons (tC v) tNil) σ H Q := ⟨small (by show 1 ≤ 100000; decide), fun t ht => k _ t (same_upd ht) upd_same⟩
theorem tR_ok {K : PySem.W.Frag} {n : Nat} (n2 : 2 ≤ n) (n3 : n ≤ 1000) {σ : L2.St} {H : Hp} {Q : VK} (k : ∀ H' t, L2.Same H H' → H' t = some (.tup (List.replicate n [V.non]).flatten) → Q (.ref t) H') : tOp (rRepT K) (tTup (tCons (tC .non) tNil)) (tC (.int (n : Int))) σ H Q :=
  t1_ok fun H1 t1 s1 e1 => ⟨t1, (n : Int), [V.non], rfl, rfl, SqT.of e1, by simp, by omega, by omega, by decide, fun t ht => k _ t (s1.trans (same_upd ht)) (by rw [Int.toNat_natCast]; exact upd_same)⟩
theorem dp_pair {K : PySem.W.Frag} {H : Hp} {t p q : Addr} {ps : List (Option Nat)} {ws : List Int} (e : H t = some (.tup [.ref p, .ref q])) (ep : H p = some (.tup (ps.map ov))) (eq : H q = some (.tup (ws.map V.int))) : Dp K H (.ref t) (.tuple [.tuple (ps.map od), .tuple (ws.map PyData.int)]) :=
  .tup (SqT.of e) (.cons (.tup (SqT.of ep) (dp_ps ps)) (.cons (.tup (SqT.of eq) (dp_ws ws)) .nil))
theorem sh_pair (ps : List (Option Nat)) (ws : List Int) : SeqAt.shaped (.tuple [.tuple (ps.map od), .tuple (ws.map PyData.int)]) = true := by
  refine sh_tup ?_ ?_
  · show (PyData.canLayAll0 (ps.map od) && (PyData.canLayAll0 (ws.map PyData.int) && true)) = true
    rw [lay_ps, lay_ws]
    rfl
  · have h1 := dep_ps ps
    have h2 := dep_ws ws
    show max (PyData.depthAll (ps.map od) + 1) (max (PyData.depthAll (ws.map PyData.int) + 1) 0) ≤ 60
    omega
theorem eqv_pair (a b c d : PyData) : PyData.eqv (.tuple [a, b]) (.tuple [c, d]) = (PyData.eqv a c && PyData.eqv b d) := by
  simp [PyData.eqv, PyData.eqvAll]
theorem eqF_refl (ps : List (Option Nat)) (ws : List Int) : eqF ps ps ws ws = true := by
  unfold eqF
  have h1 : PyData.eqv (.tuple (ps.map od)) (.tuple (ps.map od)) = true := by
    show PyData.eqvAll (ps.map od) (ps.map od) = true
    exact PySem.SeqAt.eqvAll_refl _ (lay_ps ps)
  have h2 : PyData.eqv (.tuple (ws.map PyData.int)) (.tuple (ws.map PyData.int)) = true := by
    show PyData.eqvAll (ws.map PyData.int) (ws.map PyData.int) = true
    exact PySem.SeqAt.eqvAll_refl _ (lay_ws ws)
  rw [h1, h2]
  rfl
theorem eqs_tup {H : Hp} {d : Nat} {t1 t2 : Addr} {xs : List V} (e1 : H t1 = some (.tup xs)) (e2 : H t2 = some (.tup xs)) (k : ∀ x ∈ xs, EqS d H x x) : EqS (d + 1) H (.ref t1) (.ref t2) :=
  .inr (.inr (.inr ⟨t1, t2, xs, xs, rfl, rfl, e1, e2, rfl, fun i x y hx hy => by
    rw [hx] at hy
    cases hy
    exact k x (List.mem_of_getElem? hx)⟩))
theorem eqs_ps {H : Hp} {a : Addr} {ps : List (Option Nat)} (e : H a = some (.tup (ps.map ov))) : EqS 3 H (.ref a) (.ref a) := eqs_flat (d := 1) e e (flat_ov2 ps)
theorem eqs_ws {H : Hp} {a : Addr} {ws : List Int} (e : H a = some (.tup (ws.map V.int))) : EqS 3 H (.ref a) (.ref a) := eqs_flat (d := 1) e e (flat_int2 ws)
theorem eqs_str {H : Hp} (x : Str) : EqS 3 H (.str x) (.str x) := .inr (.inr (.inl ⟨x, rfl, rfl⟩))
theorem OkP.det {H : Hp} {x : V} {a a' : Addr} {ps ps' : List (Option Nat)} (o : OkP H x a ps) (o' : OkP H x a' ps') : ps' = ps := by
  obtain ⟨rfl, e, _⟩ := o
  obtain ⟨z, e', _⟩ := o'
  cases z
  rw [e] at e'
  exact (ov_maps (HO.tup.inj (Option.some.inj e'))).symm
/-- between rounds -/
structure Good (C : Addr) (H : Hp) (h l f : Addr) (ps : List (Option Nat)) (ws : List Int) (dx a b : Addr) : Prop where
  hand : Hand H h l
  F : FAt C H f ps ws dx a b
theorem Good.same {C : Addr} {H H' : Hp} {h l f dx a b : Addr} {ps : List (Option Nat)} {ws : List Int} (g : Good C H h l f ps ws dx a b) (s : L2.Same H H') : Good C H' h l f ps ws dx a b := ⟨g.hand.same s, g.F.same s⟩
end W2
namespace W2
open PySem PySem.Spec PyProof.Rows L2
section
variable {P : Program} {w : World} {K : PySem.W.Frag} {mg : Str → Option Value} {base : Heap} {C fI fE CB fB : Addr}
theorem ok_isint (D : Def K mg "is_integer" s_isint ["thing"]) (T : Txt K mg)  (FC : ForC K mg C fI fE CB fB) : Cal P w K mg base 1 "is_integer" ["thing"] (spIsInt C) := by
  refine D.cal sc_isint (fun vs H Q E h => ?_) (fun f cdv A outer s H vs Q E hr h => ?_)
  · obtain ⟨h, x, rfl, _⟩ := h
    rfl
  · obtain ⟨h, x, rfl, a, k⟩ := h
    obtain ⟨t, ty, k1, k2⟩ := any_kit FC.own a
    refine ⟨_, (pss_one (ps_ret (pe_and (pe_callB (call_isiK1 (K := K) rfl) (by rfl) T.n_isinstance (by decide +kernel) (pa_cons (pv 0) (pa_cons (pe_bltn (v := .ty "int") (by rfl) T.n_int (by decide +kernel) rfl) pa_nil))) (pe_one (pe_not (pe_callB (call_isiK1 (K := K) rfl) (by rfl) T.n_isinstance (by decide +kernel) (pa_cons (pv 0) (pa_cons (pe_bltn (v := .ty "bool") (by rfl) T.n_bool (by decide +kernel) rfl) pa_nil)))))))), ?_⟩
    refine ⟨_, rfl, _, _, _, _, _, rfl, .ty _, ty, k1, _, rfl, iteB (fun e => ?_) (fun e => ?_)⟩
    · refine ⟨_, rfl, _, _, _, _, _, rfl, .ty _, ty, k2, _, rfl, ?_⟩
      have e2 : (!isB x) = isI x := by cases x <;> first | rfl | cases e
      rw [e2]
      exact k _ (L2.Same.refl _)
    · have e2 : isI x = false := by cases x <;> first | rfl | cases e
      have r := k _ (L2.Same.refl _)
      rw [e2] at r
      exact r

end
end W2
namespace W2
open PySem PySem.Spec PyProof.Rows L2
section
variable {P : Program} {w : World} {K : PySem.W.Frag} {mg : Str → Option Value} {base : Heap} {C fI fE CB fB : Addr}
theorem ok_ishouse (D : Def K mg "is_house" s_ishouse ["many", "thing"]) (T : Txt K mg) (C_isint : Cal P w K mg base 1 "is_integer" ["thing"] (spIsInt C)) : Cal P w K mg base 2 "is_house" ["many", "thing"] (spIsHouse C) := by
  refine D.cal sc_ishouse (fun vs H Q E h => ?_) (fun f cdv A outer s H vs Q E hr h => ?_)
  · obtain ⟨h, n, x, rfl, _⟩ := h
    rfl
  · obtain ⟨h, n, x, rfl, a, k⟩ := h
    refine ⟨_, (pss_one (ps_ret (pe_and (pcal C_isint hr (by decide) rfl (pa_cons (pv 1) pa_nil)) (pe_one (pe_chain op_le op_lt pe_int (pv 1) (pv 0)))))), ?_⟩
    refine ⟨_, rfl, h, x, rfl, a, fun H1 s1 => ⟨_, rfl, iteB (fun e => ?_) (fun e => ?_)⟩⟩
    · obtain ⟨i, rfl⟩ := isI_of e
      have r := k _ s1
      refine ⟨_, rfl, _, _, rfl, rfl, _, rfl, iteB (fun e1 => ⟨_, rfl, _, _, rfl, rfl, ?_⟩) (fun e1 => ?_)⟩
      · have r : Q (.bl (decide (0 ≤ i) && decide (i < n))) H1 := r
        rw [e1, Bool.true_and] at r
        exact r
      · have r : Q (.bl (decide (0 ≤ i) && decide (i < n))) H1 := r
        rw [e1, Bool.false_and] at r
        exact r
    · have r := k _ s1
      have e2 : hsV n x = false := by cases x <;> first | rfl | cases e
      rw [e2] at r
      exact r

end
end W2
namespace W2
open PySem PySem.Spec PyProof.Rows L2
section
variable {P : Program} {w : World} {K : PySem.W.Frag} {mg : Str → Option Value} {base : Heap} {C fI fE CB fB : Addr}
theorem ok_come (D : Def K mg "_come_to_roots" s_come ["parents"]) (T : Txt K mg)  : Cal P w K mg base 1 "_come_to_roots" ["parents"] (spCome K) := by
  refine D.cal sc_come (fun vs H Q E h => ?_) (fun f cdv A outer s H vs Q E hr h => ?_)
  · obtain ⟨a, ps, rfl, _⟩ := h
    rfl
  · obtain ⟨a, ps, rfl, hA, IR, hz, kT, kF⟩ := h
    refine ⟨_, (pss_cons (ps_setLc (i := 1) (own := [("parent", 2)]) (g := gName 2) (tt := tYes) (by rfl) sc_come.nd rfl rfl (sw_true rfl rfl rfl (by decide +kernel)) (pi_tup (pv 0)) (blkOk_by (own := [("parent", 2)]) (N := ["parents", "sure", "parent", "house", "line", "at", "passed"]) (sc := defScope s_come) (by decide +kernel)) (fun _ _ _ _ _ => pg_name (i := 2) sc_come.nd rfl (Or.inl rfl)) (fun _ _ _ _ _ => pts_nil) (fun _ _ _ _ _ => (pe_cmpR op_isN (pv 2) pe_non (nomark _))))
      (pss_cons (ps_for PassesOwn.never rfl (pi_range1 rfl T.n_range (pa_cons (pe_callB (call_lenK (K := K) rfl) (by rfl) T.n_len PySem.boot_len (pa_cons (pv 0) pa_nil)) pa_nil)) (pg_name (i := 3) sc_come.nd rfl (Or.inl rfl)) (pss_cons (ps_set (i := 4) sc_come.nd rfl (Or.inl rfl) (pe_lst pa_nil))
      (pss_cons (ps_set (i := 5) sc_come.nd rfl (Or.inl rfl) (pv 3))
      (pss_cons (ps_while PassesOwn.never (pt_not (pt_val (pe_ix (ix_listK (K := K) rfl) (pv 1) (pv 5) (fun _ _ => rfl)))) (pss_cons (ps_if (pt_cmpR op_eq (pe_callB (call_lenK (K := K) rfl) (by rfl) T.n_len PySem.boot_len (pa_cons (pv 4) pa_nil)) (pe_callB (call_lenK (K := K) rfl) (by rfl) T.n_len PySem.boot_len (pa_cons (pv 0) pa_nil)) (nomark _)) (pss_one (ps_ret pe_bl)) pss_nil)
      (pss_cons (ps_expr (pe_bm PySem.F.plainAttrs_list PySem.F.slot_list_append PySem.F.type_list_append mt_append (pv 4) (pa_cons (pv 5) pa_nil)))
      (pss_one (ps_set (i := 5) sc_come.nd rfl (Or.inl rfl) (pe_ix (ix_tupK (K := K) rfl) (pv 0) (pv 5) (fun _ _ => rfl)))))))
      (pss_one (ps_for PassesOwn.never rfl (pi_list (pv 4)) (pg_name (i := 6) sc_come.nd rfl (Or.inl rfl)) (pss_one (ps_asg pe_bl (pg_sub (pv 1) (pv 6) set_list)))))))))
      (pss_one (ps_ret pe_bl)))), ?_⟩
    -- sure = [parent is None for parent in parents]
    refine ⟨_, rfl, a, rfl, ⟨_, SqT.of hA⟩, fun D hD => ?_⟩
    refine lc_tup (xs := ps.map ov) (fun i H' => L2.Same H H' ∧ H' D = some (.lst (((ps.take i).map Option.isNone).map V.bl))) ⟨same_upd hD, by rw [upd_same]; rfl⟩ (fun i H' _ p => SqT.of (p.1 _ _ hA)) ?_ ?_
    · rintro i x H' hx ⟨sm, hd⟩
      rw [List.getElem?_map] at hx
      cases ho : ps[i]? with
      | none => rw [ho] at hx; cases hx
      | some o =>
        rw [ho] at hx
        have ex : x = ov o := (Option.some.inj hx).symm
        subst ex
        have hi := (List.getElem?_eq_some_iff.mp ho).1
        refine ⟨rfl, _, rfl, rfl, _, hd, ?_, Same.upd sm hD, ?_⟩
        · rw [List.length_map, List.length_map, List.length_take]
          exact smalls (by omega)
        · rw [upd_same, List.take_add_one, ho]
          cases o <;> simp [ov]
    rintro H1 ⟨s1, hd1⟩
    rw [List.length_map, List.take_length] at hd1
    have hA1 := s1 _ _ hA
    -- for house in range(len(parents))
    refine ⟨_, rfl, a, _, rfl, .inr (SqT.of hA1), _, rfl, by omega, by rw [List.length_map]; omega, ?_⟩
    rw [List.length_map, Int.toNat_natCast]
    refine for_range (lo := 0) (n := ps.length) (fun i σ H' => ∃ (v2 v3 v4 v5 v6 : Option V) (bs : List Bool), σ = [some (.ref a), some (.ref D), v2, v3, v4, v5, v6] ∧ L2.Same H H' ∧ H' D = some (.lst (bs.map V.bl)) ∧ bs.length = ps.length ∧ (∀ h : Nat, ps[h]? = some none → bs[h]? = some true) ∧
        (∀ h : Nat, bs[h]? = some true → ∃ l, Ch ps h l) ∧ ∀ h, h < i → ∃ l, Ch ps h l)
      ⟨none, none, none, none, none, ps.map Option.isNone, rfl, s1, hd1, List.length_map _, fun h e => by rw [List.getElem?_map, e]; rfl, fun h e => ?_, fun h hh => by omega⟩ ?_ ?_
    · rw [List.getElem?_map] at e
      cases q : ps[h]? with
      | none => rw [q] at e; cases e
      | some o =>
        rw [q] at e
        cases o with
        | none => exact ⟨_, .root q⟩
        | some p => cases e
    · rintro h σ H2 hh ⟨v2, v3, v4, v5, v6, bs, rfl, s2, hd2, hb, hr0, hr1, done⟩
      have hA2 := s2 _ _ hA
      rw [Int.zero_add]
      -- line = []; at = house
      refine ⟨Nat.zero_le _, fun l hl => ⟨_, rfl, ?_⟩⟩
      have nDl : D ≠ l := ne_of_none hd2 hl
      by_cases hc : ∃ l, Ch ps h l
      · obtain ⟨lc, ch⟩ := hc
        have cz := ch.len
        obtain ⟨rest, eh⟩ := ch.head
        refine ⟨fun m σ H' => ∃ (j x : Nat), σ = [some (.ref a), some (.ref D), v2, some (nv h), some (.ref l), some (nv x), v6] ∧ lc[j]? = some x ∧ m = lc.length - j ∧ H' l = some (.lst ((lc.take j).map nv)) ∧ L2.Same H2 H',
          ⟨_, 0, h, rfl, by rw [eh]; rfl, rfl, upd_same, same_upd hl⟩, ?_⟩
        rintro m σ H3 ⟨j, x, rfl, hx, rfl, hL, s3⟩
        have hj := (List.getElem?_eq_some_iff.mp hx).1
        have hxl : x < ps.length := ch.lt x (List.mem_of_getElem? hx)
        have hd3 := s3 _ _ hd2
        have hA3 := s3 _ _ hA2
        have hxb : x < bs.length := by omega
        have hbx : bs[x]? = some bs[x] := List.getElem?_eq_getElem hxb
        generalize bs[x] = b0 at hbx
        have hv : (bs.map V.bl)[x]? = some (.bl b0) := by rw [List.getElem?_map, hbx]; rfl
        refine ⟨_, rfl, _, rfl, D, _, _, _, rfl, rfl, SqL.of hd3, atI_nat hv, b0, rfl, iteB (fun nb => ?_) (fun nb => ?_)⟩
        · -- a step up
          have eb : b0 = false := by cases b0 <;> simp_all
          subst eb
          rcases ch.next hx with ⟨e0, _⟩ | ⟨y, e0, e1⟩
          · rw [hr0 x e0] at hbx; cases hbx
          · refine ⟨_, fun σ' H' n => n, ?_⟩
            refine ⟨_, rfl, l, _, rfl, .inl (SqL.of hL), _, rfl, a, _, rfl, .inr (SqT.of hA3), rfl, _, rfl, iteB (fun e => ?_) (fun _ => ?_)⟩
            · exfalso
              have e2 := of_decide_eq_true e
              have e3 : (((lc.take j).map nv).length : Int) = ((ps.map ov).length : Int) := V.int.inj e2
              rw [List.length_map, List.length_map, List.length_take] at e3
              omega
            · refine ⟨_, rfl, .inl ⟨rfl, _, SqL.of hL⟩, _, rfl, l, _, _, rfl, rfl, hL, ?_, ?_⟩
              · rw [List.length_map, List.length_take]
                exact smalls (by omega)
              · have hvp : (ps.map ov)[x]? = some (nv y) := by rw [List.getElem?_map, e0]; rfl
                have nal : a ≠ l := ne_of_none hA2 hl
                refine ⟨_, rfl, _, rfl, a, _, _, _, rfl, rfl, SqT.of (by rw [upd_ne nal]; exact hA3), atI_nat hvp, _, Nat.sub_lt_sub_left hj (Nat.lt_succ_self j), j + 1, y, rfl, e1, rfl, ?_, Same.upd s3 hl⟩
                rw [upd_same, List.take_add_one, hx, List.map_append]
                rfl
        · -- for passed in line: sure[passed] = True
          refine ⟨_, rfl, l, rfl, ⟨_, SqL.of hL⟩, ?_⟩
          refine for_list (K := K) (a := l) (xs := (lc.take j).map nv) (fun i σ H' => ∃ (v6 : Option V) (bs : List Bool), σ = [some (.ref a), some (.ref D), v2, some (nv h), some (.ref l), some (nv x), v6] ∧ L2.Same H H' ∧ H' l = some (.lst ((lc.take j).map nv)) ∧ H' D = some (.lst (bs.map V.bl)) ∧ bs.length = ps.length ∧ (∀ h : Nat, ps[h]? = some none → bs[h]? = some true) ∧ ∀ h : Nat, bs[h]? = some true → ∃ l, Ch ps h l)
            ⟨v6, bs, rfl, s2.trans s3, hL, hd3, hb, hr0, hr1⟩ (fun i σ H' _ ⟨_, _, _, _, q, _⟩ => SqL.of q) ?_ ?_
          · rintro i y σ H4 hy ⟨v6, bs, rfl, s4, hL4, hd4, hb4, hr4, hr5⟩
            rw [List.getElem?_map] at hy
            cases hy2 : (lc.take j)[i]? with
            | none => rw [hy2] at hy; cases hy
            | some z =>
              rw [hy2] at hy
              have ez : y = nv z := (Option.some.inj hy).symm
              subst ez
              have hzm : z ∈ lc := List.mem_of_mem_take (List.mem_of_getElem? hy2)
              have hzl : z < ps.length := ch.lt z hzm
              refine ⟨_, rfl, _, rfl, D, _, _, _, rfl, rfl, hd4, ixN_nat (by rw [List.length_map]; omega), ?_⟩
              refine ⟨_, bs.set z true, rfl, Same.upd s4 hD, by rw [upd_ne nDl.symm]; exact hL4, by rw [upd_same, List.map_set], by rw [List.length_set]; exact hb4, fun g e => ?_, fun g e => ?_⟩
              · by_cases eg : z = g
                · subst eg
                  rw [List.getElem?_set_self (by omega)]
                · rw [List.getElem?_set_ne eg]
                  exact hr4 g e
              · by_cases eg : z = g
                · subst eg
                  obtain ⟨pre, post, e2⟩ := List.append_of_mem hzm
                  rw [e2] at ch
                  exact ⟨_, Ch.tail ch⟩
                · rw [List.getElem?_set_ne eg] at e
                  exact hr5 g e
          · rintro σ H4 ⟨v6, bs, rfl, s4, hL4, hd4, hb4, hr4, hr5⟩
            refine ⟨_, _, _, _, _, bs, rfl, s4, hd4, hb4, hr4, hr5, fun g hg => ?_⟩
            by_cases eg : g = h
            · subst eg
              exact ⟨_, ch⟩
            · exact done g (by omega)
      · -- round and round
        refine ⟨fun m σ H' => ∃ (x : Nat) (line : List Nat), σ = [some (.ref a), some (.ref D), v2, some (nv h), some (.ref l), some (nv x), v6] ∧ x < ps.length ∧ (¬ ∃ l, Ch ps x l) ∧ m = ps.length - line.length ∧ line.length ≤ ps.length ∧ H' l = some (.lst (line.map nv)) ∧ L2.Same H2 H',
          ⟨_, h, [], rfl, hh, hc, rfl, Nat.zero_le _, upd_same, same_upd hl⟩, ?_⟩
        rintro m σ H3 ⟨x, line, rfl, hxl, nx, rfl, hll, hL, s3⟩
        have hd3 := s3 _ _ hd2
        have hA3 := s3 _ _ hA2
        have hxb : x < bs.length := by omega
        have hbx : bs[x]? = some bs[x] := List.getElem?_eq_getElem hxb
        generalize bs[x] = b0 at hbx
        have hv : (bs.map V.bl)[x]? = some (.bl b0) := by rw [List.getElem?_map, hbx]; rfl
        have eb : b0 = false := by
          cases b0 with
          | false => rfl
          | true => exact absurd (hr1 x hbx) nx
        subst eb
        refine ⟨_, rfl, _, rfl, D, _, _, _, rfl, rfl, SqL.of hd3, atI_nat hv, false, rfl, iteT ?_⟩
        refine ⟨_, fun σ' H' n => n, ?_⟩
        obtain ⟨y, e0, hy, ny⟩ := no_next IR hxl nx
        refine ⟨_, rfl, l, _, rfl, .inl (SqL.of hL), _, rfl, a, _, rfl, .inr (SqT.of hA3), rfl, _, rfl, iteB (fun e => ?_) (fun e => ?_)⟩
        · exact kF (fun t => hc ⟨_, (t h hh).1⟩) _ (s2.trans s3)
        · have hlt : line.length < ps.length := by
            have e2 := of_decide_eq_false e
            by_cases q : line.length = ps.length
            · exact absurd (by rw [List.length_map, List.length_map, q]) e2
            · omega
          refine ⟨_, rfl, .inl ⟨rfl, _, SqL.of hL⟩, _, rfl, l, _, _, rfl, rfl, hL, ?_, ?_⟩
          · rw [List.length_map]
            exact smalls (by omega)
          · have hvp : (ps.map ov)[x]? = some (nv y) := by rw [List.getElem?_map, e0]; rfl
            have nal : a ≠ l := ne_of_none hA2 hl
            refine ⟨_, rfl, _, rfl, a, _, _, _, rfl, rfl, SqT.of (by rw [upd_ne nal]; exact hA3), atI_nat hvp, _, Nat.sub_lt_sub_left hlt (Nat.lt_succ_self _), y, line ++ [x], rfl, hy, ny, by rw [List.length_append]; rfl, by rw [List.length_append]; exact hlt, ?_, Same.upd s3 hl⟩
            rw [upd_same, List.map_append]
            rfl
    · rintro σ H2 ⟨v2, v3, v4, v5, v6, bs, rfl, s2, _, _, _, _, done⟩
      exact kT (tree_iff.mpr done) _ s2

end
end W2
namespace W2
open PySem PySem.Spec PyProof.Rows L2
section
variable {P : Program} {w : World} {K : PySem.W.Frag} {mg : Str → Option Value} {base : Heap} {C fI fE CB fB : Addr}
theorem ok_arepar (D : Def K mg "_are_parents" s_arepar ["thing"]) (T : Txt K mg) (C_ishouse : Cal P w K mg base 2 "is_house" ["many", "thing"] (spIsHouse C)) (C_come : Cal P w K mg base 1 "_come_to_roots" ["parents"] (spCome K)) (FC : ForC K mg C fI fE CB fB) : Cal P w K mg base 3 "_are_parents" ["thing"] (spAreP C) := by
  obtain ⟨tk, hmost⟩ := T.most
  refine D.cal sc_arepar (fun vs H Q E h => ?_) (fun f cdv A outer s H vs Q E hr h => ?_)
  · obtain ⟨h, x, rfl, _⟩ := h
    rfl
  · obtain ⟨h, x, rfl, th, kT, kF⟩ := h
    obtain ⟨t, b, ty, kt, hb1, hb0⟩ := any_tup FC.own th.any
    refine ⟨_, (pss_cons (ps_if (PW.pt (pw_or (pt_not (pt_val (pe_callB (call_isiK1 (K := K) rfl) (by rfl) T.n_isinstance (by decide +kernel) (pa_cons (pv 0) (pa_cons (pe_bltn (v := .ty "tuple") (by rfl) T.n_tuple (by decide +kernel) rfl) pa_nil))))) (pw_or1 (pt_not (pt_chain op_le op_le pe_int (pe_callB (call_lenK (K := K) rfl) (by rfl) T.n_len PySem.boot_len (pa_cons (pv 0) pa_nil)) (pe_glob (v := .int 64) rfl hmost ⟨_, rfl⟩)))))) (pss_one (ps_ret pe_bl)) pss_nil)
      (pss_cons (ps_if (pt_not (pt_val (pe_callB (cr_all rfl) (by rfl) T.n_all (by decide +kernel) (pa_cons (pe_lc (own := [("parent", 1)]) (g := gName 1) (tt := tYes) (by rfl) sc_arepar.nd (pi_tup (pv 0)) (blkOk_by (own := [("parent", 1)]) (N := ["thing", "parent"]) (sc := defScope s_arepar) (by decide +kernel)) (fun _ _ _ _ _ => pg_name (i := 1) sc_arepar.nd rfl (Or.inl rfl)) (fun _ _ _ _ _ => pts_nil) (fun _ _ _ _ _ => (pe_or (pe_cmpR op_isN (pv 1) pe_non (nomark _)) (pe_one (pcal C_ishouse hr (by decide) rfl (pa_cons (pe_callB (call_lenK (K := K) rfl) (by rfl) T.n_len PySem.boot_len (pa_cons (pv 0) pa_nil)) (pa_cons (pv 1) pa_nil))))))) pa_nil)))) (pss_one (ps_ret pe_bl)) pss_nil)
      (pss_one (ps_ret (pcal C_come hr (by decide) rfl (pa_cons (pv 0) pa_nil)))))), ?_⟩
    refine ⟨_, rfl, _, _, _, _, b, rfl, .ty _, ty, kt, b, rfl, ?_⟩
    cases b with
    | false =>
      refine iteT (iteT ?_)
      exact kF (fun ⟨a, ps, e, e2, _⟩ => hb0 rfl a _ e e2) _ (L2.Same.refl _)
    | true =>
      obtain ⟨a, xs, rfl, hA⟩ := hb1 rfl
      have no : (¬ (1 ≤ xs.length ∧ xs.length ≤ 64)) → ∀ {R : Prop}, (Ret (.bl false) H Q → R) → R := fun n R r => r (kF fun ⟨a', ps, e, e2, _, h1, h2⟩ => by
        cases e
        rw [hA] at e2
        cases e2
        rw [List.length_map] at n
        exact n ⟨h1, h2⟩)
      refine iteF ?_
      refine ⟨_, rfl, a, _, rfl, .inr (SqT.of hA), _, _, rfl, rfl, _, rfl, iteB (fun e1 => ?_) (fun e1 => ?_)⟩
      · have h1 : (1 : Int) ≤ (xs.length : Int) := of_decide_eq_true e1
        refine ⟨_, _, rfl, rfl, _, rfl, iteB (fun e2 => ?_) (fun e2 => ?_)⟩
        · exact no (fun ⟨_, z⟩ => by
            have e3 : (decide ((xs.length : Int) ≤ 64)) = false := by
              have e4 : (!decide ((xs.length : Int) ≤ 64)) = true := e2
              simpa using e4
            exact absurd (show (xs.length : Int) ≤ 64 by omega) (of_decide_eq_false e3)) fun r => r _ (L2.Same.refl _)
        · have h2 : (xs.length : Int) ≤ 64 := by
            have e4 : (!decide ((xs.length : Int) ≤ 64)) = false := e2
            simpa using e4
          -- all(parent is None or is_house(len(thing), parent) for parent in thing)
          refine ⟨_, rfl, a, rfl, ⟨_, SqT.of hA⟩, fun D hD => ?_⟩
          refine lc_tup (xs := xs) (fun i H' => L2.Same H H' ∧ H' D = some (.lst (((xs.take i).map (okE xs.length)).map V.bl))) ⟨same_upd hD, by rw [upd_same]; rfl⟩ (fun i H' _ p => SqT.of (p.1 _ _ hA)) ?_ ?_
          · rintro i x H' hx ⟨sm, hd⟩
            have hi := (List.getElem?_eq_some_iff.mp hx).1
            have ax : Any C h H x := th.items a xs rfl hA x (List.mem_of_getElem? hx)
            have fin : ∀ H2, L2.Same H' H2 → ∃ acc, H2 D = some (.lst acc) ∧ acc.length < sizeLine ∧ L2.Same H (L2.upd H2 D (.lst (acc ++ [V.bl (okE xs.length x)]))) ∧ (L2.upd H2 D (.lst (acc ++ [V.bl (okE xs.length x)]))) D = some (.lst (((xs.take (i + 1)).map (okE xs.length)).map V.bl)) := fun H2 s2 =>
              ⟨_, s2 _ _ hd, by rw [List.length_map, List.length_map, List.length_take]; exact smalls (by omega), Same.upd (sm.trans s2) hD, by rw [upd_same, List.take_add_one, hx, List.map_append, List.map_append]; rfl⟩
            refine ⟨rfl, _, rfl, rfl, _, rfl, iteB (fun e3 => ?_) (fun e3 => ?_)⟩
            · have e5 : okE xs.length x = true := by unfold okE; rw [e3]; rfl
              rw [e5] at fin
              exact fin _ (L2.Same.refl _)
            · refine ⟨_, rfl, a, _, rfl, .inr (SqT.of (sm _ _ hA)), _, rfl, h, _, _, rfl, ax.same sm, fun H2 s2 => ?_⟩
              have e5 : okE xs.length x = hsV xs.length x := by unfold okE; rw [e3]; rfl
              rw [e5] at fin
              exact fin _ s2
          rintro H1 ⟨s1, hd1⟩
          rw [List.take_length] at hd1
          refine ⟨D, _, rfl, SqL.of hd1, _, rfl, iteB (fun e3 => ?_) (fun e3 => ?_)⟩
          · have n3 : ¬ ((xs.map (okE xs.length)).all id = true) := by
              intro z
              have z2 : (!(xs.map (okE xs.length)).all id) = true := e3
              rw [z] at z2
              cases z2
            refine kF (fun ⟨a', ps, e, e2, TR, _⟩ => n3 ?_) _ s1
            cases e
            rw [hA] at e2
            cases e2
            rw [List.all_eq_true]
            intro b hb
            obtain ⟨x, hx, rfl⟩ := List.mem_map.mp hb
            obtain ⟨o, ho, rfl⟩ := List.mem_map.mp hx
            rw [List.length_map]
            obtain ⟨i, hi, eo⟩ := List.getElem_of_mem ho
            refine ov_okE fun q eq => TR.inr i q ?_
            rw [List.getElem?_eq_getElem hi, eo, eq]
          · have n3 : (xs.map (okE xs.length)).all id = true := by
              have z2 : (!(xs.map (okE xs.length)).all id) = false := e3
              simpa using z2
            have n4 : ∀ x ∈ xs, okE xs.length x = true := fun x hx => List.all_eq_true.mp n3 _ (List.mem_map_of_mem hx)
            obtain ⟨ps, e5, k5⟩ := all_ov n4
            have lp : xs.length = ps.length := by rw [e5, List.length_map]
            have IR : Inr ps := fun k q e => by
              have := k5 _ (List.mem_of_getElem? e) q rfl
              omega
            subst e5
            refine ⟨_, rfl, a, ps, rfl, s1 _ _ hA, IR, by omega, fun TR H2 s2 => ?_, fun NT H2 s2 => ?_⟩
            · exact kT a ps ⟨rfl, hA, TR, by omega, by omega⟩ _ (s1.trans s2)
            · refine kF (fun ⟨a', qs, e, e2, TR, _⟩ => NT ?_) _ (s1.trans s2)
              cases e
              rw [hA] at e2
              have e6 := ov_maps (HO.tup.inj (Option.some.inj e2))
              rw [e6]
              exact TR
      · refine no (fun ⟨z, _⟩ => ?_) fun r => ?_
        · exact absurd (show (1 : Int) ≤ (xs.length : Int) by omega) (of_decide_eq_false e1)
        · exact ⟨_, rfl, iteT (r _ (L2.Same.refl _))⟩

end
end W2
namespace W2
open PySem PySem.Spec PyProof.Rows L2
section
variable {P : Program} {w : World} {K : PySem.W.Frag} {mg : Str → Option Value} {base : Heap} {C fI fE CB fB : Addr}
theorem ok_arewor (D : Def K mg "_are_worths" s_arewor ["thing", "houses"]) (T : Txt K mg) (C_isint : Cal P w K mg base 1 "is_integer" ["thing"] (spIsInt C)) (FC : ForC K mg C fI fE CB fB) : Cal P w K mg base 2 "_are_worths" ["thing", "houses"] (spAreW C) := by
  refine D.cal sc_arewor (fun vs H Q E h => ?_) (fun f cdv A outer s H vs Q E hr h => ?_)
  · obtain ⟨h, x, n, rfl, _⟩ := h
    rfl
  · obtain ⟨h, x, n, rfl, th, hz, kT, kF⟩ := h
    obtain ⟨t, b, ty, kt, hb1, hb0⟩ := any_tup FC.own th.any
    refine ⟨_, (pss_cons (ps_if (PW.pt (pw_or (pt_not (pt_val (pe_callB (call_isiK1 (K := K) rfl) (by rfl) T.n_isinstance (by decide +kernel) (pa_cons (pv 0) (pa_cons (pe_bltn (v := .ty "tuple") (by rfl) T.n_tuple (by decide +kernel) rfl) pa_nil))))) (pw_or1 (pt_cmpR op_ne (pe_callB (call_lenK (K := K) rfl) (by rfl) T.n_len PySem.boot_len (pa_cons (pv 0) pa_nil)) (pv 1) (nomark _))))) (pss_one (ps_ret pe_bl)) pss_nil)
      (pss_one (ps_ret (pe_callB (cr_all rfl) (by rfl) T.n_all (by decide +kernel) (pa_cons (pe_lc (own := [("worth", 2)]) (g := gName 2) (tt := tYes) (by rfl) sc_arewor.nd (pi_tup (pv 0)) (blkOk_by (own := [("worth", 2)]) (N := ["thing", "houses", "worth"]) (sc := defScope s_arewor) (by decide +kernel)) (fun _ _ _ _ _ => pg_name (i := 2) sc_arewor.nd rfl (Or.inl rfl)) (fun _ _ _ _ _ => pts_nil) (fun _ _ _ _ _ => (pcal C_isint hr (by decide) rfl (pa_cons (pv 2) pa_nil)))) pa_nil))))), ?_⟩
    refine ⟨_, rfl, _, _, _, _, b, rfl, .ty _, ty, kt, b, rfl, ?_⟩
    cases b with
    | false =>
      refine iteT (iteT ?_)
      exact kF (fun ⟨a, ps, e, e2, _⟩ => hb0 rfl a _ e e2) _ (L2.Same.refl _)
    | true =>
      obtain ⟨a, xs, rfl, hA⟩ := hb1 rfl
      refine iteF ?_
      refine ⟨_, rfl, a, _, rfl, .inr (SqT.of hA), _, rfl, rfl, _, rfl, iteB (fun e1 => ?_) (fun e1 => ?_)⟩
      · refine kF (fun ⟨a', ws, e, e2, e3⟩ => ?_) _ (L2.Same.refl _)
        cases e
        rw [hA] at e2
        cases e2
        have e4 : (!decide (V.int (((ws.map V.int).length : Nat) : Int) = V.int (n : Int))) = true := e1
        rw [List.length_map, e3, decide_eq_true rfl] at e4
        cases e4
      · have ln : xs.length = n := by
          have e4 : (!decide (V.int ((xs.length : Nat) : Int) = V.int (n : Int))) = false := e1
          have e5 : decide (V.int ((xs.length : Nat) : Int) = V.int (n : Int)) = true := by simpa using e4
          have e6 := V.int.inj (of_decide_eq_true e5)
          omega
        refine ⟨_, rfl, a, rfl, ⟨_, SqT.of hA⟩, fun D hD => ?_⟩
        refine lc_tup (xs := xs) (fun i H' => L2.Same H H' ∧ H' D = some (.lst (((xs.take i).map isI).map V.bl))) ⟨same_upd hD, by rw [upd_same]; rfl⟩ (fun i H' _ p => SqT.of (p.1 _ _ hA)) ?_ ?_
        · rintro i x H' hx ⟨sm, hd⟩
          have hi := (List.getElem?_eq_some_iff.mp hx).1
          have ax : Any C h H x := th.items a xs rfl hA x (List.mem_of_getElem? hx)
          exact ⟨rfl, _, rfl, h, x, rfl, ax.same sm, fun H2 s2 => ⟨_, s2 _ _ hd, by rw [List.length_map, List.length_map, List.length_take]; exact smalls (by omega), Same.upd (sm.trans s2) hD, by rw [upd_same, List.take_add_one, hx, List.map_append, List.map_append]; rfl⟩⟩
        rintro H1 ⟨s1, hd1⟩
        rw [List.take_length] at hd1
        refine ⟨D, _, rfl, SqL.of hd1, ?_⟩
        have key : (xs.map isI).all id = true ↔ ∃ ws : List Int, xs = ws.map V.int := by
          rw [List.all_eq_true]
          constructor
          · intro z
            have z2 : ∀ x ∈ xs, isI x = true := fun x hx => z _ (List.mem_map_of_mem hx)
            exact int_all z2
          · rintro ⟨ws, rfl⟩ b hb
            obtain ⟨x, hx, rfl⟩ := List.mem_map.mp hb
            obtain ⟨o, ho, rfl⟩ := List.mem_map.mp hx
            rfl
        cases e : (xs.map isI).all id with
        | true =>
          obtain ⟨ws, rfl⟩ := key.mp e
          exact kT a ws ⟨rfl, hA, by rw [← ln, List.length_map]⟩ _ s1
        | false =>
          refine kF (fun ⟨a', ws, e2, e3, _⟩ => ?_) _ s1
          cases e2
          rw [hA] at e3
          cases e3
          rw [key.mpr ⟨ws, rfl⟩] at e
          cases e

end
end W2
namespace W2
open PySem PySem.Spec PyProof.Rows L2
section
variable {P : Program} {w : World} {K : PySem.W.Frag} {mg : Str → Option Value} {base : Heap} {C fI fE CB fB : Addr}
theorem ok_init {fdI : FuncData} (F : Fun K "__init__" "Forest.__init__" s_init fI fdI) (T : Txt K mg) (C_arepar : Cal P w K mg base 3 "_are_parents" ["thing"] (spAreP C)) (C_arewor : Cal P w K mg base 2 "_are_worths" ["thing", "houses"] (spAreW C)) (FC : ForC K mg C fI fE CB fB) : FnOk P w K mg base (L2.CX P w) 4 fI fdI ["self", "parents", "worths"] (spInit C CB) := by
  refine F.okX sc_init (fun vs H Q E h => ?_) (fun cdv A outer s H vs Q E hr h => ?_)
  · obtain ⟨h, x, dx, y, z, rfl, _⟩ := h
    rfl
  · obtain ⟨h, x, dx, y, z, rfl, hx, ty, tz, k1, k2, k3⟩ := h
    refine ⟨_, (pss_cons (ps_if (pt_not (pt_val (pcal C_arepar hr (by decide) rfl (pa_cons (pv 1) pa_nil)))) (pss_one (ps_raise_BadForest rfl FC.bad hr (takes_of rfl rfl rfl rfl) (pa_cons pe_str pa_nil))) pss_nil)
      (pss_cons (ps_if (pt_not (pt_val (pcal C_arewor hr (by decide) rfl (pa_cons (pv 2) (pa_cons (pe_callB (call_lenK (K := K) rfl) (by rfl) T.n_len PySem.boot_len (pa_cons (pv 1) pa_nil)) pa_nil))))) (pss_one (ps_raise_BadForest rfl FC.bad hr (takes_of rfl rfl rfl rfl) (pa_cons pe_str pa_nil))) pss_nil)
      (pss_cons (ps_fld (pv 0) (pv 1) rfl)
      (pss_one (ps_fld (pv 0) (pv 2) rfl))))), ?_⟩
    by_cases oy : ∃ a ps, OkP H y a ps
    · obtain ⟨a, ps, oy⟩ := oy
      refine ⟨_, rfl, h, y, rfl, ty, fun a' ps' _ H1 s1 => ⟨true, rfl, iteF ?_⟩, fun n => absurd ⟨a, ps, oy⟩ n⟩
      obtain ⟨rfl, ea, TR, p1, p64⟩ := id oy
      have ez : (((ps.map ov).length : Nat) : Int) = ((ps.length : Nat) : Int) := by rw [List.length_map]
      refine ⟨_, rfl, _, rfl, a, _, rfl, .inr (SqT.of (s1 _ _ ea)), h, z, ps.length, by rw [ez]; rfl, tz.same s1, p64, fun b ws oz H2 s2 => ⟨true, rfl, iteF ?_⟩, fun n H2 s2 => ⟨false, rfl, iteT ?_⟩⟩
      · obtain ⟨rfl, eb, lw⟩ := id oz
        have s := s1.trans s2
        have eb0 : H b = some (.tup (ws.map V.int)) := tz.any.tup_back (fun c o _ q => s1 c o q) (fun ys q => s1 _ _ q) eb
        refine ⟨_, rfl, _, rfl, x, C, dx, _, rfl, s _ _ hx, FC.own.cl, FC.nP, by decide, ?_⟩
        refine ⟨_, rfl, _, rfl, x, C, dx, _, rfl, upd_same, FC.own.cl, FC.nW, by show 1 < 1000; decide, ?_⟩
        exact k1 a ps b ws oy ⟨rfl, eb0, lw⟩ _ (fun c o n e => by rw [upd_ne n, upd_ne n]; exact s _ _ e) upd_same
      · refine ⟨_, rfl, fun d hd => ?_⟩
        have n0 : ¬ ∃ b ws, OkW H z ps.length b ws := fun ⟨b, ws, o⟩ => n ⟨b, ws, o.same s1⟩
        exact k3 a ps oy n0 _ d ((s1.trans s2).trans (same_upd hd)) ((s1.trans s2).free hd) upd_same
    · refine ⟨_, rfl, h, y, rfl, ty, fun a' ps' o => absurd ⟨a', ps', o⟩ oy, fun n H1 s1 => ⟨false, rfl, iteT ?_⟩⟩
      exact ⟨_, rfl, fun d hd => k2 oy _ d (s1.trans (same_upd hd)) (s1.free hd) upd_same⟩

end
end W2
namespace W2
open PySem PySem.Spec PyProof.Rows L2
section
variable {P : Program} {w : World} {K : PySem.W.Frag} {mg : Str → Option Value} {base : Heap} {C fI fE CB fB : Addr}
theorem ok_eq {fdE : FuncData} (F : Fun K "__eq__" "Forest.__eq__" s_eq fE fdE) (T : Txt K mg)  (FC : ForC K mg C fI fE CB fB) : FnOk P w K mg base CX0 1 fE fdE ["self", "other"] (spEq C) := by
  refine F.ok sc_eq (fun vs H Q E h => ?_) (fun cdv A outer s H vs Q E hr h => ?_)
  · obtain ⟨f, y, ps, ws, rfl, _⟩ := h
    rfl
  · obtain ⟨f, y, ps, ws, rfl, ⟨dx, a, b, F⟩, hy⟩ := h
    refine ⟨_, (pss_one (ps_ret (pe_and (pe_callB (call_isiK1 (K := K) rfl) (by rfl) T.n_isinstance (by decide +kernel) (pa_cons (pv 1) (pa_cons (pe_glob (v := .ref C) rfl FC.mgC rfl) pa_nil))) (pe_and (pe_cmpR (op_eqD hr.units) (pe_fld (pv 0) rfl) (pe_fld (pv 1) rfl) (nomark _)) (pe_one (pe_cmpR (op_eqD hr.units) (pe_fld (pv 0) rfl) (pe_fld (pv 1) rfl) (nomark _))))))), ?_⟩
    rcases hy with ⟨g, qs, vs', rfl, ⟨dy, a', b', F'⟩, k⟩ | ⟨t, xs, rfl, et, k⟩
    · refine ⟨_, rfl, _, _, _, _, true, rfl, .own C, .base (.ins F'.o FC.own.cl FC.own.ha FC.own.hn FC.own.htk FC.own.hm), FC.own.kC, true, rfl, iteT ?_⟩
      refine ⟨_, rfl, f, C, dx, _, _, rfl, F.o, FC.own.cl, FC.nP, pf_parents a b, _, rfl, g, C, dy, _, _, rfl, F'.o, FC.own.cl, FC.nP, pf_parents a' b', _, _, .tup (SqT.of F.p) (dp_ps ps), .tup (SqT.of F'.p) (dp_ps qs), sh_ps ps, sh_ps qs, _, rfl, iteB (fun e => ?_) (fun e => ?_)⟩
      · refine ⟨_, rfl, f, C, dx, _, _, rfl, F.o, FC.own.cl, FC.nW, pf_worths a b, _, rfl, g, C, dy, _, _, rfl, F'.o, FC.own.cl, FC.nW, pf_worths a' b', _, _, .tup (SqT.of F.w) (dp_ws ws), .tup (SqT.of F'.w) (dp_ws vs'), sh_ws ws, sh_ws vs', ?_⟩
        have r := k _ (L2.Same.refl _)
        unfold eqF at r
        rw [e, Bool.true_and] at r
        exact r
      · have r := k _ (L2.Same.refl _)
        unfold eqF at r
        rw [e, Bool.false_and] at r
        exact r
    · refine ⟨_, rfl, _, _, _, _, false, rfl, .own C, .base (.tup et), FC.own.tC, false, rfl, iteF ?_⟩
      exact k _ (L2.Same.refl _)

end
end W2
namespace W2
open PySem PySem.Spec PyProof.Rows L2
section
variable {P : Program} {w : World} {K : PySem.W.Frag} {mg : Str → Option Value} {base : Heap} {C fI fE CB fB : Addr}
theorem ok_many (D : Def K mg "many" s_many ["forest"]) (T : Txt K mg)  (FC : ForC K mg C fI fE CB fB) : Cal P w K mg base 1 "many" ["forest"] (spMany C) := by
  refine D.cal sc_many (fun vs H Q E h => ?_) (fun f cdv A outer s H vs Q E hr h => ?_)
  · obtain ⟨f, ps, ws, rfl, _⟩ := h
    rfl
  · obtain ⟨f, ps, ws, rfl, ⟨dx, a, b, F⟩, k⟩ := h
    refine ⟨_, (pss_one (ps_ret (pe_callB (call_lenK (K := K) rfl) (by rfl) T.n_len PySem.boot_len (pa_cons (pe_fld (pv 0) rfl) pa_nil)))), ?_⟩
    refine ⟨_, rfl, f, C, dx, _, _, rfl, F.o, FC.own.cl, FC.nP, pf_parents a b, a, _, rfl, .inr (SqT.of F.p), ?_⟩
    rw [List.length_map]
    exact k _ (L2.Same.refl _)

end
end W2
namespace W2
open PySem PySem.Spec PyProof.Rows L2
section
variable {P : Program} {w : World} {K : PySem.W.Frag} {mg : Str → Option Value} {base : Heap} {C fI fE CB fB : Addr}
theorem ok_lhand (D : Def K mg "_law_hand" s_lhand ["script"]) (T : Txt K mg)  : Cal P w K mg base 1 "_law_hand" ["script"] (spHand K) := by
  refine D.cal sc_lhand (fun vs H Q E h => ?_) (fun f cdv A outer s H vs Q E hr h => ?_)
  · obtain ⟨s0, ns, rfl, _⟩ := h
    rfl
  · obtain ⟨s0, ns, rfl, hS, k⟩ := h
    refine ⟨_, (pss_one (ps_ret (pe_lst (pa_cons (pe_callTy call_list_of (by rfl) T.n_list (by decide +kernel) (pa_cons (pv 0) pa_nil)) (pa_cons pe_int (pa_cons pe_int (pa_cons pe_int (pa_cons pe_int pa_nil)))))))), ?_⟩
    refine ⟨_, rfl, s0, _, rfl, .inl hS, fun l hl => ⟨small (by show 5 ≤ 100000; decide), fun p hp => ?_⟩⟩
    have npl : p ≠ l := fun z => by rw [z, upd_same] at hp; cases hp
    refine k _ p l ((same_upd hl).trans (same_upd hp)) ((same_upd hl).free hp) ⟨ns, 0, 0, 1, 0, upd_same, by rw [upd_ne npl.symm, upd_same], by decide, by decide, by decide, by decide⟩

end
end W2
namespace W2
open PySem PySem.Spec PyProof.Rows L2
section
variable {P : Program} {w : World} {K : PySem.W.Frag} {mg : Str → Option Value} {base : Heap} {C fI fE CB fB : Addr}
theorem ok_take (D : Def K mg "_law_take" s_take ["hand", "size"]) (T : Txt K mg)  : Cal P w K mg base 1 "_law_take" ["hand", "size"] spTake := by
  refine D.cal sc_take (fun vs H Q E h => ?_) (fun f cdv A outer s H vs Q E hr h => ?_)
  · obtain ⟨h, l, n, rfl, _⟩ := h
    rfl
  · obtain ⟨h, l, n, rfl, HH, n0, n1, k⟩ := h
    refine ⟨_, (pss_cons (ps_asg (pe_op op_add (pe_ix (ix_listK (K := K) rfl) (pv 0) pe_int (fun _ _ => rfl)) pe_int) (pg_sub (pv 0) pe_int set_list))
      (C8.pss_cut (ps_if (PW.pt (pw_and (pt_cmpR op_eq (pe_ix (ix_listK (K := K) rfl) (pv 0) pe_int (fun _ _ => rfl)) pe_int (nomark _)) (pw_and1 (pt_cmpR op_lt (pe_ix (ix_listK (K := K) rfl) (pv 0) pe_int (fun _ _ => rfl)) (pe_callB (call_lenK (K := K) rfl) (by rfl) T.n_len PySem.boot_len (pa_cons (pe_ix (ix_listK (K := K) rfl) (pv 0) pe_int (fun _ _ => rfl)) pa_nil)) (nomark _))))) (pss_cons (ps_set (i := 2) sc_take.nd rfl (Or.inl rfl) (pe_callTy call_int1 (by rfl) T.n_int (by decide +kernel) (pa_cons (pe_ix (ix_listK (K := K) rfl) (pe_ix (ix_listK (K := K) rfl) (pv 0) pe_int (fun _ _ => rfl)) (pe_ix (ix_listK (K := K) rfl) (pv 0) pe_int (fun _ _ => rfl)) (fun _ _ => rfl)) pa_nil)))
      (pss_cons (ps_asg (pe_op op_add (pe_ix (ix_listK (K := K) rfl) (pv 0) pe_int (fun _ _ => rfl)) pe_int) (pg_sub (pv 0) pe_int set_list))
      (pss_one (ps_if (pt_cmpR op_ge (pv 2) (pe_op op_pow pe_int pe_int) (nomark _)) (pss_one (ps_asg (pv 2) (pg_sub (pv 0) pe_int set_list))) (pss_one (ps_asg (pe_op op_mod (pe_callTy call_int1 (by rfl) T.n_int (by decide +kernel) (pa_cons (pe_op op_add (pe_op op_add (pe_op op_mul (pe_ix (ix_listK (K := K) rfl) (pv 0) pe_int (fun _ _ => rfl)) pe_int) (pe_op op_mod (pe_callTy call_int1 (by rfl) T.n_int (by decide +kernel) (pa_cons (pv 2) pa_nil)) pe_int)) pe_int) pa_nil)) pe_int) (pg_sub (pv 0) pe_int set_list))))))) pss_nil)
      (pss_cons (ps_if (pt_cmpR op_gt (pe_ix (ix_listK (K := K) rfl) (pv 0) pe_int (fun _ _ => rfl)) pe_int (nomark _)) (pss_cons (ps_set (i := 3) sc_take.nd rfl (Or.inl rfl) (pe_op op_mod (pe_callTy call_int1 (by rfl) T.n_int (by decide +kernel) (pa_cons (pe_ix (ix_listK (K := K) rfl) (pv 0) pe_int (fun _ _ => rfl)) pa_nil)) (pv 1)))
      (pss_cons (ps_asg (pe_op op_fdivW (pe_callTy call_int1 (by rfl) T.n_int (by decide +kernel) (pa_cons (pe_ix (ix_listK (K := K) rfl) (pv 0) pe_int (fun _ _ => rfl)) pa_nil)) (pv 1)) (pg_sub (pv 0) pe_int set_list))
      (pss_one (ps_ret (pv 3))))) pss_nil)
      (pss_cons (ps_asg (pe_op op_mod (pe_callTy call_int1 (by rfl) T.n_int (by decide +kernel) (pa_cons (pe_op op_add (pe_op op_mul (pe_ix (ix_listK (K := K) rfl) (pv 0) pe_int (fun _ _ => rfl)) pe_int) (pe_op op_mul pe_int (pe_ix (ix_listK (K := K) rfl) (pv 0) pe_int (fun _ _ => rfl)))) pa_nil)) pe_int) (pg_sub (pv 0) pe_int set_list))
      (pss_cons (ps_set (i := 4) sc_take.nd rfl (Or.inl rfl) (pe_op op_mod (pe_callTy call_int1 (by rfl) T.n_int (by decide +kernel) (pa_cons (pe_op op_mul (pe_ix (ix_listK (K := K) rfl) (pv 0) pe_int (fun _ _ => rfl)) (pe_op op_add (pe_op op_fdivW (pe_ix (ix_listK (K := K) rfl) (pv 0) pe_int (fun _ _ => rfl)) pe_int) pe_int)) pa_nil)) pe_int))
      (pss_cons (ps_set (i := 4) sc_take.nd rfl (Or.inl rfl) (pe_op op_mod (pe_callTy call_int1 (by rfl) T.n_int (by decide +kernel) (pa_cons (pe_op op_mul (pv 4) (pe_op op_add (pe_op op_fdivW (pv 4) pe_int) pe_int)) pa_nil)) pe_int))
      (pss_one (ps_ret (pe_op op_mod (pe_callTy call_int1 (by rfl) T.n_int (by decide +kernel) (pa_cons (pe_op op_fdivW (pv 4) pe_int) pa_nil)) (pv 1)))))))))), ?_⟩
    obtain ⟨ns, i, b, sd, c, X⟩ := HH
    have hO := X.o
    have nl : l ≠ h := by
      intro z
      subst z
      have e := hO.symm.trans X.n
      cases ns with
      | nil => cases e
      | cons z r => cases e
    have i0 := X.i0
    have b0 := X.b0
    have s0 := X.s0
    have s1 := X.s1
    -- hand[4] = hand[4] + 1
    refine ⟨_, rfl, h, _, _, _, rfl, rfl, SqL.of hO, rfl, _, _, rfl, rfl, _, rfl, h, _, _, _, rfl, rfl, hO, rfl, ?_⟩
    generalize hH1 : L2.upd H h _ = H1
    have t1 : Bt h H H1 := by rw [← hH1]; exact (Bt.refl h H).upd
    have hO1 : H1 h = some (.lst [.ref l, .int i, .int b, .int sd, .int (c + 1)]) := by rw [← hH1]; exact upd_same
    have hn1 : H1 l = some (.lst (ns.map V.int)) := t1 _ _ nl X.n
    generalize c + 1 = c1 at hO1
    -- the first if
    refine ⟨fun σ H' => ∃ (v2 : Option V) (j : Int) (b' s' : Int), σ = [some (.ref h), some (.int n), v2, none, none] ∧ Bt h H H' ∧ HandAt H' h l ns j b' s' c1, ?_, ?_⟩
    · refine ⟨_, rfl, h, _, _, _, rfl, rfl, SqL.of hO1, rfl, rfl, _, rfl, ?_⟩
      refine iteB (fun _ => ?_) (fun _ => ⟨_, _, _, _, rfl, t1, hO1, hn1, i0, b0, s0, s1⟩)
      refine ⟨_, rfl, h, _, _, _, rfl, rfl, SqL.of hO1, rfl, _, rfl, h, _, _, _, rfl, rfl, SqL.of hO1, rfl, l, _, rfl, .inl (SqL.of hn1), _, _, rfl, rfl, _, rfl, ?_⟩
      refine iteB (fun lt => ?_) (fun _ => ⟨_, _, _, _, rfl, t1, hO1, hn1, i0, b0, s0, s1⟩)
      have lt' : i < ((ns.map V.int).length : Int) := of_decide_eq_true lt
      rw [List.length_map] at lt'
      have hj : i.toNat < ns.length := by omega
      have hz : (ns.map V.int)[i.toNat]? = some (.int ns[i.toNat]) := by rw [List.getElem?_map, List.getElem?_eq_getElem hj]; rfl
      generalize ns[i.toNat] = z at hz
      have hat : atI (ns.map V.int) i = some (.int z) := at_of (by omega) hz
      -- cell = int(hand[0][hand[1]])
      refine ⟨_, rfl, h, _, _, _, rfl, rfl, SqL.of hO1, rfl, _, rfl, h, _, _, _, rfl, rfl, SqL.of hO1, rfl, l, _, _, _, rfl, rfl, SqL.of hn1, hat, .inl ⟨z, rfl, ?_⟩⟩
      -- hand[1] = hand[1] + 1
      refine ⟨_, rfl, h, _, _, _, rfl, rfl, SqL.of hO1, rfl, _, _, rfl, rfl, _, rfl, h, _, _, _, rfl, rfl, hO1, rfl, ?_⟩
      generalize hH2 : L2.upd H1 h _ = H2
      have t2 : Bt h H H2 := by rw [← hH2]; exact t1.upd
      have hO2 : H2 h = some (.lst [.ref l, .int (i + 1), .int b, .int sd, .int c1]) := by rw [← hH2]; exact upd_same
      have hn2 : H2 l = some (.lst (ns.map V.int)) := t2 _ _ nl X.n
      -- if cell >= 10 ** 18
      refine ⟨_, rfl, 10, 18, rfl, rfl, ⟨by decide, by decide, by decide⟩, _, _, rfl, rfl, _, rfl, ?_⟩
      refine iteB (fun ge => ?_) (fun _ => ?_)
      · have ge' : (10 : Int) ^ (18 : Int).toNat ≤ z := of_decide_eq_true ge
        have z0 : 0 ≤ z := Int.le_trans (by decide) ge'
        refine ⟨_, rfl, _, rfl, h, _, _, _, rfl, rfl, hO2, rfl, ?_⟩
        exact ⟨_, i + 1, z, sd, rfl, t2.upd, upd_same, by rw [upd_ne nl]; exact hn2, by omega, z0, s0, s1⟩
      · refine ⟨_, rfl, h, _, _, _, rfl, rfl, SqL.of hO2, rfl, _, _, rfl, rfl, .inl ⟨by omega, by omega⟩, _, rfl, .inl ⟨_, rfl, _, _, rfl, rfl, M31, _, _, rfl, rfl, _, _, rfl, rfl, .inl ⟨_, rfl, _, _, rfl, rfl, M31, _, rfl, h, _, _, _, rfl, rfl, hO2, rfl, ?_⟩⟩⟩
        exact ⟨_, i + 1, b, _, rfl, t2.upd, upd_same, by rw [upd_ne nl]; exact hn2, by omega, b0, Int.emod_nonneg _ (by decide), Int.emod_lt_of_pos _ (by decide)⟩
    · rintro σ H2 ⟨v2, j, b', s', rfl, t2, Y⟩
      have hO2 := Y.o
      -- if hand[2] > 0
      refine ⟨_, rfl, h, _, _, _, rfl, rfl, SqL.of hO2, rfl, _, _, rfl, rfl, _, rfl, ?_⟩
      refine iteB (fun _ => ?_) (fun _ => ?_)
      · refine ⟨_, rfl, h, _, _, _, rfl, rfl, SqL.of hO2, rfl, .inl ⟨_, rfl, _, rfl, _, _, rfl, rfl, n0, ?_⟩⟩
        refine ⟨_, rfl, h, _, _, _, rfl, rfl, SqL.of hO2, rfl, .inl ⟨_, rfl, _, rfl, _, _, rfl, rfl, wide_div n0 (b := 30) (by omega) (by decide) (by decide), _, rfl, h, _, _, _, rfl, rfl, hO2, rfl, ?_⟩⟩
        refine ⟨_, rfl, k _ _ t2.upd ⟨ns, j, b' / n, s', c1, upd_same, by rw [upd_ne nl]; exact Y.n, Y.i0, Int.ediv_nonneg Y.b0 (by omega), Y.s0, Y.s1⟩ (Int.emod_nonneg _ (by omega)) (Int.emod_lt_of_pos _ n0)⟩
      · have s0 := Y.s0
        have s1 := Y.s1
        -- hand[3] = int(hand[3] * 69621 + 7919 * hand[4]) % 2147483647
        refine ⟨_, rfl, h, _, _, _, rfl, rfl, SqL.of hO2, rfl, _, _, rfl, rfl, .inl ⟨by omega, by omega⟩, _, rfl, h, _, _, _, rfl, rfl, SqL.of hO2, rfl, _, _, rfl, rfl, .inl ⟨by decide, by decide⟩, _, _, rfl, rfl, .inl ⟨_, rfl, _, _, rfl, rfl, M31, _, rfl, h, _, _, _, rfl, rfl, hO2, rfl, ?_⟩⟩
        generalize hz : ((s' * 69621 + 7919 * c1) % 2147483647 : Int) = z
        have z0 : 0 ≤ z := by rw [← hz]; exact Int.emod_nonneg _ (by decide)
        have z1 : z < 2147483647 := by rw [← hz]; exact Int.emod_lt_of_pos _ (by decide)
        generalize hH3 : L2.upd H2 h _ = H3
        have t3 : Bt h H H3 := by rw [← hH3]; exact t2.upd
        have hO3 : H3 h = some (.lst [.ref l, .int j, .int b', .int z, .int c1]) := by rw [← hH3, ← hz]; exact upd_same
        have hn3 : H3 l = some (.lst (ns.map V.int)) := t3 _ _ nl X.n
        -- number = int(hand[3] * (hand[3] // 1009 + 69621)) % 2147483647
        refine ⟨_, rfl, h, _, _, _, rfl, rfl, SqL.of hO3, rfl, _, rfl, h, _, _, _, rfl, rfl, SqL.of hO3, rfl, _, _, rfl, rfl, wide_div (by decide) (b := 30) (by decide) (by decide) (by decide), _, _, rfl, rfl, _, _, rfl, rfl, .inl ⟨by omega, by omega⟩, .inl ⟨_, rfl, _, _, rfl, rfl, M31, ?_⟩⟩
        generalize hu : (z * (z / 1009 + 69621) % 2147483647 : Int) = u
        have u0 : 0 ≤ u := by rw [← hu]; exact Int.emod_nonneg _ (by decide)
        have u1 : u < 2147483647 := by rw [← hu]; exact Int.emod_lt_of_pos _ (by decide)
        show _
        refine ⟨.int u, (by rw [← hu]; rfl), .int u, (by rw [← hu]; rfl), _, _, rfl, rfl, wide_div (by decide) (b := 30) (by decide) (by decide) (by decide), _, _, rfl, rfl, _, _, rfl, rfl, .inl ⟨by omega, by omega⟩, .inl ⟨_, rfl, _, _, rfl, rfl, M30, ?_⟩⟩
        refine ⟨_, rfl, _, _, rfl, rfl, wide_div (by decide) (b := 30) (by decide) (by decide) (by decide), .inl ⟨_, rfl, _, rfl, _, _, rfl, rfl, n0, ?_⟩⟩
        exact k _ _ t3 ⟨ns, j, b', z, c1, hO3, hn3, Y.i0, Y.b0, z0, z1⟩ (Int.emod_nonneg _ (by omega)) (Int.emod_lt_of_pos _ n0)

end
end W2
namespace W2
open PySem PySem.Spec PyProof.Rows L2
section
variable {P : Program} {w : World} {K : PySem.W.Frag} {mg : Str → Option Value} {base : Heap} {C fI fE CB fB : Addr}
theorem ok_pick (D : Def K mg "_law_pick" s_pick ["hand", "things"]) (T : Txt K mg) (C_take : Cal P w K mg base 1 "_law_take" ["hand", "size"] spTake) : Cal P w K mg base 2 "_law_pick" ["hand", "things"] spPick := by
  refine D.cal sc_pick (fun vs H Q E h => ?_) (fun f cdv A outer s H vs Q E hr h => ?_)
  · obtain ⟨h, l, t, xs, rfl, _⟩ := h
    rfl
  · obtain ⟨h, l, t, xs, rfl, HH, ht, nth, h0, hz, k⟩ := h
    refine ⟨_, (pss_one (ps_ret (pe_ix (ix_listK (K := K) rfl) (pv 1) (pcal C_take hr (by decide) rfl (pa_cons (pv 0) (pa_cons (pe_callB (call_lenK (K := K) rfl) (by rfl) T.n_len PySem.boot_len (pa_cons (pv 1) pa_nil)) pa_nil))) (fun _ _ => rfl)))), ?_⟩
    refine ⟨_, rfl, _, rfl, _, rfl, t, _, rfl, .inl (SqL.of ht), h, l, _, rfl, HH, by omega, by omega, fun H1 r b1 hh1 r0 r1 => ?_⟩
    have hr : r.toNat < xs.length := by omega
    have hat : atI xs r = some xs[r.toNat] := at_of (by omega) (List.getElem?_eq_getElem hr)
    exact ⟨t, _, _, _, rfl, rfl, SqL.of (b1 _ _ nth ht), hat, k _ _ b1 hh1 (List.getElem_mem hr)⟩

end
end W2
namespace W2
open PySem PySem.Spec PyProof.Rows L2
section
variable {P : Program} {w : World} {K : PySem.W.Frag} {mg : Str → Option Value} {base : Heap} {C fI fE CB fB : Addr}
theorem ok_lisint (D : Def K mg "_law_is_integer" s_lisint ["thing"]) (T : Txt K mg)  (FC : ForC K mg C fI fE CB fB) : Cal P w K mg base 1 "_law_is_integer" ["thing"] (spIsInt C) := by
  refine D.cal sc_lisint (fun vs H Q E h => ?_) (fun f cdv A outer s H vs Q E hr h => ?_)
  · obtain ⟨h, x, rfl, _⟩ := h
    rfl
  · obtain ⟨h, x, rfl, a, k⟩ := h
    obtain ⟨t, ty, k1, k2⟩ := any_kit FC.own a
    refine ⟨_, (pss_one (ps_ret (pe_and (pe_callB (call_isiK1 (K := K) rfl) (by rfl) T.n_isinstance (by decide +kernel) (pa_cons (pv 0) (pa_cons (pe_bltn (v := .ty "int") (by rfl) T.n_int (by decide +kernel) rfl) pa_nil))) (pe_one (pe_not (pe_callB (call_isiK1 (K := K) rfl) (by rfl) T.n_isinstance (by decide +kernel) (pa_cons (pv 0) (pa_cons (pe_bltn (v := .ty "bool") (by rfl) T.n_bool (by decide +kernel) rfl) pa_nil)))))))), ?_⟩
    refine ⟨_, rfl, _, _, _, _, _, rfl, .ty _, ty, k1, _, rfl, iteB (fun e => ?_) (fun e => ?_)⟩
    · refine ⟨_, rfl, _, _, _, _, _, rfl, .ty _, ty, k2, _, rfl, ?_⟩
      have e2 : (!isB x) = isI x := by cases x <;> first | rfl | cases e
      rw [e2]
      exact k _ (L2.Same.refl _)
    · have e2 : isI x = false := by cases x <;> first | rfl | cases e
      have r := k _ (L2.Same.refl _)
      rw [e2] at r
      exact r

end
end W2
namespace W2
open PySem PySem.Spec PyProof.Rows L2
section
variable {P : Program} {w : World} {K : PySem.W.Frag} {mg : Str → Option Value} {base : Heap} {C fI fE CB fB : Addr}
theorem ok_within (D : Def K mg "_law_is_within" s_within ["thing", "least", "most"]) (T : Txt K mg) (C_lisint : Cal P w K mg base 1 "_law_is_integer" ["thing"] (spIsInt C)) : Cal P w K mg base 2 "_law_is_within" ["thing", "least", "most"] (spWithin C) := by
  refine D.cal sc_within (fun vs H Q E h => ?_) (fun f cdv A outer s H vs Q E hr h => ?_)
  · obtain ⟨h, a, b, x, rfl, _⟩ := h
    rfl
  · obtain ⟨h, a, b, x, rfl, an, k⟩ := h
    refine ⟨_, (pss_one (ps_ret (pe_and (pcal C_lisint hr (by decide) rfl (pa_cons (pv 0) pa_nil)) (pe_and (pe_cmpR op_le (pv 1) (pv 0) (nomark _)) (pe_one (pe_cmpR op_le (pv 0) (pv 2) (nomark _))))))), ?_⟩
    refine ⟨_, rfl, h, x, rfl, an, fun H1 s1 => ⟨_, rfl, iteB (fun e => ?_) (fun e => ?_)⟩⟩
    · obtain ⟨i, rfl⟩ := isI_of e
      have r := k _ s1
      refine ⟨_, rfl, _, rfl, _, _, rfl, rfl, _, rfl, iteB (fun e1 => ⟨_, rfl, _, rfl, _, _, rfl, rfl, ?_⟩) (fun e1 => ?_)⟩
      · have r : Q (.bl (decide (a ≤ i) && decide (i ≤ b))) H1 := r
        rw [e1, Bool.true_and] at r
        exact r
      · have r : Q (.bl (decide (a ≤ i) && decide (i ≤ b))) H1 := r
        rw [e1, Bool.false_and] at r
        exact r
    · have r := k _ s1
      have e2 : wiV a b x = false := by cases x <;> first | rfl | cases e
      rw [e2] at r
      exact r

end
end W2
namespace W2
open PySem PySem.Spec PyProof.Rows L2
section
variable {P : Program} {w : World} {K : PySem.W.Frag} {mg : Str → Option Value} {base : Heap} {C fI fE CB fB : Addr}
theorem ok_same (D : Def K mg "_law_same" s_same ["actual", "due"]) (T : Txt K mg) (C_lisint : Cal P w K mg base 1 "_law_is_integer" ["thing"] (spIsInt C)) : ∀ d : Nat, Cal P w K mg base (2 + d) "_law_same" ["actual", "due"] (spSame d) := by
  intro d
  induction d with
  | zero =>
    obtain ⟨f, fd, F, hm, b⟩ := D.ex
    exact ⟨f, fd, ⟨fun vs H Q E ⟨_, _, _, h, _⟩ => h.elim, fun A outer s H args us vs Q E _ _ _ _ ⟨_, _, _, h, _⟩ => h.elim⟩, hm, F.kp, b⟩
  | succ d C_same =>
    refine D.cal (k := 2 + d) sc_same (fun vs H Q E h => ?_) (fun f cdv A outer s H vs Q E hr h => ?_)
    · obtain ⟨x, y, rfl, _⟩ := h
      rfl
    · obtain ⟨x, y, rfl, hxy, k⟩ := h
      refine ⟨_, (pss_cons (ps_if (pt_cmpR op_isN (pv 1) pe_non (nomark _)) (pss_one (ps_ret (pe_cmpR op_isN (pv 0) pe_non (nomark _)))) pss_nil)
      (pss_cons (ps_if (pt_cmpR op_isB (pv 1) pe_bl (nomark _)) (pss_one (ps_ret (pe_cmpR op_isB (pv 0) pe_bl (nomark _)))) pss_nil)
      (pss_cons (ps_if (pt_cmpR op_isB (pv 1) pe_bl (nomark _)) (pss_one (ps_ret (pe_cmpR op_isB (pv 0) pe_bl (nomark _)))) pss_nil)
      (pss_cons (ps_if (pt_val (pe_callB (call_isiK1 (K := K) rfl) (by rfl) T.n_isinstance (by decide +kernel) (pa_cons (pv 1) (pa_cons (pe_bltn (v := .ty "int") (by rfl) T.n_int (by decide +kernel) rfl) pa_nil)))) (pss_one (ps_ret (pe_and (pcal C_lisint hr (by omega) rfl (pa_cons (pv 0) pa_nil)) (pe_one (pe_cmpR op_eq (pv 0) (pv 1) (nomark _)))))) pss_nil)
      (pss_cons (ps_if (pt_val (pe_callB (call_isiK1 (K := K) rfl) (by rfl) T.n_isinstance (by decide +kernel) (pa_cons (pv 1) (pa_cons (pe_bltn (v := .ty "str") (by rfl) T.n_str (by decide +kernel) rfl) pa_nil)))) (pss_one (ps_ret (pe_and (pe_callB (call_isiK1 (K := K) rfl) (by rfl) T.n_isinstance (by decide +kernel) (pa_cons (pv 0) (pa_cons (pe_bltn (v := .ty "str") (by rfl) T.n_str (by decide +kernel) rfl) pa_nil))) (pe_one (pe_cmpR op_eq (pv 0) (pv 1) (nomark _)))))) pss_nil)
      (pss_cons (ps_if (PW.pt (pw_or (pt_cmpR op_ne (pe_callB (call_isiK1 (K := K) rfl) (by rfl) T.n_isinstance (by decide +kernel) (pa_cons (pv 1) (pa_cons (pe_bltn (v := .ty "tuple") (by rfl) T.n_tuple (by decide +kernel) rfl) pa_nil))) (pe_callB (call_isiK1 (K := K) rfl) (by rfl) T.n_isinstance (by decide +kernel) (pa_cons (pv 0) (pa_cons (pe_bltn (v := .ty "tuple") (by rfl) T.n_tuple (by decide +kernel) rfl) pa_nil))) (nomark _)) (pw_or1 (pt_cmpR op_ne (pe_callB (call_isiK1 (K := K) rfl) (by rfl) T.n_isinstance (by decide +kernel) (pa_cons (pv 1) (pa_cons (pe_bltn (v := .ty "list") (by rfl) T.n_list (by decide +kernel) rfl) pa_nil))) (pe_callB (call_isiK1 (K := K) rfl) (by rfl) T.n_isinstance (by decide +kernel) (pa_cons (pv 0) (pa_cons (pe_bltn (v := .ty "list") (by rfl) T.n_list (by decide +kernel) rfl) pa_nil))) (nomark _))))) (pss_one (ps_ret pe_bl)) pss_nil)
      (pss_cons (ps_if (pt_cmpR op_ne (pe_callB (call_lenK (K := K) rfl) (by rfl) T.n_len PySem.boot_len (pa_cons (pv 0) pa_nil)) (pe_callB (call_lenK (K := K) rfl) (by rfl) T.n_len PySem.boot_len (pa_cons (pv 1) pa_nil)) (nomark _)) (pss_one (ps_ret pe_bl)) pss_nil)
      (pss_cons (ps_for PassesOwn.never rfl (RZ.pi_zipA (by rfl) T.n_zip (pa_cons (pv 0) (pa_cons (pv 1) pa_nil))) (pg_tup rfl (pgs_cons (pg_name (i := 2) sc_same.nd rfl (Or.inl rfl)) (pgs_cons (pg_name (i := 3) sc_same.nd rfl (Or.inl rfl)) pgs_nil))) (pss_one (ps_if (pt_not (pt_val (pcal C_same hr (by omega) rfl (pa_cons (pv 2) (pa_cons (pv 3) pa_nil))))) (pss_one (ps_ret pe_bl)) pss_nil)))
      (pss_one (ps_ret pe_bl)))))))))), ?_⟩
      rcases hxy with ⟨rfl, rfl⟩ | ⟨i, rfl, rfl⟩ | ⟨z, rfl, rfl⟩ | ⟨a, b, xs, ys, rfl, rfl, h3, h4, h5, h6⟩
      · exact ⟨_, rfl, rfl, _, rfl, iteT ⟨_, rfl, rfl, k _ (L2.Same.refl _)⟩⟩
      · refine ⟨_, rfl, rfl, _, rfl, iteF ?_⟩
        refine ⟨_, rfl, true, rfl, _, rfl, iteF ?_⟩
        refine ⟨_, rfl, false, rfl, _, rfl, iteF ?_⟩
        refine ⟨_, rfl, _, _, _, _, true, rfl, .ty _, .base (.int i), kit_ty (by decide +kernel), true, rfl, iteT ?_⟩
        refine ⟨_, rfl, 0, _, rfl, .int i, fun H1 s1 => ⟨true, rfl, iteT ⟨_, rfl, _, rfl, rfl, ?_⟩⟩⟩
        rw [decide_eq_true rfl]
        exact k _ s1
      · refine ⟨_, rfl, rfl, _, rfl, iteF ?_⟩
        refine ⟨_, rfl, true, rfl, _, rfl, iteF ?_⟩
        refine ⟨_, rfl, false, rfl, _, rfl, iteF ?_⟩
        refine ⟨_, rfl, _, _, _, _, false, rfl, .ty _, .base (.str z), kit_ty (by decide +kernel), false, rfl, iteF ?_⟩
        refine ⟨_, rfl, _, _, _, _, true, rfl, .ty _, .base (.str z), kit_ty (by decide +kernel), true, rfl, iteT ?_⟩
        refine ⟨_, rfl, _, _, _, _, true, rfl, .ty _, .base (.str z), kit_ty (by decide +kernel), true, rfl, iteT ⟨_, rfl, _, rfl, rfl, ?_⟩⟩
        rw [decide_eq_true rfl]
        exact k _ (L2.Same.refl _)
      · refine ⟨_, rfl, rfl, _, rfl, iteF ?_⟩
        refine ⟨_, rfl, true, rfl, _, rfl, iteF ?_⟩
        refine ⟨_, rfl, false, rfl, _, rfl, iteF ?_⟩
        refine ⟨_, rfl, _, _, _, _, false, rfl, .ty _, .base (.tup h4), kit_ty (by decide +kernel), false, rfl, iteF ?_⟩
        refine ⟨_, rfl, _, _, _, _, false, rfl, .ty _, .base (.tup h4), kit_ty (by decide +kernel), false, rfl, iteF ?_⟩
        refine ⟨_, rfl, _, _, _, _, true, rfl, .ty _, .base (.tup h4), kit_ty (by decide +kernel), _, rfl, _, _, _, _, true, rfl, .ty _, .base (.tup h3), kit_ty (by decide +kernel), rfl, _, rfl, iteF ?_⟩
        refine ⟨_, rfl, _, _, _, _, false, rfl, .ty _, .base (.tup h4), kit_ty (by decide +kernel), _, rfl, _, _, _, _, false, rfl, .ty _, .base (.tup h3), kit_ty (by decide +kernel), rfl, _, rfl, iteF ?_⟩
        refine ⟨_, rfl, a, _, rfl, .inr (SqT.of h3), _, rfl, b, _, rfl, .inr (SqT.of h4), rfl, _, rfl, ?_⟩
        rw [h5, decide_eq_true rfl]
        refine iteF ?_
        refine ⟨_, rfl, _, rfl, a, b, xs, ys, rfl, .inr ⟨SqT.of h3, SqT.of h4, RZ.for_zipT h5 (fun i σ H' => ∃ v2 v3 : Option V, σ = [some (.ref a), some (.ref b), v2, v3] ∧ L2.Same H H') ⟨none, none, rfl, L2.Same.refl _⟩ (fun i σ H' ⟨_, _, _, sm⟩ => ⟨SqT.of (sm _ _ h3), SqT.of (sm _ _ h4)⟩) ?_ ?_⟩⟩
        · rintro i x y t σ H' hx hy ⟨v2, v3, rfl, sm⟩ ht
          have s1 := sm.trans (same_upd (o := .tup [x, y]) ht)
          refine ⟨t, [x, y], rfl, SqT.of upd_same, rfl, x, [y], rfl, y, [], rfl, rfl, ?_⟩
          refine ⟨_, rfl, _, rfl, x, y, rfl, (h6 i x y hx hy).same s1, fun H5 s5 => ⟨true, rfl, iteF ⟨_, _, rfl, s1.trans s5⟩⟩⟩
        · rintro σ H' ⟨v2, v3, rfl, sm⟩
          exact k _ sm

end
end W2
namespace W2
open PySem PySem.Spec PyProof.Rows L2
section
variable {P : Program} {w : World} {K : PySem.W.Frag} {mg : Str → Option Value} {base : Heap} {C fI fE CB fB : Addr}
theorem ok_odd (D : Def K mg "_law_odd" s_odd ["hand"]) (T : Txt K mg) (C_take : Cal P w K mg base 1 "_law_take" ["hand", "size"] spTake) : Cal P w K mg base 2 "_law_odd" ["hand"] (spOdd C) := by
  refine D.cal sc_odd (fun vs H Q E h => ?_) (fun f cdv A outer s H vs Q E hr h => ?_)
  · obtain ⟨h, l, rfl, _⟩ := h
    rfl
  · obtain ⟨h, l, rfl, HH, k⟩ := h
    refine ⟨_, (pss_cons (ps_set (i := 1) sc_odd.nd rfl (Or.inl rfl) (pcal C_take hr (by decide) rfl (pa_cons (pv 0) (pa_cons pe_int pa_nil))))
      (pss_cons (ps_if (pt_cmpR op_lt (pv 1) pe_int (nomark _)) (pss_one (ps_ret (pe_ix (ix_listK (K := K) rfl) (pe_lst (pa_cons pe_non (pa_cons pe_bl (pa_cons pe_bl (pa_cons pe_str (pa_cons pe_str (pa_cons pe_str pa_nil))))))) (pv 1) (fun _ _ => rfl)))) pss_nil)
      (pss_cons (ps_if (pt_cmpR op_lt (pv 1) pe_int (nomark _)) (pss_one (ps_ret (pe_ix (ix_listK (K := K) rfl) (pe_lst (pa_cons (pe_tup pa_nil) (pa_cons (pe_lst pa_nil) (pa_cons (pe_dnewK) (pa_cons (pe_tup (pa_cons pe_int pa_nil)) (pa_cons (pe_lst (pa_cons pe_int (pa_cons pe_int pa_nil))) (pa_cons (pe_tup (pa_cons (pe_tup pa_nil) pa_nil)) pa_nil))))))) (pe_op op_sub (pv 1) pe_int) (fun _ _ => rfl)))) pss_nil)
      (pss_one (ps_ret (pe_ix (ix_listK (K := K) rfl) (pe_lst (pa_cons (pe_un un_neg pe_int) (pa_cons pe_int (pa_cons (pe_op op_sub (pe_op op_pow pe_int pe_int) pe_int) (pa_cons (pe_tup (pa_cons pe_int (pa_cons pe_int pa_nil))) (pa_cons (pe_tup (pa_cons pe_str pa_nil)) (pa_cons (pe_tup (pa_cons pe_str (pa_cons pe_int pa_nil))) pa_nil))))))) (pe_op op_sub (pv 1) pe_int) (fun _ _ => rfl))))))), ?_⟩
    refine ⟨_, rfl, h, l, 18, rfl, HH, by decide, by decide, fun H1 r b1 hh1 r0 r1 => ?_⟩
    obtain ⟨lh, eh⟩ := hh1.lst
    have end_ : ∀ H2, Same H1 H2 → ∀ x, Thing C h H2 x → Q x H2 := fun H2 s2 x t => k H2 x (b1.trans (Bt.of s2)) (hh1.same s2) t
    refine ⟨_, rfl, _, _, rfl, rfl, _, rfl, iteB (fun e1 => ?_) (fun e1 => ?_)⟩
    · have e2 := of_decide_eq_true e1
      refine ⟨small (by show 6 ≤ 100000; decide), fun t ht => ?_⟩
      refine ⟨_, rfl, rIxL_any upd_same r0 e2 (fun v hv => end_ _ (same_upd ht) _ ?_)⟩
      simp only [List.mem_cons, List.not_mem_nil, or_false] at hv
      rcases hv with rfl | rfl | rfl | rfl | rfl | rfl
      · exact .flat .non (fun b z => nomatch z)
      · exact .flat (.bl _) (fun b z => nomatch z)
      · exact .flat (.bl _) (fun b z => nomatch z)
      · exact .flat (.str _) (fun b z => nomatch z)
      · exact .flat (.str _) (fun b z => nomatch z)
      · exact .flat (.str _) (fun b z => nomatch z)
    have e2 := of_decide_eq_false e1
    refine ⟨_, rfl, _, _, rfl, rfl, _, rfl, iteB (fun e3 => ?_) (fun e3 => ?_)⟩
    · have e4 := of_decide_eq_true e3
      refine ⟨small (by show 0 ≤ 100000; decide), fun t1 h1 => ?_⟩
      have z1 := same_upd (o := .tup []) h1
      refine ⟨small (by show 0 ≤ 100000; decide), fun t2 h2 => ?_⟩
      have z2 := same_upd (o := .lst []) h2
      have n2 := (ne_of_none (z1 _ _ eh) h2).symm
      refine fun t3 h3 => ?_
      have z3 := same_upd (o := .dK []) h3
      have n3 := (ne_of_none ((z1.trans z2) _ _ eh) h3).symm
      refine ⟨small (by show 1 ≤ 100000; decide), fun t4 h4 => ?_⟩
      have z4 := same_upd (o := .tup [V.int 0]) h4
      refine ⟨small (by show 2 ≤ 100000; decide), fun t5 h5 => ?_⟩
      have z5 := same_upd (o := .lst [V.int 0, V.int 0]) h5
      have n5 := (ne_of_none ((((z1.trans z2).trans z3).trans z4) _ _ eh) h5).symm
      refine ⟨small (by show 0 ≤ 100000; decide), fun t6 h6 => ?_⟩
      have z6 := same_upd (o := .tup []) h6
      refine ⟨small (by show 1 ≤ 100000; decide), fun t7 h7 => ?_⟩
      have z7 := same_upd (o := .tup [V.ref t6]) h7
      refine ⟨small (by show 6 ≤ 100000; decide), fun t8 h8 => ?_⟩
      have z8 := same_upd (o := .lst [V.ref t1, V.ref t2, V.ref t3, V.ref t4, V.ref t5, V.ref t7]) h8
      have y7 := z7.trans z8
      have y6 := z6.trans y7
      have y5 := z5.trans y6
      have y4 := z4.trans y5
      have y3 := z3.trans y4
      have y2 := z2.trans y3
      have y1 := z1.trans y2
      refine ⟨_, rfl, _, _, rfl, rfl, rIxL_any upd_same (by show 0 ≤ r - 6; omega) (by show r - 6 < 6; omega) (fun v hv => end_ _ y1 _ ?_)⟩
      simp only [List.mem_cons, List.not_mem_nil, or_false] at hv
      rcases hv with rfl | rfl | rfl | rfl | rfl | rfl
      · exact .tup (y2 _ _ upd_same) (fun y hy => nomatch hy)
      · exact .lst n2 (y3 _ _ upd_same)
      · exact .dic n3 (y4 _ _ upd_same)
      · refine .tup (y5 _ _ upd_same) (fun y hy => ?_)
        simp only [List.mem_cons, List.not_mem_nil, or_false] at hy
        subst hy
        exact .int _
      · exact .lst n5 (y6 _ _ upd_same)
      · refine .tup (z8 _ _ upd_same) (fun y hy => ?_)
        simp only [List.mem_cons, List.not_mem_nil, or_false] at hy
        subst hy
        exact .tup (y7 _ _ upd_same)
    · have e4 := of_decide_eq_false e3
      refine ⟨1, rfl, 10, 20, rfl, rfl, ⟨by decide, by decide, by decide⟩, _, _, rfl, rfl, ?_⟩
      refine ⟨small (by show 2 ≤ 100000; decide), fun t1 h1 => ?_⟩
      have z1 := same_upd (o := .tup [V.int 0, V.int 1]) h1
      refine ⟨small (by show 1 ≤ 100000; decide), fun t2 h2 => ?_⟩
      have z2 := same_upd (o := .tup [V.str "turn"]) h2
      refine ⟨small (by show 2 ≤ 100000; decide), fun t3 h3 => ?_⟩
      have z3 := same_upd (o := .tup [V.str "root", V.int 99]) h3
      refine ⟨small (by show 6 ≤ 100000; decide), fun t8 h8 => ?_⟩
      have z8 := same_upd (o := .lst [V.int (-1), V.int 64, V.int (10 ^ Int.toNat 20 - 1), V.ref t1, V.ref t2, V.ref t3]) h8
      have y3 := z3.trans z8
      have y2 := z2.trans y3
      have y1 := z1.trans y2
      refine ⟨_, rfl, _, _, rfl, rfl, rIxL_any upd_same (by show 0 ≤ r - 12; omega) (by show r - 12 < 6; omega) (fun v hv => end_ _ y1 _ ?_)⟩
      simp only [List.mem_cons, List.not_mem_nil, or_false] at hv
      rcases hv with rfl | rfl | rfl | rfl | rfl | rfl
      · exact .flat (.int _) (fun b z => nomatch z)
      · exact .flat (.int _) (fun b z => nomatch z)
      · exact .flat (.int _) (fun b z => nomatch z)
      · refine .tup (y2 _ _ upd_same) (fun y hy => ?_)
        simp only [List.mem_cons, List.not_mem_nil, or_false] at hy
        rcases hy with rfl | rfl
        · exact .int _
        · exact .int _
      · refine .tup (y3 _ _ upd_same) (fun y hy => ?_)
        simp only [List.mem_cons, List.not_mem_nil, or_false] at hy
        subst hy
        exact .str _
      · refine .tup (z8 _ _ upd_same) (fun y hy => ?_)
        simp only [List.mem_cons, List.not_mem_nil, or_false] at hy
        rcases hy with rfl | rfl
        · exact .str _
        · exact .int _

end
end W2
namespace W2
open PySem PySem.Spec PyProof.Rows L2
section
variable {P : Program} {w : World} {K : PySem.W.Frag} {mg : Str → Option Value} {base : Heap} {C fI fE CB fB : Addr}
theorem ok_value (D : Def K mg "_law_value" s_value ["hand"]) (T : Txt K mg) (C_pick : Cal P w K mg base 2 "_law_pick" ["hand", "things"] spPick) (C_take : Cal P w K mg base 1 "_law_take" ["hand", "size"] spTake) : Cal P w K mg base 3 "_law_value" ["hand"] spValue := by
  refine D.cal sc_value (fun vs H Q E h => ?_) (fun f cdv A outer s H vs Q E hr h => ?_)
  · obtain ⟨h, l, rfl, _⟩ := h
    rfl
  · obtain ⟨h, l, rfl, HH, k⟩ := h
    refine ⟨_, (pss_one (ps_ret (pcal C_pick hr (by decide) rfl (pa_cons (pv 0) (pa_cons (pe_lst (pa_cons pe_int (pa_cons pe_int (pa_cons (pe_un un_neg pe_int) (pa_cons pe_int (pa_cons pe_int (pa_cons (pe_op op_pow pe_int pe_int) (pa_cons (pe_op op_sub (pcal C_take hr (by decide) rfl (pa_cons (pv 0) (pa_cons pe_int pa_nil))) pe_int) (pa_cons (pe_op op_sub (pcal C_take hr (by decide) rfl (pa_cons (pv 0) (pa_cons pe_int pa_nil))) pe_int) (pa_cons (pcal C_take hr (by decide) rfl (pa_cons (pv 0) (pa_cons (pe_op op_pow pe_int pe_int) pa_nil))) pa_nil)))))))))) pa_nil))))), ?_⟩
    refine ⟨_, rfl, 1, rfl, 10, 19, rfl, rfl, ⟨by decide, by decide, by decide⟩, ?_⟩
    refine ⟨_, rfl, h, l, 20, rfl, HH, by decide, by decide, fun H1 r1 b1 hh1 _ _ => ⟨_, _, rfl, rfl, ?_⟩⟩
    refine ⟨_, rfl, h, l, 20, rfl, hh1, by decide, by decide, fun H2 r2 b2 hh2 _ _ => ⟨_, _, rfl, rfl, ?_⟩⟩
    refine ⟨_, rfl, 10, 6, rfl, rfl, ⟨by decide, by decide, by decide⟩, h, l, _, rfl, hh2, by decide, by decide, fun H3 r3 b3 hh3 _ _ => ?_⟩
    refine ⟨small (by show 9 ≤ 100000; decide), fun t ht => ?_⟩
    obtain ⟨lh, eh⟩ := hh3.lst
    have nth : t ≠ h := (ne_of_none eh ht).symm
    refine ⟨h, l, t, _, rfl, hh3.upd ht, upd_same, nth, by simp, by simp, fun H4 x b4 hh4 hx => ?_⟩
    have b : Bt h H H4 := ((b1.trans b2).trans b3).trans ((Bt.of (same_upd ht)).trans b4)
    simp only [List.mem_cons, List.not_mem_nil, or_false] at hx
    rcases hx with rfl | rfl | rfl | rfl | rfl | rfl | rfl | rfl | rfl
    all_goals exact k _ _ b hh4

end
end W2
namespace W2
open PySem PySem.Spec PyProof.Rows L2
section
variable {P : Program} {w : World} {K : PySem.W.Frag} {mg : Str → Option Value} {base : Heap} {C fI fE CB fB : Addr}
theorem ok_parents (D : Def K mg "_law_parents" s_parents ["hand", "size"]) (T : Txt K mg) (C_take : Cal P w K mg base 1 "_law_take" ["hand", "size"] spTake) : Cal P w K mg base 2 "_law_parents" ["hand", "size"] spParents := by
  refine D.cal sc_parents (fun vs H Q E h => ?_) (fun f cdv A outer s H vs Q E hr h => ?_)
  · obtain ⟨h, l, n, rfl, _⟩ := h
    rfl
  · obtain ⟨h, l, n, rfl, HH, n1, n64, k⟩ := h
    refine ⟨_, (pss_cons (ps_set (i := 2) sc_parents.nd rfl (Or.inl rfl) (pe_listRg rfl (by rfl) T.n_list (prg_1 (by rfl) T.n_range (pv 1))))
      (pss_cons (ps_for PassesOwn.never rfl (pi_range1 rfl T.n_range (pa_cons (pv 1) pa_nil)) (pg_name (i := 3) sc_parents.nd rfl (Or.inl rfl)) (pss_cons (ps_set (i := 4) sc_parents.nd rfl (Or.inl rfl) (pe_op op_add (pv 3) (pcal C_take hr (by decide) rfl (pa_cons (pv 0) (pa_cons (pe_op op_sub (pv 1) (pv 3)) pa_nil)))))
      (pss_one (ps_asg (pe_tup (pa_cons (pe_ix (ix_listK (K := K) rfl) (pv 2) (pv 4) (fun _ _ => rfl)) (pa_cons (pe_ix (ix_listK (K := K) rfl) (pv 2) (pv 3) (fun _ _ => rfl)) pa_nil))) (pg_tup rfl (pgs_cons (pg_sub (pv 2) (pv 3) set_list) (pgs_cons (pg_sub (pv 2) (pv 4) set_list) pgs_nil)))))))
      (pss_cons (ps_set (i := 5) sc_parents.nd rfl (Or.inl rfl) (pe_op op_rep (pe_lst (pa_cons pe_non pa_nil)) (pv 1)))
      (pss_cons (ps_set (i := 6) sc_parents.nd rfl (Or.inl rfl) (pcal C_take hr (by decide) rfl (pa_cons (pv 0) (pa_cons pe_int pa_nil))))
      (pss_cons (ps_for PassesOwn.never rfl (pi_range2 rfl T.n_range (pa_cons pe_int (pa_cons (pv 1) pa_nil))) (pg_name (i := 3) sc_parents.nd rfl (Or.inl rfl)) (C8.pss_cut (ps_if (pt_cmpR op_eq (pv 6) pe_int (nomark _)) (pss_one (ps_asg (pe_ix (ix_listK (K := K) rfl) (pv 2) (pe_op op_sub (pv 3) pe_int) (fun _ _ => rfl)) (pg_sub (pv 5) (pe_ix (ix_listK (K := K) rfl) (pv 2) (pv 3) (fun _ _ => rfl)) set_list))) (pss_one (ps_if (pt_cmpR op_eq (pv 6) pe_int (nomark _)) (pss_one (ps_asg (pe_ix (ix_listK (K := K) rfl) (pv 2) (pe_callB (call_max2 rfl) (by rfl) T.n_max (by decide +kernel) (pa_cons pe_int (pa_cons (pe_op op_sub (pe_op op_sub (pv 3) pe_int) (pcal C_take hr (by decide) rfl (pa_cons (pv 0) (pa_cons pe_int pa_nil)))) pa_nil))) (fun _ _ => rfl)) (pg_sub (pv 5) (pe_ix (ix_listK (K := K) rfl) (pv 2) (pv 3) (fun _ _ => rfl)) set_list))) (pss_one (ps_if (PW.pt (pw_or (pt_cmpR op_gt (pv 6) pe_int (nomark _)) (pw_or1 (pt_cmpR op_gt (pcal C_take hr (by decide) rfl (pa_cons (pv 0) (pa_cons pe_int pa_nil))) pe_int (nomark _))))) (pss_one (ps_asg (pe_ix (ix_listK (K := K) rfl) (pv 2) (pcal C_take hr (by decide) rfl (pa_cons (pv 0) (pa_cons (pv 3) pa_nil))) (fun _ _ => rfl)) (pg_sub (pv 5) (pe_ix (ix_listK (K := K) rfl) (pv 2) (pv 3) (fun _ _ => rfl)) set_list))) pss_nil)))))
      (pss_one (ps_if (PW.pt (pw_and (pt_cmpR op_eq (pv 6) pe_int (nomark _)) (pw_and1 (pt_cmpR op_eq (pcal C_take hr (by decide) rfl (pa_cons (pv 0) (pa_cons pe_int pa_nil))) pe_int (nomark _))))) (pss_one (ps_asg pe_non (pg_sub (pv 5) (pe_ix (ix_listK (K := K) rfl) (pv 2) (pv 3) (fun _ _ => rfl)) set_list))) pss_nil))))
      (pss_one (ps_ret (pv 5)))))))), ?_⟩
    obtain ⟨lh, eh⟩ := HH.lst
    -- order = list(range(size))
    refine ⟨_, rfl, _, rfl, RgOk.of_le (by decide) (by omega) (by decide) (by omega), fun o ho => ?_⟩
    rw [rgV_nv]
    have noh : o ≠ h := (ne_of_none eh ho).symm
    obtain ⟨lr, er⟩ := HH.row
    have nol : o ≠ l := (ne_of_none er ho).symm
    -- the shuffle
    refine ⟨_, rfl, _, rfl, by omega, by omega, ?_⟩
    rw [Int.toNat_natCast]
    refine for_range (lo := 0) (n := n) (fun i σ H' => ∃ (v3 v4 : Option V) (od : List Nat), σ = [some (.ref h), some (nv n), some (.ref o), v3, v4, none, none] ∧ Bt h H H' ∧ Hand H' h l ∧ H' o = some (.lst (od.map nv)) ∧ od.Perm (List.range n))
      ⟨none, none, List.range n, rfl, (Bt.refl h H).new ho, HH.upd ho, upd_same, .refl _⟩ ?_ ?_
    · rintro i σ H2 hi ⟨v3, v4, od, rfl, b2, hh2, ho2, pm⟩
      rw [Int.zero_add]
      have lod : od.length = n := by rw [pm.length_eq, List.length_range]
      refine ⟨_, rfl, _, rfl, _, rfl, _, rfl, _, _, rfl, rfl, h, l, _, rfl, hh2, by omega, by omega, fun H3 r b3 hh3 r0 r1 => ⟨_, _, rfl, rfl, ?_⟩⟩
      have ho3 := b3 _ _ noh ho2
      obtain ⟨j, ej, hj⟩ : ∃ j : Nat, (i : Int) + r = (j : Int) ∧ j < n := ⟨((i : Int) + r).toNat, by omega, by omega⟩
      have hi2 : i < od.length := by omega
      have hj2 : j < od.length := by omega
      have gi : (od.map nv)[i]? = some (nv od[i]) := by rw [List.getElem?_map, List.getElem?_eq_getElem hi2]; rfl
      have gj : (od.map nv)[j]? = some (nv od[j]) := by rw [List.getElem?_map, List.getElem?_eq_getElem hj2]; rfl
      refine ⟨_, rfl, _, rfl, o, _, _, _, rfl, rfl, SqL.of ho3, at_of ej gj, _, rfl, _, rfl, o, _, _, _, rfl, rfl, SqL.of ho3, atI_nat gi, small (by show 2 ≤ 100000; decide), fun t ht => ?_⟩
      have not : o ≠ t := ne_of_none ho3 ht
      obtain ⟨lh3, eh3⟩ := hh3.lst
      have nht : h ≠ t := ne_of_none eh3 ht
      have ho4 : (L2.upd H3 t (.tup [nv od[j], nv od[i]])) o = some (.lst (od.map nv)) := by rw [upd_ne not]; exact ho3
      have hij : ixN ((od.map nv).set i (nv od[j])).length ((i : Int) + r) = some j := by
        rw [ej, List.length_set, List.length_map]
        exact ixN_nat hj2
      refine ⟨t, _, rfl, SqT.of upd_same, rfl, _, _, rfl, _, rfl, _, rfl, o, _, _, i, rfl, rfl, ho4, ixN_nat (by rw [List.length_map]; exact hi2), _, _, rfl, _, rfl, _, rfl, o, _, _, j, rfl, rfl, upd_same, hij, rfl, ?_⟩
      refine ⟨_, _, (od.set i od[j]).set j od[i], rfl, fun c u nc e => ?_, ?_, ?_, ?_⟩
      · have e3 := b3 _ _ nc (b2 _ _ nc e)
        have nco : c ≠ o := ne_of_none e ho
        rw [upd_ne nco, upd_ne nco, upd_ne (ne_of_none e3 ht)]
        exact e3
      · exact ((hh3.upd ht).set noh nol).set noh nol
      · rw [upd_same, List.map_set, List.map_set]
      · exact (List.set_set_perm hi2 hj2).trans pm
    rintro σ H2 ⟨v3, v4, od, rfl, b2, hh2, ho2, pm⟩
    have lod : od.length = n := by rw [pm.length_eq, List.length_range]
    have ndo : od.Nodup := pm.nodup_iff.mpr List.nodup_range
    -- found = [None] * size
    refine ⟨small (by show 1 ≤ 100000; decide), fun z hz => ⟨_, rfl, z, _, _, rfl, rfl, upd_same, by omega, by omega, ?_, fun fd hfd => ?_⟩⟩
    · show 1 * (n : Int).toNat ≤ sizeLine
      rw [Int.toNat_natCast, Nat.one_mul]
      exact small (by omega)
    rw [Int.toNat_natCast, flat_rep]
    have b3 : Bt h H (L2.upd (L2.upd H2 z (.lst [V.non])) fd (.lst ((List.replicate n (none : Option Nat)).map ov))) := (b2.new hz).new hfd
    have hh3 : Hand (L2.upd (L2.upd H2 z (.lst [V.non])) fd (.lst ((List.replicate n (none : Option Nat)).map ov))) h l := (hh2.upd hz).upd hfd
    have noz : o ≠ z := ne_of_none ho2 hz
    have ho3a : (L2.upd H2 z (.lst [V.non])) o = some (.lst (od.map nv)) := by rw [upd_ne noz]; exact ho2
    have nof : o ≠ fd := ne_of_none ho3a hfd
    have ho3 : (L2.upd (L2.upd H2 z (.lst [V.non])) fd (.lst ((List.replicate n (none : Option Nat)).map ov))) o = some (.lst (od.map nv)) := by rw [upd_ne nof]; exact ho3a
    have hf3 : (L2.upd (L2.upd H2 z (.lst [V.non])) fd (.lst ((List.replicate n (none : Option Nat)).map ov))) fd = some (.lst ((List.replicate n (none : Option Nat)).map ov)) := upd_same
    have nfh : fd ≠ h := by
      obtain ⟨l2, e2⟩ := (hh2.upd (o := .lst [V.non]) hz).lst
      exact (ne_of_none e2 hfd).symm
    have nfl : fd ≠ l := by
      obtain ⟨l2, e2⟩ := (hh2.upd (o := .lst [V.non]) hz).row
      exact (ne_of_none e2 hfd).symm
    have hfn : H fd = none := (b2.new (o := .lst [V.non]) hz).free nfh hfd
    generalize L2.upd (L2.upd H2 z (.lst [V.non])) fd (.lst ((List.replicate n (none : Option Nat)).map ov)) = H3 at b3 hh3 ho3 hf3
    -- shape = take(hand, 5)
    refine ⟨_, rfl, h, l, _, rfl, hh3, by decide, by decide, fun H4 shape b4 hh4 sh0 sh1 => ?_⟩
    have ho4 := b4 _ _ noh ho3
    have hf4 := b4 _ _ nfh hf3
    refine ⟨_, rfl, 1, _, rfl, ⟨by omega, by omega, by omega, by omega⟩, ?_⟩
    rw [show ((n : Int) - 1).toNat = n - 1 by omega]
    refine for_range (lo := 1) (n := n - 1) (fun i σ H' => ∃ (v3 : Option V) (ps : List (Option Nat)), σ = [some (.ref h), some (nv n), some (.ref o), v3, v4, some (.ref fd), some (.int shape)] ∧ Bt h H H' ∧ Hand H' h l ∧ H' o = some (.lst (od.map nv)) ∧ H' fd = some (.lst (ps.map ov)) ∧ ps.length = n ∧ Par od ps)
      ⟨v3, List.replicate n none, rfl, b3.trans b4, hh4, ho4, hf4, List.length_replicate, fun k g hg => .inl ?_⟩ ?_ ?_
    · have : g < n := List.mem_range.mp (pm.mem_iff.mp (List.mem_of_getElem? hg))
      rw [List.getElem?_replicate, if_pos this]
    · rintro i σ H5 hi ⟨v3, ps, rfl, b5, hh5, ho5, hf5, lps, par⟩
      have ek : ((1 : Int) + (i : Int)) = ((i + 1 : Nat) : Int) := by omega
      rw [ek]
      have hk : i + 1 < od.length := by omega
      have gk : od[i + 1]? = some od[i + 1] := List.getElem?_eq_getElem hk
      generalize od[i + 1] = g at gk
      have gl : g < ps.length := by
        rw [lps]
        exact List.mem_range.mp (pm.mem_iff.mp (List.mem_of_getElem? gk))
      have gkm : (od.map nv)[i + 1]? = some (nv g) := by rw [List.getElem?_map, gk]; rfl
      -- what a store at found[order[k]] leaves
      have put : ∀ (H6 : Hp) (ps : List (Option Nat)) (v : Option Nat) (Q6 : L2.St → Hp → Prop), ps.length = n → Par od ps → (v = none ∨ ∃ (j p : Nat), j < i + 1 ∧ od[j]? = some p ∧ v = some p) → Bt h H H6 → Hand H6 h l → H6 o = some (.lst (od.map nv)) → H6 fd = some (.lst (ps.map ov)) →
          (∀ H7 ps', Bt h H H7 → Hand H7 h l → H7 o = some (.lst (od.map nv)) → H7 fd = some (.lst (List.map ov ps')) → ps'.length = n → Par od ps' → Q6 [some (.ref h), some (nv n), some (.ref o), some (nv (i + 1)), v4, some (.ref fd), some (.int shape)] H7) →
          gSub (tVar 5) (tOp (rIxL K) (tVar 2) (tVar 3)) rSetL (ov v) [some (.ref h), some (nv n), some (.ref o), some (nv (i + 1)), v4, some (.ref fd), some (.int shape)] H6 Q6 := by
        intro H6 ps v Q6 lps par hv b6 hh6 ho6 hf6 kk
        refine ⟨_, rfl, _, rfl, _, rfl, o, _, _, _, rfl, rfl, SqL.of ho6, atI_nat gkm, fd, _, _, g, rfl, rfl, hf6, ixN_nat (by rw [List.length_map, lps, ← lod]; rw [lod]; have : g < n := List.mem_range.mp (pm.mem_iff.mp (List.mem_of_getElem? gk)); exact this), ?_⟩
        have glt : g < ps.length := by rw [lps]; exact List.mem_range.mp (pm.mem_iff.mp (List.mem_of_getElem? gk))
        refine kk _ (ps.set g v) (fun c u nc e => ?_) (hh6.set nfh nfl) (by rw [upd_ne nof]; exact ho6) (by rw [upd_same, List.map_set]) (by rw [List.length_set]; exact lps) (par_set par ndo gk glt hv)
        rw [upd_ne (ne_of_none e hfn)]
        exact b6 _ _ nc e
      -- the item of the order at a place ahead
      have itm : ∀ (j : Nat), j < i + 1 → ∃ p, od[j]? = some p ∧ (od.map nv)[j]? = some (ov (some p)) := fun j hj => by
        have hj2 : j < od.length := by omega
        exact ⟨od[j], List.getElem?_eq_getElem hj2, by rw [List.getElem?_map, List.getElem?_eq_getElem hj2]; rfl⟩
      refine ⟨fun σ H' => ∃ (ps : List (Option Nat)), σ = [some (.ref h), some (nv n), some (.ref o), some (nv (i + 1)), v4, some (.ref fd), some (.int shape)] ∧ Bt h H H' ∧ Hand H' h l ∧ H' o = some (.lst (od.map nv)) ∧ H' fd = some (.lst (ps.map ov)) ∧ ps.length = n ∧ Par od ps, ?_, ?_⟩
      · refine ⟨_, rfl, rfl, _, rfl, iteB (fun _ => ?_) (fun _ => ?_)⟩
        · obtain ⟨p, ep, hp⟩ := itm i (by omega)
          exact ⟨_, rfl, _, rfl, _, _, rfl, rfl, o, _, _, _, rfl, rfl, SqL.of ho5, at_of (j := i) (by omega) hp, put H5 ps (some p) _ lps par (.inr ⟨i, p, by omega, ep, rfl⟩) b5 hh5 ho5 hf5 fun H7 ps' a1 a2 a3 a4 a5 a6 => ⟨ps', rfl, a1, a2, a3, a4, a5, a6⟩⟩
        · refine ⟨_, rfl, rfl, _, rfl, iteB (fun _ => ?_) (fun _ => ?_)⟩
          · refine ⟨_, rfl, _, rfl, _, _, rfl, rfl, _, rfl, h, l, _, rfl, hh5, by decide, by decide, fun H6 r b6 hh6 r0 r1 => ⟨_, _, rfl, rfl, _, _, rfl, ?_⟩⟩
            have ho6 := b6 _ _ noh ho5
            have hf6 := b6 _ _ nfh hf5
            obtain ⟨j, ej, hj⟩ : ∃ j : Nat, (if ((i + 1 : Nat) : Int) - 1 - r > 0 then ((i + 1 : Nat) : Int) - 1 - r else 0) = (j : Int) ∧ j < i + 1 := by
              by_cases c : ((i + 1 : Nat) : Int) - 1 - r > 0
              · rw [if_pos c]
                exact ⟨(((i + 1 : Nat) : Int) - 1 - r).toNat, by omega, by omega⟩
              · rw [if_neg c]
                exact ⟨0, rfl, by omega⟩
            obtain ⟨p, ep, hp⟩ := itm j hj
            exact ⟨o, _, _, _, rfl, rfl, SqL.of ho6, at_of ej hp, put H6 ps (some p) _ lps par (.inr ⟨j, p, hj, ep, rfl⟩) (b5.trans b6) hh6 ho6 hf6 fun H7 ps' a1 a2 a3 a4 a5 a6 => ⟨ps', rfl, a1, a2, a3, a4, a5, a6⟩⟩
          · have last : ∀ H6, Bt h H H6 → Hand H6 h l → H6 o = some (.lst (od.map nv)) → H6 fd = some (.lst (ps.map ov)) → tAsg (tOp (rIxL K) (tVar 2) (tCall spTake [] E0 (tCons (tVar 0) (tCons (tVar 3) tNil)))) (gSub (tVar 5) (tOp (rIxL K) (tVar 2) (tVar 3)) rSetL)
                { nx := fun σ H' => ∃ (ps : List (Option Nat)), σ = [some (.ref h), some (nv n), some (.ref o), some (nv (i + 1)), v4, some (.ref fd), some (.int shape)] ∧ Bt h H H' ∧ Hand H' h l ∧ H' o = some (.lst (od.map nv)) ∧ H' fd = some (.lst (ps.map ov)) ∧ ps.length = n ∧ Par od ps, rt := fun _ _ => False } [some (.ref h), some (nv n), some (.ref o), some (nv (i + 1)), v4, some (.ref fd), some (.int shape)] H6 := by
              intro H6 b6 hh6 ho6 hf6
              refine ⟨_, rfl, _, rfl, _, rfl, h, l, _, rfl, hh6, by omega, by omega, fun H7 r b7 hh7 r0 r1 => ?_⟩
              have ho7 := b7 _ _ noh ho6
              have hf7 := b7 _ _ nfh hf6
              obtain ⟨p, ep, hp⟩ := itm r.toNat (by omega)
              exact ⟨o, _, _, _, rfl, rfl, SqL.of ho7, at_of (j := r.toNat) (by omega) hp, put H7 ps (some p) _ lps par (.inr ⟨r.toNat, p, by omega, ep, rfl⟩) (b6.trans b7) hh7 ho7 hf7 fun H7 ps' a1 a2 a3 a4 a5 a6 => ⟨ps', rfl, a1, a2, a3, a4, a5, a6⟩⟩
            refine ⟨_, rfl, _, _, rfl, rfl, _, rfl, iteB (fun _ => ?_) (fun _ => ?_)⟩
            · exact iteT (last H5 b5 hh5 ho5 hf5)
            · refine ⟨_, rfl, h, l, _, rfl, hh5, by decide, by decide, fun H6 r b6 hh6 r0 r1 => ⟨_, _, rfl, rfl, _, rfl, iteB (fun _ => ?_) (fun _ => ?_)⟩⟩
              · exact last H6 (b5.trans b6) hh6 (b6 _ _ noh ho5) (b6 _ _ nfh hf5)
              · exact ⟨ps, rfl, b5.trans b6, hh6, b6 _ _ noh ho5, b6 _ _ nfh hf5, lps, par⟩
      · rintro σ H6 ⟨ps, rfl, b6, hh6, ho6, hf6, lps, par⟩
        refine ⟨_, rfl, rfl, _, rfl, iteB (fun _ => ?_) (fun _ => ?_)⟩
        · refine ⟨_, rfl, h, l, _, rfl, hh6, by decide, by decide, fun H7 r b7 hh7 r0 r1 => ⟨rfl, _, rfl, iteB (fun _ => ?_) (fun _ => ?_)⟩⟩
          · exact put H7 ps none _ lps par (.inl rfl) (b6.trans b7) hh7 (b7 _ _ noh ho6) (b7 _ _ nfh hf6) fun H7 ps' a1 a2 a3 a4 a5 a6 => ⟨_, ps', rfl, a1, a2, a3, a4, a5, a6⟩
          · exact ⟨_, ps, rfl, b6.trans b7, hh7, b7 _ _ noh ho6, b7 _ _ nfh hf6, lps, par⟩
        · exact ⟨_, ps, rfl, b6, hh6, ho6, hf6, lps, par⟩
    · rintro σ H5 ⟨v3, ps, rfl, b5, hh5, ho5, hf5, lps, par⟩
      exact ⟨_, rfl, k H5 fd ps b5 hh5 hfn hf5 lps (par_tree par pm lps)⟩

end
end W2
namespace W2
open PySem PySem.Spec PyProof.Rows L2
section
variable {P : Program} {w : World} {K : PySem.W.Frag} {mg : Str → Option Value} {base : Heap} {C fI fE CB fB : Addr}
theorem ok_plain (D : Def K mg "_law_plain" s_plain ["hand", "sizes"]) (T : Txt K mg) (C_pick : Cal P w K mg base 2 "_law_pick" ["hand", "things"] spPick) (C_parents : Cal P w K mg base 2 "_law_parents" ["hand", "size"] spParents) (C_value : Cal P w K mg base 3 "_law_value" ["hand"] spValue) : Cal P w K mg base 4 "_law_plain" ["hand", "sizes"] spPlain := by
  refine D.cal sc_plain (fun vs H Q E h => ?_) (fun f cdv A outer s H vs Q E hr h => ?_)
  · obtain ⟨h, l, t, ss, rfl, _⟩ := h
    rfl
  · obtain ⟨h, l, t, ss, rfl, HH, ht, nth, s0, sz, sr, k⟩ := h
    refine ⟨_, (pss_cons (ps_set (i := 2) sc_plain.nd rfl (Or.inl rfl) (pcal C_pick hr (by decide) rfl (pa_cons (pv 0) (pa_cons (pv 1) pa_nil))))
      (pss_one (ps_ret (pe_lst (pa_cons (pcal C_parents hr (by decide) rfl (pa_cons (pv 0) (pa_cons (pv 2) pa_nil))) (pa_cons (pe_lc (own := [("k", 3)]) (g := gName 3) (tt := tYes) (by rfl) sc_plain.nd (pi_range1 rfl T.n_range (pa_cons (pv 2) pa_nil)) (blkOk_by (own := [("k", 3)]) (N := ["hand", "sizes", "size", "k"]) (sc := defScope s_plain) (by decide +kernel)) (fun _ _ _ _ _ => pg_name (i := 3) sc_plain.nd rfl (Or.inl rfl)) (fun _ _ _ _ _ => pts_nil) (fun _ _ _ _ _ => (pcal C_value hr (by decide) rfl (pa_cons (pv 0) pa_nil)))) pa_nil)))))), ?_⟩
    refine ⟨_, rfl, _, rfl, h, l, t, _, rfl, HH, ht, nth, by rw [List.length_map]; exact s0, by rw [List.length_map]; omega, fun H1 x b1 hh1 hx => ?_⟩
    obtain ⟨s, hs, rfl⟩ := List.mem_map.mp hx
    obtain ⟨n1, n64⟩ := sr s hs
    refine ⟨_, rfl, _, rfl, h, l, s, rfl, hh1, n1, n64, fun H2 p ps b2 hh2 hp hP lps TR => ?_⟩
    obtain ⟨lh1, eh1⟩ := hh1.lst
    have nph : p ≠ h := (ne_of_none eh1 hp).symm
    refine ⟨_, rfl, _, rfl, by omega, by omega, fun D hD => ?_⟩
    rw [Int.toNat_natCast]
    obtain ⟨lh2, eh2⟩ := hh2.lst
    have nDh : D ≠ h := (ne_of_none eh2 hD).symm
    obtain ⟨lr2, er2⟩ := hh2.row
    have nDl : D ≠ l := (ne_of_none er2 hD).symm
    refine lc_range (lo := 0) (n := s) (fun i H' => Bt h H2 H' ∧ Hand H' h l ∧ ∃ ws : List Int, H' D = some (.lst (ws.map V.int)) ∧ ws.length = i) ⟨(Bt.refl h H2).new hD, hh2.upd hD, [], upd_same, rfl⟩ ?_ ?_
    · rintro i H3 hi ⟨b3, hh3, ws, eD, lw⟩
      refine ⟨rfl, _, rfl, h, l, rfl, hh3, fun H4 z b4 hh4 => ⟨_, b4 _ _ nDh eD, ?_, ?_, hh4.set nDh nDl, ws ++ [z], ?_, ?_⟩⟩
      · rw [List.length_map]
        exact smalls (by omega)
      · intro c u nc e
        rw [upd_ne (ne_of_none e hD)]
        exact b4 _ _ nc (b3 _ _ nc e)
      · rw [upd_same, List.map_append]
        rfl
      · rw [List.length_append, lw]
        rfl
    · rintro H3 ⟨b3, hh3, ws, eD, lw⟩
      refine ⟨small (by show 2 ≤ 100000; decide), fun pl hpl => ?_⟩
      have b : Bt h H (L2.upd H3 pl (.lst [.ref p, .ref D])) := ((b1.trans b2).trans b3).new hpl
      obtain ⟨lh3, eh3⟩ := hh3.lst
      have nplh : pl ≠ h := (ne_of_none eh3 hpl).symm
      have eP3 := b3 _ _ nph hP
      refine k _ pl p D ps ws b (hh3.upd hpl) (((b1.trans b2).trans b3).free nplh hpl) (b1.free nph hp) ((b1.trans b2).free nDh hD) upd_same ?_ ?_ TR (by omega) (by omega) (by rw [lw, lps])
      · rw [upd_ne (ne_of_none eP3 hpl)]
        exact eP3
      · rw [upd_ne (ne_of_none eD hpl)]
        exact eD

end
end W2
namespace W2
open PySem PySem.Spec PyProof.Rows L2
section
variable {P : Program} {w : World} {K : PySem.W.Frag} {mg : Str → Option Value} {base : Heap} {C fI fE CB fB : Addr}
theorem ok_lup (D : Def K mg "_law_up" s_lup ["parents", "house"]) (T : Txt K mg)  : Cal P w K mg base 1 "_law_up" ["parents", "house"] spLUp := by
  refine D.cal sc_lup (fun vs H Q E h => ?_) (fun f cdv A outer s H vs Q E hr h => ?_)
  · obtain ⟨p0, ps, h, rfl, _⟩ := h
    rfl
  · obtain ⟨p0, ps, h, rfl, hP, IR, hz, hl, kY, kN⟩ := h
    refine ⟨_, (pss_cons (ps_set (i := 2) sc_lup.nd rfl (Or.inl rfl) (pe_lst (pa_cons (pv 1) pa_nil)))
      (pss_cons (ps_for PassesOwn.never rfl (pi_range1 rfl T.n_range (pa_cons (pe_callB (call_lenK (K := K) rfl) (by rfl) T.n_len PySem.boot_len (pa_cons (pv 0) pa_nil)) pa_nil)) (pg_name (i := 3) sc_lup.nd rfl (Or.inl rfl)) (pss_cons (ps_if (pt_cmpR op_isN (pe_ix (IxR.or (ix_listK (K := K) rfl) (ix_tupK (K := K) rfl)) (pv 0) (pe_ix (ix_listK (K := K) rfl) (pv 2) (pe_un un_neg pe_int) (fun _ _ => rfl)) (fun _ _ => rfl)) pe_non (nomark _)) (pss_one (ps_break)) pss_nil)
      (pss_one (ps_expr (pe_bm PySem.F.plainAttrs_list PySem.F.slot_list_append PySem.F.type_list_append mt_append (pv 2) (pa_cons (pe_ix (IxR.or (ix_listK (K := K) rfl) (ix_tupK (K := K) rfl)) (pv 0) (pe_ix (ix_listK (K := K) rfl) (pv 2) (pe_un un_neg pe_int) (fun _ _ => rfl)) (fun _ _ => rfl)) pa_nil))))))
      (pss_one (ps_ret (pv 2))))), ?_⟩
    refine ⟨_, rfl, small (by show 1 ≤ 100000; decide), fun p hp => ?_⟩
    have s1 : L2.Same H (L2.upd H p (.lst [nv h])) := same_upd hp
    refine ⟨_, rfl, p0, _, rfl, (hP.same s1).sq, _, rfl, by omega, by rw [List.length_map]; omega, ?_⟩
    rw [List.length_map, Int.toNat_natCast]
    by_cases hc : ∃ l, Ch ps h l
    · obtain ⟨lc, ch⟩ := hc
      have cz := ch.len
      obtain ⟨rest, eh⟩ := ch.head
      refine for_range (lo := 0) (n := ps.length) (fun i σ H' => i < lc.length ∧ ∃ v3 : Option V, σ = [some (.ref p0), some (nv h), some (.ref p), v3] ∧ L2.Same H H' ∧ H' p = some (.lst ((lc.take (i + 1)).map nv)))
        ⟨by rw [eh]; simp, none, rfl, s1, by rw [upd_same, eh]; rfl⟩ ?_ ?_
      · rintro i σ H2 hi ⟨hi2, v3, rfl, s2, hL⟩
        have hP2 := hP.same s2
        have hx : lc[i]? = some lc[i] := List.getElem?_eq_getElem hi2
        generalize lc[i] = x at hx
        have hlast : ((lc.take (i + 1)).map nv).getLast? = some (nv x) := by
          rw [List.getLast?_eq_getElem?, List.length_map, List.length_take, Nat.min_eq_left (by omega), List.getElem?_map, List.getElem?_take, if_pos (by omega), Nat.add_sub_cancel, hx]
          rfl
        rcases ch.next hx with ⟨e0, e1⟩ | ⟨y, e0, e1⟩
        · have hv : (ps.map ov)[x]? = some V.non := by rw [List.getElem?_map, e0]; rfl
          refine ⟨_, rfl, _, rfl, 1, rfl, p, _, _, _, rfl, rfl, SqL.of hL, atI_last hlast, hP2.ix (atI_nat hv) ⟨rfl, _, rfl, iteT ?_⟩⟩
          refine ⟨_, rfl, kY lc ch _ p s2 hp ?_⟩
          rw [hL, e1, List.take_length]
        · have hv : (ps.map ov)[x]? = some (nv y) := by rw [List.getElem?_map, e0]; rfl
          refine ⟨_, rfl, _, rfl, 1, rfl, p, _, _, _, rfl, rfl, SqL.of hL, atI_last hlast, hP2.ix (atI_nat hv) ⟨rfl, _, rfl, iteF ?_⟩⟩
          refine ⟨_, rfl, .inl ⟨rfl, _, SqL.of hL⟩, _, rfl, _, rfl, 1, rfl, p, _, _, _, rfl, rfl, SqL.of hL, atI_last hlast, hP2.ix (atI_nat hv) ⟨p, _, _, rfl, rfl, hL, ?_, ?_⟩⟩
          · rw [List.length_map, List.length_take]
            exact smalls (by omega)
          · refine ⟨(List.getElem?_eq_some_iff.mp e1).1, _, rfl, Same.upd s2 hp, ?_⟩
            rw [upd_same, List.take_add_one (i := i + 1), e1, List.map_append]
            rfl
      · rintro σ H2 ⟨hi, _⟩
        omega
    · refine for_range (lo := 0) (n := ps.length) (fun i σ H' => ∃ (v3 : Option V) (ys : List Nat) (z : Nat), σ = [some (.ref p0), some (nv h), some (.ref p), v3] ∧ L2.Same H H' ∧ H' p = some (.lst (ys.map nv)) ∧ ys.length = i + 1 ∧ ys.getLast? = some z ∧ z < ps.length ∧ ¬ ∃ l, Ch ps z l)
        ⟨none, [h], h, rfl, s1, upd_same, rfl, rfl, hl, hc⟩ ?_ ?_
      · rintro i σ H2 hi ⟨v3, ys, x, rfl, s2, hL, ly, lz, hx, nx⟩
        have hP2 := hP.same s2
        have hlast : (ys.map nv).getLast? = some (nv x) := by rw [List.getLast?_map, lz]; rfl
        obtain ⟨y, e0, hy, ny⟩ := no_next IR hx nx
        have hv : (ps.map ov)[x]? = some (nv y) := by rw [List.getElem?_map, e0]; rfl
        refine ⟨_, rfl, _, rfl, 1, rfl, p, _, _, _, rfl, rfl, SqL.of hL, atI_last hlast, hP2.ix (atI_nat hv) ⟨rfl, _, rfl, iteF ?_⟩⟩
        refine ⟨_, rfl, .inl ⟨rfl, _, SqL.of hL⟩, _, rfl, _, rfl, 1, rfl, p, _, _, _, rfl, rfl, SqL.of hL, atI_last hlast, hP2.ix (atI_nat hv) ⟨p, _, _, rfl, rfl, hL, ?_, ?_⟩⟩
        · rw [List.length_map]
          exact smalls (by omega)
        · refine ⟨_, ys ++ [y], y, rfl, Same.upd s2 hp, ?_, ?_, ?_, hy, ny⟩
          · rw [upd_same, List.map_append]
            rfl
          · rw [List.length_append, ly]
            rfl
          · simp
      · rintro σ H2 ⟨v3, ys, z, rfl, s2, hL, ly, lz, hx, nx⟩
        exact ⟨_, rfl, kN hc _ p ys z s2 hp hL lz hx nx⟩

end
end W2
namespace W2
open PySem PySem.Spec PyProof.Rows L2
section
variable {P : Program} {w : World} {K : PySem.W.Frag} {mg : Str → Option Value} {base : Heap} {C fI fE CB fB : Addr}
theorem ok_lroot (D : Def K mg "_law_root" s_lroot ["parents", "house"]) (T : Txt K mg) (C_lup : Cal P w K mg base 1 "_law_up" ["parents", "house"] spLUp) : Cal P w K mg base 2 "_law_root" ["parents", "house"] spLRoot := by
  refine D.cal sc_lroot (fun vs H Q E h => ?_) (fun f cdv A outer s H vs Q E hr h => ?_)
  · obtain ⟨p0, ps, h, rfl, _⟩ := h
    rfl
  · obtain ⟨p0, ps, h, rfl, hP, IR, hz, hl, kY, kN⟩ := h
    refine ⟨_, (pss_one (ps_ret (pe_ix (ix_listK (K := K) rfl) (pcal C_lup hr (by decide) rfl (pa_cons (pv 0) (pa_cons (pv 1) pa_nil))) (pe_un un_neg pe_int) (fun _ _ => rfl)))), ?_⟩
    refine ⟨_, rfl, _, rfl, p0, ps, h, rfl, hP, IR, hz, hl, fun l ch H1 p s1 hp hL => ?_, fun nc H1 p ys z s1 hp hL lz hx nx => ?_⟩
    · obtain ⟨r, e1, e2⟩ := ch.last
      refine ⟨1, rfl, p, _, _, _, rfl, rfl, SqL.of hL, atI_last (v := nv r) ?_, kY l r ch e2 _ s1⟩
      rw [List.getLast?_map, e1]
      rfl
    · refine ⟨1, rfl, p, _, _, _, rfl, rfl, SqL.of hL, atI_last (v := nv z) ?_, kN nc z hx nx _ s1⟩
      rw [List.getLast?_map, lz]
      rfl

end
end W2
namespace W2
open PySem PySem.Spec PyProof.Rows L2
section
variable {P : Program} {w : World} {K : PySem.W.Frag} {mg : Str → Option Value} {base : Heap} {C fI fE CB fB : Addr}
theorem ok_lbelow (D : Def K mg "_law_below" s_lbelow ["parents", "house"]) (T : Txt K mg) (C_lup : Cal P w K mg base 1 "_law_up" ["parents", "house"] spLUp) : Cal P w K mg base 2 "_law_below" ["parents", "house"] spLBelow := by
  refine D.cal sc_lbelow (fun vs H Q E h => ?_) (fun f cdv A outer s H vs Q E hr h => ?_)
  · obtain ⟨p0, ps, h, rfl, _⟩ := h
    rfl
  · obtain ⟨p0, ps, h, rfl, hP, TR, hz, hl, k⟩ := h
    refine ⟨_, (pss_one (ps_ret (pe_lc (own := [("other", 2)]) (g := gName 2) (by rfl) sc_lbelow.nd (pi_range1 rfl T.n_range (pa_cons (pe_callB (call_lenK (K := K) rfl) (by rfl) T.n_len PySem.boot_len (pa_cons (pv 0) pa_nil)) pa_nil)) (blkOk_by (own := [("other", 2)]) (N := ["parents", "house", "other"]) (sc := defScope s_lbelow) (by decide +kernel)) (fun _ _ _ _ _ => pg_name (i := 2) sc_lbelow.nd rfl (Or.inl rfl)) (fun _ _ _ _ _ => pts_one (pt_cmpR (op_inK (K := K) rfl) (pv 1) (pcal C_lup hr (by decide) rfl (pa_cons (pv 0) (pa_cons (pv 2) pa_nil))) (by rfl))) (fun _ _ _ _ _ => (pv 2))))), ?_⟩
    refine ⟨_, rfl, p0, _, rfl, hP.sq, _, rfl, by omega, by rw [List.length_map]; omega, fun D hD => ?_⟩
    rw [List.length_map, Int.toNat_natCast]
    refine lc_range (lo := 0) (n := ps.length) (fun i H' => L2.Same H H' ∧ H' D = some (.lst (((List.range i).filter fun s => decide (h ∈ up ps s)).map nv))) ⟨same_upd hD, by rw [upd_same]; rfl⟩ ?_ ?_
    · rintro i H3 hi ⟨s3, hd⟩
      rw [Int.zero_add]
      have lenb : (((List.range i).filter fun s => decide (h ∈ up ps s)).map nv).length ≤ i := by
        rw [List.length_map]
        exact Nat.le_trans (List.length_filter_le _ _) (by rw [List.length_range]; exact Nat.le_refl _)
      have ci := (TR i hi).1
      refine ⟨rfl, _, rfl, _, rfl, _, rfl, p0, ps, i, rfl, hP.same s3, TR.inr, hz, hi, fun l cl H4 q s4 hq hL => ?_, fun n => absurd ⟨_, ci⟩ n⟩
      have el := up_of cl
      subst el
      refine ⟨q, _, rfl, .inl (SqL.of hL), rfl, flat_nv _, _, rfl, ?_⟩
      show if (inV (nv h) ((up ps i).map nv)) = true then _ else _
      rw [inV_nv]
      refine iteB (fun e => ?_) (fun e => ?_)
      · refine ⟨_, rfl, _, s4 _ _ hd, smalls (by omega), Same.upd (s3.trans s4) hD, ?_⟩
        rw [upd_same, List.range_succ, List.filter_append, List.filter_cons, if_pos e, List.map_append]
        rfl
      · refine ⟨s3.trans s4, ?_⟩
        rw [s4 _ _ hd, List.range_succ, List.filter_append, List.filter_cons, if_neg (by rw [e]; decide), List.map_append]
        simp
    · rintro H3 ⟨s3, hd⟩
      exact k _ D s3 hD hd

end
end W2
namespace W2
open PySem PySem.Spec PyProof.Rows L2
section
variable {P : Program} {w : World} {K : PySem.W.Frag} {mg : Str → Option Value} {base : Heap} {C fI fE CB fB : Addr}
theorem ok_pright (D : Def K mg "_law_parents_right" s_pright ["thing"]) (T : Txt K mg) (C_within : Cal P w K mg base 2 "_law_is_within" ["thing", "least", "most"] (spWithin C)) (C_lroot : Cal P w K mg base 2 "_law_root" ["parents", "house"] spLRoot) (FC : ForC K mg C fI fE CB fB) : Cal P w K mg base 3 "_law_parents_right" ["thing"] (spAreP C) := by
  refine D.cal sc_pright (fun vs H Q E h => ?_) (fun f cdv A outer s H vs Q E hr h => ?_)
  · obtain ⟨h, x, rfl, _⟩ := h
    rfl
  · obtain ⟨h, x, rfl, th, kT, kF⟩ := h
    obtain ⟨t, b, ty, kt, hb1, hb0⟩ := any_tup FC.own th.any
    refine ⟨_, (pss_cons (ps_if (PW.pt (pw_or (pt_not (pt_val (pe_callB (call_isiK1 (K := K) rfl) (by rfl) T.n_isinstance (by decide +kernel) (pa_cons (pv 0) (pa_cons (pe_bltn (v := .ty "tuple") (by rfl) T.n_tuple (by decide +kernel) rfl) pa_nil))))) (pw_or (pt_cmpR op_lt (pe_callB (call_lenK (K := K) rfl) (by rfl) T.n_len PySem.boot_len (pa_cons (pv 0) pa_nil)) pe_int (nomark _)) (pw_or1 (pt_cmpR op_gt (pe_callB (call_lenK (K := K) rfl) (by rfl) T.n_len PySem.boot_len (pa_cons (pv 0) pa_nil)) pe_int (nomark _)))))) (pss_one (ps_ret pe_bl)) pss_nil)
      (pss_cons (ps_if (pt_cmpR op_gt (pe_callB (call_lenK (K := K) rfl) (by rfl) T.n_len PySem.boot_len (pa_cons (pe_lc (own := [("one", 1)]) (g := gName 1) (by rfl) sc_pright.nd (pi_tup (pv 0)) (blkOk_by (own := [("one", 1)]) (N := ["thing", "one"]) (sc := defScope s_pright) (by decide +kernel)) (fun _ _ _ _ _ => pg_name (i := 1) sc_pright.nd rfl (Or.inl rfl)) (fun _ _ _ _ _ => pts_one (PW.pt (pw_and (pt_cmpR op_notN (pv 1) pe_non (nomark _)) (pw_and1 (pt_not (pt_val (pcal C_within hr (by decide) rfl (pa_cons (pv 1) (pa_cons pe_int (pa_cons (pe_op op_sub (pe_callB (call_lenK (K := K) rfl) (by rfl) T.n_len PySem.boot_len (pa_cons (pv 0) pa_nil)) pe_int) pa_nil)))))))))) (fun _ _ _ _ _ => (pv 1))) pa_nil)) pe_int (nomark _)) (pss_one (ps_ret pe_bl)) pss_nil)
      (pss_one (ps_ret (pe_cmpR op_eq (pe_callB (call_lenK (K := K) rfl) (by rfl) T.n_len PySem.boot_len (pa_cons (pe_lc (own := [("one", 1)]) (g := gName 1) (by rfl) sc_pright.nd (pi_range1 rfl T.n_range (pa_cons (pe_callB (call_lenK (K := K) rfl) (by rfl) T.n_len PySem.boot_len (pa_cons (pv 0) pa_nil)) pa_nil)) (blkOk_by (own := [("one", 1)]) (N := ["thing", "one"]) (sc := defScope s_pright) (by decide +kernel)) (fun _ _ _ _ _ => pg_name (i := 1) sc_pright.nd rfl (Or.inl rfl)) (fun _ _ _ _ _ => pts_one (pt_cmpR op_notN (pe_ix (ix_tupK (K := K) rfl) (pv 0) (pcal C_lroot hr (by decide) rfl (pa_cons (pv 0) (pa_cons (pv 1) pa_nil))) (fun _ _ => rfl)) pe_non (nomark _))) (fun _ _ _ _ _ => (pv 1))) pa_nil)) pe_int (nomark _)))))), ?_⟩
    refine ⟨_, rfl, _, _, _, _, b, rfl, .ty _, ty, kt, b, rfl, ?_⟩
    cases b with
    | false =>
      refine iteT (iteT ?_)
      exact kF (fun ⟨a, ps, e, e2, _⟩ => hb0 rfl a _ e e2) _ (L2.Same.refl _)
    | true =>
      obtain ⟨a, xs, rfl, hA⟩ := hb1 rfl
      have no : (¬ (1 ≤ xs.length ∧ xs.length ≤ 64)) → ∀ {R : Prop}, (Ret (.bl false) H Q → R) → R := fun n R r => r (kF fun ⟨a', ps, e, e2, _, h1, h2⟩ => by
        cases e
        rw [hA] at e2
        cases e2
        rw [List.length_map] at n
        exact n ⟨h1, h2⟩)
      refine iteF ?_
      refine ⟨_, rfl, a, _, rfl, .inr (SqT.of hA), _, _, rfl, rfl, _, rfl, iteB (fun e1 => ?_) (fun e1 => ?_)⟩
      · refine no (fun ⟨z, _⟩ => ?_) fun r => iteT (r _ (L2.Same.refl _))
        have e2 : (xs.length : Int) < 1 := of_decide_eq_true e1
        omega
      have h1 : ¬ ((xs.length : Int) < 1) := of_decide_eq_false e1
      refine ⟨_, rfl, a, _, rfl, .inr (SqT.of hA), _, _, rfl, rfl, _, rfl, iteB (fun e2 => ?_) (fun e2 => ?_)⟩
      · refine no (fun ⟨_, z⟩ => ?_) fun r => r _ (L2.Same.refl _)
        have e3 : (64 : Int) < (xs.length : Int) := of_decide_eq_true e2
        omega
      have h2 : ¬ ((64 : Int) < (xs.length : Int)) := of_decide_eq_false e2
      refine ⟨_, rfl, a, rfl, ⟨_, SqT.of hA⟩, fun D hD => ?_⟩
      refine lc_tup (xs := xs) (fun i H' => L2.Same H H' ∧ H' D = some (.lst ((xs.take i).filter fun x => !okE xs.length x))) ⟨same_upd hD, by rw [upd_same]; rfl⟩ (fun i H' _ p => SqT.of (p.1 _ _ hA)) ?_ ?_
      · rintro i x H' hx ⟨sm, hd⟩
        have hi := (List.getElem?_eq_some_iff.mp hx).1
        have ax : Any C h H x := th.items a xs rfl hA x (List.mem_of_getElem? hx)
        have sml : ((xs.take i).filter fun x => !okE xs.length x).length < 100000 := by
          have z := List.length_filter_le (fun x => !okE xs.length x) (xs.take i)
          rw [List.length_take] at z
          omega
        have finY : okE xs.length x = true → ∀ H2, L2.Same H' H2 → L2.Same H H2 ∧ H2 D = some (.lst ((xs.take (i + 1)).filter fun x => !okE xs.length x)) := fun e H2 s2 => by
          refine ⟨sm.trans s2, ?_⟩
          rw [s2 _ _ hd, List.take_add_one, hx, List.filter_append]
          simp [e]
        have finN : okE xs.length x = false → ∀ H2, L2.Same H' H2 → ∃ acc, H2 D = some (.lst acc) ∧ acc.length < sizeLine ∧ L2.Same H (L2.upd H2 D (.lst (acc ++ [x]))) ∧ (L2.upd H2 D (.lst (acc ++ [x]))) D = some (.lst ((xs.take (i + 1)).filter fun x => !okE xs.length x)) := fun e H2 s2 => by
          refine ⟨_, s2 _ _ hd, smalls sml, Same.upd (sm.trans s2) hD, ?_⟩
          rw [upd_same, List.take_add_one, hx, List.filter_append]
          simp [e]
        refine ⟨rfl, _, rfl, rfl, _, rfl, iteB (fun e3 => ?_) (fun e3 => ?_)⟩
        · have e4 : decide (x = V.non) = false := by
            have e5 : (!decide (x = V.non)) = true := e3
            simpa using e5
          have e6 : okE xs.length x = wiV 0 ((xs.length : Int) - 1) x := by
            unfold okE
            rw [e4, wiV_hsV]
            rfl
          refine ⟨_, rfl, _, rfl, a, _, rfl, .inr (SqT.of (sm _ _ hA)), _, _, rfl, rfl, h, _, _, _, rfl, ax.same sm, fun H2 s2 => ⟨_, rfl, iteB (fun e7 => ?_) (fun e7 => ?_)⟩⟩
          · have e8 : (!wiV 0 ((xs.length : Int) - 1) x) = true := e7
            exact ⟨_, rfl, finN (by rw [e6]; simpa using e8) H2 s2⟩
          · have e8 : (!wiV 0 ((xs.length : Int) - 1) x) = false := e7
            exact finY (by rw [e6]; simpa using e8) H2 s2
        · refine finY ?_ _ (L2.Same.refl _)
          have e5 : (!decide (x = V.non)) = false := e3
          have e4 : decide (x = V.non) = true := by simpa using e5
          unfold okE
          rw [e4]
          rfl
      rintro H1 ⟨s1, hd1⟩
      rw [List.take_length] at hd1
      refine ⟨D, _, rfl, .inl (SqL.of hd1), _, _, rfl, rfl, _, rfl, iteB (fun e3 => ?_) (fun e3 => ?_)⟩
      · have e4 := of_decide_eq_true e3
        refine kF (fun ⟨a', ps, e, e2, TR, _⟩ => ?_) _ s1
        cases e
        rw [hA] at e2
        cases e2
        have e5 : ((ps.map ov).filter fun x => !okE (ps.map ov).length x) = [] := by
          rw [List.filter_eq_nil_iff]
          intro x hx
          obtain ⟨o, ho, rfl⟩ := List.mem_map.mp hx
          obtain ⟨i, hi, eo⟩ := List.getElem_of_mem ho
          rw [List.length_map, ov_okE fun q eq => TR.inr i q (by rw [List.getElem?_eq_getElem hi, eo, eq])]
          decide
        rw [e5] at e4
        exact absurd e4 (by decide)
      have n4 : ∀ x ∈ xs, okE xs.length x = true := by
        have e4 := of_decide_eq_false e3
        intro x hx
        cases e : okE xs.length x with
        | true => rfl
        | false =>
          have e5 : x ∈ xs.filter fun x => !okE xs.length x := List.mem_filter.mpr ⟨hx, by rw [e]; rfl⟩
          have e6 := List.length_pos_of_mem e5
          exact absurd (by exact_mod_cast e6) e4
      obtain ⟨ps, e5, k5⟩ := all_ov n4
      have lp : xs.length = ps.length := by rw [e5, List.length_map]
      have IR : Inr ps := fun k q e => by
        have := k5 _ (List.mem_of_getElem? e) q rfl
        omega
      subst e5
      have hA1 := s1 _ _ hA
      refine ⟨_, rfl, a, _, rfl, .inr (SqT.of hA1), _, rfl, by omega, by omega, fun D2 hD2 => ?_⟩
      rw [List.length_map, Int.toNat_natCast]
      refine lc_range (lo := 0) (n := ps.length) (fun i H' => L2.Same H1 H' ∧ H' D2 = some (.lst (((List.range i).filter fun s => @decide (¬ ∃ l, Ch ps s l) (Classical.propDecidable _)).map nv))) ⟨same_upd hD2, by rw [upd_same]; rfl⟩ ?_ ?_
      · rintro i H3 hi ⟨s3, hd⟩
        rw [Int.zero_add]
        have lenb : (((List.range i).filter fun s => @decide (¬ ∃ l, Ch ps s l) (Classical.propDecidable _)).map nv).length ≤ i := by
          rw [List.length_map]
          exact Nat.le_trans (List.length_filter_le _ _) (by rw [List.length_range]; exact Nat.le_refl _)
        refine ⟨rfl, _, rfl, _, rfl, _, rfl, a, ps, i, rfl, .inr (s3 _ _ hA1), IR, by omega, hi, fun l r ch er H4 s4 => ?_, fun nc z hz nz H4 s4 => ?_⟩
        · refine ⟨a, _, _, _, rfl, rfl, SqT.of (s4 _ _ (s3 _ _ hA1)), atI_nat (v := .non) (by rw [List.getElem?_map, er]; rfl), rfl, _, rfl, ?_⟩
          show L2.Same H1 H4 ∧ _
          refine ⟨s3.trans s4, ?_⟩
          rw [s4 _ _ hd, List.range_succ, List.filter_append, List.filter_cons, if_neg (fun z => (@of_decide_eq_true _ (Classical.propDecidable _) z) ⟨l, ch⟩), List.map_append]
          simp
        · obtain ⟨q, e7, _⟩ := no_next IR hz nz
          refine ⟨a, _, _, _, rfl, rfl, SqT.of (s4 _ _ (s3 _ _ hA1)), atI_nat (v := nv q) (by rw [List.getElem?_map, e7]; rfl), rfl, _, rfl, iteT ?_⟩
          refine ⟨_, rfl, _, s4 _ _ hd, smalls (by omega), Same.upd (s3.trans s4) hD2, ?_⟩
          rw [upd_same, List.range_succ, List.filter_append, List.filter_cons, if_pos (@decide_eq_true _ (Classical.propDecidable _) nc), List.map_append]
          rfl
      · rintro H3 ⟨s3, hd⟩
        refine ⟨D2, _, rfl, .inl (SqL.of hd), rfl, ?_⟩
        by_cases TR : Tree ps
        · have e7 : ((List.range ps.length).filter fun s => @decide (¬ ∃ l, Ch ps s l) (Classical.propDecidable _)) = [] := by
            rw [List.filter_eq_nil_iff]
            intro y hy z
            exact (@of_decide_eq_true _ (Classical.propDecidable _) z) (tree_iff.mp TR y (List.mem_range.mp hy))
          rw [e7]
          exact kT a ps ⟨rfl, hA, TR, by omega, by omega⟩ _ (s1.trans s3)
        · have e7 : ¬ ((((List.range ps.length).filter fun s => @decide (¬ ∃ l, Ch ps s l) (Classical.propDecidable _)).map nv).length = 0) := by
            rw [List.length_map]
            intro z
            refine TR (tree_iff.mpr fun h hh => Classical.byContradiction fun nc => ?_)
            have : h ∈ (List.range ps.length).filter fun s => @decide (¬ ∃ l, Ch ps s l) (Classical.propDecidable _) := List.mem_filter.mpr ⟨List.mem_range.mpr hh, @decide_eq_true _ (Classical.propDecidable _) nc⟩
            rw [List.length_eq_zero_iff.mp z] at this
            cases this
          rw [decide_eq_false fun z => e7 (by have := V.int.inj z; omega)]
          refine kF (fun ⟨a', qs, e, e2, TR', _⟩ => TR ?_) _ (s1.trans s3)
          cases e
          rw [hA] at e2
          have e6 := ov_maps (HO.tup.inj (Option.some.inj e2))
          rw [e6]
          exact TR'

end
end W2
namespace W2
open PySem PySem.Spec PyProof.Rows L2
section
variable {P : Program} {w : World} {K : PySem.W.Frag} {mg : Str → Option Value} {base : Heap} {C fI fE CB fB : Addr}
theorem ok_bad (D : Def K mg "_law_bad" s_bad ["parents", "worths"]) (T : Txt K mg) (C_pright : Cal P w K mg base 3 "_law_parents_right" ["thing"] (spAreP C)) (C_lisint : Cal P w K mg base 1 "_law_is_integer" ["thing"] (spIsInt C)) (FC : ForC K mg C fI fE CB fB) : Cal P w K mg base 4 "_law_bad" ["parents", "worths"] (spBad C) := by
  refine D.cal sc_bad (fun vs H Q E h => ?_) (fun f cdv A outer s H vs Q E hr h => ?_)
  · obtain ⟨h, y, z, rfl, _⟩ := h
    rfl
  · obtain ⟨h, y, z, rfl, ty, tz, k1, k2, k3⟩ := h
    refine ⟨_, (pss_cons (ps_if (pt_not (pt_val (pcal C_pright hr (by decide) rfl (pa_cons (pv 0) pa_nil)))) (pss_one (ps_ret pe_str)) pss_nil)
      (pss_cons (ps_if (PW.pt (pw_or (pt_not (pt_val (pe_callB (call_isiK1 (K := K) rfl) (by rfl) T.n_isinstance (by decide +kernel) (pa_cons (pv 1) (pa_cons (pe_bltn (v := .ty "tuple") (by rfl) T.n_tuple (by decide +kernel) rfl) pa_nil))))) (pw_or1 (pt_cmpR op_ne (pe_callB (call_lenK (K := K) rfl) (by rfl) T.n_len PySem.boot_len (pa_cons (pv 1) pa_nil)) (pe_callB (call_lenK (K := K) rfl) (by rfl) T.n_len PySem.boot_len (pa_cons (pv 0) pa_nil)) (nomark _))))) (pss_one (ps_ret pe_str)) pss_nil)
      (pss_cons (ps_if (pt_cmpR op_gt (pe_callB (call_lenK (K := K) rfl) (by rfl) T.n_len PySem.boot_len (pa_cons (pe_lc (own := [("one", 2)]) (g := gName 2) (by rfl) sc_bad.nd (pi_tup (pv 1)) (blkOk_by (own := [("one", 2)]) (N := ["parents", "worths", "one"]) (sc := defScope s_bad) (by decide +kernel)) (fun _ _ _ _ _ => pg_name (i := 2) sc_bad.nd rfl (Or.inl rfl)) (fun _ _ _ _ _ => pts_one (pt_not (pt_val (pcal C_lisint hr (by decide) rfl (pa_cons (pv 2) pa_nil))))) (fun _ _ _ _ _ => (pv 2))) pa_nil)) pe_int (nomark _)) (pss_one (ps_ret pe_str)) pss_nil)
      (pss_one (ps_ret pe_non))))), ?_⟩
    by_cases oy : ∃ a ps, OkP H y a ps
    · obtain ⟨a, ps, oy⟩ := oy
      refine ⟨_, rfl, h, y, rfl, ty, fun a' ps' _ H1 s1 => ⟨true, rfl, iteF ?_⟩, fun n => absurd ⟨a, ps, oy⟩ n⟩
      obtain ⟨rfl, ea, TR, p1, p64⟩ := id oy
      have bad : (¬ ∃ b ws, OkW H z ps.length b ws) → Ret (.str "worths") H Q := k3 a ps oy
      have tz1 := tz.same s1
      obtain ⟨t, b, tt, kt, hb1, hb0⟩ := any_tup FC.own tz1.any
      refine ⟨_, rfl, _, _, _, _, b, rfl, .ty _, tt, kt, b, rfl, ?_⟩
      cases b with
      | false =>
        refine iteT (iteT ?_)
        exact bad (fun ⟨b, ws, o⟩ => hb0 rfl b _ o.1 (s1 _ _ o.2.1)) _ s1
      | true =>
        obtain ⟨b, xs, rfl, hB1⟩ := hb1 rfl
        have hB : H b = some (.tup xs) := tz.any.tup_back (fun c o _ q => s1 c o q) (fun ys q => s1 _ _ q) hB1
        refine iteF ?_
        refine ⟨_, rfl, b, _, rfl, .inr (SqT.of hB1), _, rfl, a, _, rfl, .inr (SqT.of (s1 _ _ ea)), rfl, _, rfl, iteB (fun e1 => ?_) (fun e1 => ?_)⟩
        · refine bad (fun ⟨b', ws, o⟩ => ?_) _ s1
          obtain ⟨e, e2, e3⟩ := o
          cases e
          rw [hB] at e2
          cases e2
          have e4 : (!decide (V.int (((ws.map V.int).length : Nat) : Int) = V.int (((ps.map ov).length : Nat) : Int))) = true := e1
          rw [List.length_map, List.length_map, e3, decide_eq_true rfl] at e4
          cases e4
        have ln : xs.length = ps.length := by
          have e4 : (!decide (V.int ((xs.length : Nat) : Int) = V.int (((ps.map ov).length : Nat) : Int))) = false := e1
          have e5 : decide (V.int ((xs.length : Nat) : Int) = V.int (((ps.map ov).length : Nat) : Int)) = true := by simpa using e4
          have e6 := V.int.inj (of_decide_eq_true e5)
          rw [List.length_map] at e6
          omega
        refine ⟨_, rfl, b, rfl, ⟨_, SqT.of hB1⟩, fun D hD => ?_⟩
        refine lc_tup (xs := xs) (fun i H' => L2.Same H1 H' ∧ H' D = some (.lst ((xs.take i).filter fun x => !isI x))) ⟨same_upd hD, by rw [upd_same]; rfl⟩ (fun i H' _ p => SqT.of (p.1 _ _ hB1)) ?_ ?_
        · rintro i x H' hx ⟨sm, hd⟩
          have hi := (List.getElem?_eq_some_iff.mp hx).1
          have ax : Any C h H1 x := tz1.items b xs rfl hB1 x (List.mem_of_getElem? hx)
          refine ⟨rfl, _, rfl, h, x, rfl, ax.same sm, fun H2 s2 => ⟨_, rfl, iteB (fun e7 => ?_) (fun e7 => ?_)⟩⟩
          · have e8 : (!isI x) = true := e7
            refine ⟨_, rfl, _, s2 _ _ hd, smalls ?_, Same.upd (sm.trans s2) hD, ?_⟩
            · have z := List.length_filter_le (fun x => !isI x) (xs.take i)
              rw [List.length_take] at z
              omega
            · rw [upd_same, List.take_add_one, hx, List.filter_append]
              simp [e8]
          · have e8 : (!isI x) = false := e7
            refine ⟨sm.trans s2, ?_⟩
            rw [s2 _ _ hd, List.take_add_one, hx, List.filter_append]
            simp at e8
            simp [e8]
        rintro H2 ⟨s2, hd1⟩
        rw [List.take_length] at hd1
        refine ⟨D, _, rfl, .inl (SqL.of hd1), _, _, rfl, rfl, _, rfl, iteB (fun e3 => ?_) (fun e3 => ?_)⟩
        · have e4 := of_decide_eq_true e3
          refine bad (fun ⟨b', ws, e, e2, _⟩ => ?_) _ (s1.trans s2)
          cases e
          rw [hB] at e2
          cases e2
          have e5 : ((ws.map V.int).filter fun x => !isI x) = [] := by
            rw [List.filter_eq_nil_iff]
            intro x hx
            obtain ⟨o, ho, rfl⟩ := List.mem_map.mp hx
            exact fun z => nomatch z
          rw [e5] at e4
          exact absurd e4 (by decide)
        · have n4 : ∀ x ∈ xs, isI x = true := by
            have e4 := of_decide_eq_false e3
            intro x hx
            cases e : isI x with
            | true => rfl
            | false =>
              have e5 : x ∈ xs.filter fun x => !isI x := List.mem_filter.mpr ⟨hx, by rw [e]; rfl⟩
              have e6 := List.length_pos_of_mem e5
              exact absurd (by exact_mod_cast e6) e4
          obtain ⟨ws, rfl⟩ := int_all n4
          exact k1 a ps b ws oy ⟨rfl, hB, by rw [← ln, List.length_map]⟩ _ (s1.trans s2)
    · refine ⟨_, rfl, h, y, rfl, ty, fun a' ps' o => absurd ⟨a', ps', o⟩ oy, fun n H1 s1 => ⟨false, rfl, iteT ?_⟩⟩
      exact k2 oy _ s1

end
end W2
namespace W2
open PySem PySem.Spec PyProof.Rows L2
section
variable {P : Program} {w : World} {K : PySem.W.Frag} {mg : Str → Option Value} {base : Heap} {C fI fE CB fB : Addr}
theorem ok_spoilt (D : Def K mg "_law_spoilt" s_spoilt ["hand", "parents", "worths"]) (T : Txt K mg) (C_take : Cal P w K mg base 1 "_law_take" ["hand", "size"] spTake) (C_pick : Cal P w K mg base 2 "_law_pick" ["hand", "things"] spPick) (C_odd : Cal P w K mg base 2 "_law_odd" ["hand"] (spOdd C)) (C_lbelow : Cal P w K mg base 2 "_law_below" ["parents", "house"] spLBelow) (FC : ForC K mg C fI fE CB fB) {fdI : FuncData} (FI : FnOk P w K mg base (L2.CX P w) 4 fI fdI ["self", "parents", "worths"] (spInit C CB)) (bI : Binds K fdI ["self", "parents", "worths"] []) : Cal P w K mg base 6 "_law_spoilt" ["hand", "parents", "worths"] (spSpoilt C) := by
  refine D.cal sc_spoilt (fun vs H Q E h => ?_) (fun f cdv A outer s H vs Q E hr h => ?_)
  · obtain ⟨h, l, p, q, ps, ws, rfl, _⟩ := h
    rfl
  · obtain ⟨h, l, p, q, ps, ws, rfl, HH, hp, hq, TR, p1, p64, lw, k⟩ := h
    refine ⟨_, (pss_cons (ps_set (i := 3) sc_spoilt.nd rfl (Or.inl rfl) (pe_callB (call_lenK (K := K) rfl) (by rfl) T.n_len PySem.boot_len (pa_cons (pv 1) pa_nil)))
      (pss_cons (ps_set (i := 4) sc_spoilt.nd rfl (Or.inl rfl) (pcal C_take hr (by decide) rfl (pa_cons (pv 0) (pa_cons pe_int pa_nil))))
      (pss_cons (ps_set (i := 5) sc_spoilt.nd rfl (Or.inl rfl) (pcal C_take hr (by decide) rfl (pa_cons (pv 0) (pa_cons (pv 3) pa_nil))))
      (pss_cons (ps_if (pt_cmpR op_eq (pv 4) pe_int (nomark _)) (pss_one (ps_ret (pe_tup (pa_cons (pcal C_pick hr (by decide) rfl (pa_cons (pv 0) (pa_cons (pe_lst (pa_cons (pe_callTy call_list_of (by rfl) T.n_list (by decide +kernel) (pa_cons (pv 1) pa_nil)) (pa_cons (pcal C_odd hr (by decide) rfl (pa_cons (pv 0) pa_nil)) (pa_cons (pe_tup pa_nil) (pa_cons (pe_op op_repT (pe_tup (pa_cons pe_non pa_nil)) pe_int) (pa_cons (pe_op op_repT (pe_tup (pa_cons pe_non pa_nil)) pe_int) (pa_cons (pe_make FC.M FI (hr.mono (by decide)) rfl FC.mgC bI .nil passL (pa_cons (pe_tup (pa_cons pe_non pa_nil)) (pa_cons (pe_tup (pa_cons pe_int pa_nil)) pa_nil))) pa_nil))))))) pa_nil))) (pa_cons (pv 2) pa_nil))))) pss_nil)
      (pss_cons (ps_if (pt_cmpR op_eq (pv 4) pe_int (nomark _)) (pss_one (ps_ret (pe_tup (pa_cons (pv 1) (pa_cons (pcal C_pick hr (by decide) rfl (pa_cons (pv 0) (pa_cons (pe_lst (pa_cons (pe_callTy call_list_of (by rfl) T.n_list (by decide +kernel) (pa_cons (pv 2) pa_nil)) (pa_cons (pcal C_odd hr (by decide) rfl (pa_cons (pv 0) pa_nil)) (pa_cons (pe_op op_catA (pv 2) (pe_tup (pa_cons pe_int pa_nil))) (pa_cons (pe_slice sl_tup (pv 2) (po_some pe_int) po_none) (pa_cons (pe_tup pa_nil) (pa_cons (pe_make FC.M FI (hr.mono (by decide)) rfl FC.mgC bI .nil passL (pa_cons (pe_tup (pa_cons pe_non pa_nil)) (pa_cons (pe_tup (pa_cons pe_int pa_nil)) pa_nil))) pa_nil))))))) pa_nil))) pa_nil))))) pss_nil)
      (pss_cons (ps_if (pt_cmpR op_eq (pv 4) pe_int (nomark _)) (pss_one (ps_ret (pe_tup (pa_cons (pv 1) (pa_cons (pe_op op_catA (pe_op op_catA (pe_slice sl_tup (pv 2) po_none (po_some (pv 5))) (pe_tup (pa_cons (pcal C_pick hr (by decide) rfl (pa_cons (pv 0) (pa_cons (pe_lst (pa_cons pe_non (pa_cons pe_bl (pa_cons pe_str (pa_cons (pcal C_odd hr (by decide) rfl (pa_cons (pv 0) pa_nil)) (pa_cons (pe_op op_pow pe_int pe_int) (pa_cons (pe_tup (pa_cons pe_int pa_nil)) (pa_cons (pe_make FC.M FI (hr.mono (by decide)) rfl FC.mgC bI .nil passL (pa_cons (pe_tup (pa_cons pe_non pa_nil)) (pa_cons (pe_tup (pa_cons pe_int pa_nil)) pa_nil))) pa_nil)))))))) pa_nil))) pa_nil))) (pe_slice sl_tup (pv 2) (po_some (pe_op op_add (pv 5) pe_int)) po_none)) pa_nil))))) pss_nil)
      (pss_cons (ps_if (pt_cmpR op_eq (pv 4) pe_int (nomark _)) (pss_one (ps_ret (pe_tup (pa_cons (pe_op op_catA (pv 1) (pe_tup (pa_cons pe_non pa_nil))) (pa_cons (pv 2) pa_nil))))) pss_nil)
      (pss_cons (ps_set (i := 6) sc_spoilt.nd rfl (Or.inl rfl) (pcal C_pick hr (by decide) rfl (pa_cons (pv 0) (pa_cons (pcal C_lbelow hr (by decide) rfl (pa_cons (pe_callTy call_list_of (by rfl) T.n_list (by decide +kernel) (pa_cons (pv 1) pa_nil)) (pa_cons (pv 5) pa_nil))) pa_nil))))
      (pss_cons (ps_set (i := 7) sc_spoilt.nd rfl (Or.inl rfl) (pcal C_pick hr (by decide) rfl (pa_cons (pv 0) (pa_cons (pe_lst (pa_cons (pv 6) (pa_cons (pv 6) (pa_cons (pv 5) (pa_cons (pv 3) (pa_cons (pe_un un_neg pe_int) (pa_cons pe_bl (pa_cons pe_str (pa_cons pe_non (pa_cons (pcal C_odd hr (by decide) rfl (pa_cons (pv 0) pa_nil)) (pa_cons (pcal C_take hr (by decide) rfl (pa_cons (pv 0) (pa_cons (pv 3) pa_nil))) (pa_cons (pe_make FC.M FI (hr.mono (by decide)) rfl FC.mgC bI .nil passL (pa_cons (pe_tup (pa_cons pe_non pa_nil)) (pa_cons (pe_tup (pa_cons pe_int pa_nil)) pa_nil))) pa_nil)))))))))))) pa_nil))))
      (pss_one (ps_ret (pe_tup (pa_cons (pe_op op_catA (pe_op op_catA (pe_slice sl_tup (pv 1) po_none (po_some (pv 5))) (pe_tup (pa_cons (pv 7) pa_nil))) (pe_slice sl_tup (pv 1) (po_some (pe_op op_add (pv 5) pe_int)) po_none)) (pa_cons (pv 2) pa_nil)))))))))))))), ?_⟩
    have lm : (ps.map ov).length = ps.length := List.length_map _
    obtain ⟨lh, eh⟩ := HH.lst
    refine ⟨_, rfl, p, _, rfl, .inr (SqT.of hp), ?_⟩
    rw [lm]
    refine ⟨_, rfl, h, l, 10, rfl, HH, by decide, by decide, fun H1 r1 b1 hh1 r10 r11 => ?_⟩
    refine ⟨_, rfl, _, rfl, h, l, _, rfl, hh1, by omega, by omega, fun H2 r2 b2 hh2 r20 r21 => ?_⟩
    obtain ⟨at_, rfl⟩ : ∃ n : Nat, r2 = (n : Int) := ⟨r2.toNat, by omega⟩
    have hat : at_ < ps.length := by omega
    have b12 := b1.trans b2
    have hp2 : H2 p = some (.tup (ps.map ov)) := b12 _ _ (ne_of hp eh (fun z => nomatch z)) hp
    have hq2 : H2 q = some (.tup (ws.map V.int)) := b12 _ _ (ne_of hq eh (fun z => nomatch z)) hq
    obtain ⟨lh2, eh2⟩ := hh2.lst
    have nph : p ≠ h := ne_of hp2 eh2 (fun z => nomatch z)
    have nqh : q ≠ h := ne_of hq2 eh2 (fun z => nomatch z)
    have tp : Thing C h H2 (.ref p) := thing_ov hp2
    have tq : Thing C h H2 (.ref q) := thing_int hq2
    have fin : ∀ H3 t x y, Bt h H2 H3 → Hand H3 h l → H3 t = none → Thing C h H3 x → Thing C h H3 y → Q (.ref t) (L2.upd H3 t (.tup [x, y])) := fun H3 t x y b3 hh3 ht tx ty =>
      k _ t x y ((b12.trans b3).new ht) (hh3.upd ht) upd_same (tx.same (same_upd ht)) (ty.same (same_upd ht))
    clear k
    refine ⟨_, rfl, rfl, _, rfl, iteB (fun e1 => ?_) (fun e1 => ?_)⟩
    · -- turn 0
      refine ⟨_, rfl, _, rfl, p, _, rfl, .inr (SqT.of hp2), fun t1 h1 => ?_⟩
      have b3 : Bt h H2 _ := Bt.of (same_upd (o := .lst (ps.map ov)) h1)
      have hh3 := hh2.upd (o := .lst (ps.map ov)) h1
      have T1 : Thing C h (L2.upd H2 t1 (.lst (ps.map ov))) (.ref t1) := .lst (hh2.nn h1) upd_same
      generalize L2.upd H2 t1 (.lst (ps.map ov)) = H3 at b3 hh3 T1
      refine ⟨_, rfl, h, l, rfl, hh3, fun H4 x b4 hh4 X => ?_⟩
      replace T1 := T1.go hh3 b4
      replace b4 := b3.trans b4
      refine tE_ok fun H5 t2 s5 e2 => ?_
      refine tR_ok (n := 65) (by decide) (by decide) fun H6 t4 s6 e4 => ?_
      refine tR_ok (n := 64) (by decide) (by decide) fun H7 t6 s7 e6 => ?_
      refine tF_ok fun H8 t8 s8 h8 f8 => ?_
      have hh8 := ((hh4.same s5).same s6).same (s7.trans s8)
      refine ⟨small (by show 6 ≤ 100000; decide), fun t9 h9 => ?_⟩
      have s9 := same_upd (o := .lst [V.ref t1, x, V.ref t2, V.ref t4, V.ref t6, V.ref t8]) h9
      have y8 := s8.trans s9
      have y7 := s7.trans y8
      have y6 := s6.trans y7
      have y5 := s5.trans y6
      have hh9 := hh4.same y5
      refine ⟨h, l, t9, _, rfl, hh9, upd_same, hh8.nn h9, by simp, by simp, fun H10 y b10 hh10 hy => ?_⟩
      have tall : Thing C h (L2.upd H8 t9 (.lst [V.ref t1, x, V.ref t2, V.ref t4, V.ref t6, V.ref t8])) y := by
        simp only [List.mem_cons, List.not_mem_nil, or_false] at hy
        rcases hy with rfl | rfl | rfl | rfl | rfl | rfl
        · exact T1.same y5
        · exact X.same y5
        · exact .tup (y6 _ _ e2) (fun y hy => nomatch hy)
        · exact thing_rep (y7 _ _ e4)
        · exact thing_rep (y8 _ _ e6)
        · exact (f8.same s9).thing ((((hh4.same s5).same s6).same s7).nn h8)
      have bb := (b4.trans (Bt.of y5)).trans b10
      exact ⟨_, rfl, small (by show 2 ≤ 100000; decide), fun t ht => fin _ t _ _ bb hh10 ht (tall.go hh9 b10) (tq.go hh2 bb)⟩
    refine ⟨_, rfl, rfl, _, rfl, iteB (fun e2 => ?_) (fun e2 => ?_)⟩
    · -- turn 1
      refine ⟨_, rfl, _, rfl, _, rfl, q, _, rfl, .inr (SqT.of hq2), fun t1 h1 => ?_⟩
      have b3 : Bt h H2 _ := Bt.of (same_upd (o := .lst (ws.map V.int)) h1)
      have hh3 := hh2.upd (o := .lst (ws.map V.int)) h1
      have T1 : Thing C h (L2.upd H2 t1 (.lst (ws.map V.int))) (.ref t1) := .lst (hh2.nn h1) upd_same
      generalize L2.upd H2 t1 (.lst (ws.map V.int)) = H3 at b3 hh3 T1
      refine ⟨_, rfl, h, l, rfl, hh3, fun H4 x b4 hh4 X => ?_⟩
      replace T1 := T1.go hh3 b4
      replace b4 := b3.trans b4
      have hq4 := b4 _ _ nqh hq2
      refine ⟨_, rfl, t1_ok fun H5 t2 s5 e5 => catA_of (s5 _ _ hq4) e5 (by rw [List.length_map]; show ws.length + 1 ≤ 100000; omega) fun t3 H6 s6 e6 => ?_⟩
      refine ⟨_, rfl, 1, rfl, ?_⟩
      unfold tNoPart
      show rSlT K (V.ref q) (some 1) none H6 _
      refine slT_of (s6 _ _ (s5 _ _ hq4)) (by rw [List.length_map]; exact six_from _ 0 (by omega)) fun t4 h4 => ?_
      have s7 := same_upd (o := .tup (cutV (ws.map V.int) (some 1) none)) h4
      have e7 : (L2.upd H6 t4 (.tup (cutV (ws.map V.int) (some 1) none))) t4 = some (.tup ((ws.drop 1).map V.int)) := by
        rw [upd_same, show cutV (ws.map V.int) (some (1 : Int)) none = (ws.map V.int).drop 1 from cut_from _ 1 (by rw [List.length_map]; omega), List.map_drop]
      generalize L2.upd H6 t4 (.tup (cutV (ws.map V.int) (some 1) none)) = H7 at s7 e7
      refine tE_ok fun H8 t5 s8 e8 => ?_
      refine tF_ok fun H9 t6 s9 h9 f9 => ?_
      have z8 := s5.trans (s6.trans (s7.trans s8))
      have hh9 := hh4.same (z8.trans s9)
      refine ⟨small (by show 6 ≤ 100000; decide), fun t9 h10 => ?_⟩
      have s10 := same_upd (o := .lst [V.ref t1, x, V.ref t3, V.ref t4, V.ref t5, V.ref t6]) h10
      have y9 := s9.trans s10
      have y8 := s8.trans y9
      have y7 := s7.trans y8
      have y6 := s6.trans y7
      have y5 := s5.trans y6
      have hh10 := hh4.same y5
      refine ⟨h, l, t9, _, rfl, hh10, upd_same, hh9.nn h10, by simp, by simp, fun H11 y b11 hh11 hy => ?_⟩
      have tall : Thing C h (L2.upd H9 t9 (.lst [V.ref t1, x, V.ref t3, V.ref t4, V.ref t5, V.ref t6])) y := by
        simp only [List.mem_cons, List.not_mem_nil, or_false] at hy
        rcases hy with rfl | rfl | rfl | rfl | rfl | rfl
        · exact T1.same y5
        · exact X.same y5
        · refine thing_int (ws := ws ++ [0]) ?_
          rw [List.map_append]
          exact y7 _ _ e6
        · exact thing_int (y8 _ _ e7)
        · exact .tup (y9 _ _ e8) (fun y hy => nomatch hy)
        · exact (f9.same s10).thing ((hh4.same z8).nn h9)
      have bb := (b4.trans (Bt.of y5)).trans b11
      exact ⟨small (by show 2 ≤ 100000; decide), fun t ht => fin _ t _ _ bb hh11 ht (tp.go hh2 bb) (tall.go hh10 b11)⟩
    refine ⟨_, rfl, rfl, _, rfl, iteB (fun e3 => ?_) (fun e3 => ?_)⟩
    · -- turn 2
      refine ⟨_, rfl, _, rfl, ?_⟩
      unfold tNoPart
      refine ⟨_, rfl, at_, rfl, ?_⟩
      show rSlT K (V.ref q) none (some (at_ : Int)) H2 _
      refine slT_of hq2 (by rw [List.length_map]; exact six_to _ _ (by omega)) fun t0 h0 => ?_
      have s3 := same_upd (o := .tup (cutV (ws.map V.int) none (some (at_ : Int)))) h0
      have e0 : (L2.upd H2 t0 (.tup (cutV (ws.map V.int) none (some (at_ : Int))))) t0 = some (.tup ((ws.take at_).map V.int)) := by
        rw [upd_same, cut_to _ _ (by rw [List.length_map]; omega), List.map_take]
      generalize L2.upd H2 t0 (.tup (cutV (ws.map V.int) none (some (at_ : Int)))) = H3 at s3 e0
      have hh3 := hh2.same s3
      obtain ⟨lh3, eh3⟩ := hh3.lst
      have n0h : t0 ≠ h := ne_of e0 eh3 (fun z => nomatch z)
      refine ⟨_, rfl, _, rfl, h, l, rfl, hh3, fun H4 x b4 hh4 X => ?_⟩
      refine ⟨10, 19, rfl, rfl, ⟨by decide, by decide, by decide⟩, ?_⟩
      refine t1_ok fun H5 t5 s5 e5 => ?_
      refine tF_ok fun H6 t6 s6 h6 f6 => ?_
      have hh6 := (hh4.same s5).same s6
      refine ⟨small (by show 7 ≤ 100000; decide), fun t7 h7 => ?_⟩
      have s7 := same_upd (o := .lst [V.non, V.bl true, V.str "0", x, V.int (10 ^ Int.toNat 19), V.ref t5, V.ref t6]) h7
      have y6 := s6.trans s7
      have y5 := s5.trans y6
      have hh7 := hh4.same y5
      refine ⟨h, l, t7, _, rfl, hh7, upd_same, hh6.nn h7, by simp, by simp, fun H8 y b8 hh8 hy => ?_⟩
      have tall : Thing C h (L2.upd H6 t7 (.lst [V.non, V.bl true, V.str "0", x, V.int (10 ^ Int.toNat 19), V.ref t5, V.ref t6])) y := by
        simp only [List.mem_cons, List.not_mem_nil, or_false] at hy
        rcases hy with rfl | rfl | rfl | rfl | rfl | rfl | rfl
        · exact .flat .non (fun b z => nomatch z)
        · exact .flat (.bl _) (fun b z => nomatch z)
        · exact .flat (.str _) (fun b z => nomatch z)
        · exact X.same y5
        · exact .flat (.int _) (fun b z => nomatch z)
        · exact thing_int (ws := [0]) (y6 _ _ e5)
        · exact (f6.same s7).thing ((hh4.same s5).nn h6)
      have b38 := (b4.trans (Bt.of y5)).trans b8
      have b28 := (Bt.of (h := h) s3).trans b38
      have Y := tall.go hh7 b8
      have e8 := b38 _ _ n0h e0
      refine ⟨small (by show 1 ≤ 100000; decide), fun t8 h8 => ?_⟩
      have s9 := same_upd (o := .tup [y]) h8
      refine catA_of (s9 _ _ e8) upd_same (by rw [List.length_map, List.length_take]; show min _ _ + 1 ≤ 100000; omega) fun t9 H10 s10 e10 => ?_
      have z10 := s9.trans s10
      have q10 := z10 _ _ (b28 _ _ nqh hq2)
      refine ⟨_, rfl, _, rfl, _, _, rfl, rfl, _, rfl, ?_⟩
      show rSlT K (V.ref q) (some ((at_ : Int) + 1)) none H10 _
      refine slT_of q10 (by rw [List.length_map]; exact six_from _ at_ (by omega)) fun t11 h11 => ?_
      have s11 := same_upd (o := .tup (cutV (ws.map V.int) (some ((at_ : Int) + 1)) none)) h11
      have e11 : (L2.upd H10 t11 (.tup (cutV (ws.map V.int) (some ((at_ : Int) + 1)) none))) t11 = some (.tup ((ws.drop (at_ + 1)).map V.int)) := by
        rw [upd_same, show cutV (ws.map V.int) (some ((at_ : Int) + 1)) none = (ws.map V.int).drop (at_ + 1) from cut_from _ (at_ + 1) (by rw [List.length_map]; omega), List.map_drop]
      generalize L2.upd H10 t11 (.tup (cutV (ws.map V.int) (some ((at_ : Int) + 1)) none)) = H11 at s11 e11
      refine catA_of (s11 _ _ e10) e11 (by rw [List.length_append, List.length_map, List.length_map, List.length_take, List.length_drop]; show min _ _ + 1 + _ ≤ 100000; omega) fun t12 H12 s12 e12 => ?_
      have z12 := z10.trans (s11.trans s12)
      have hh12 := hh8.same z12
      have bb := b28.trans (Bt.of z12)
      refine ⟨small (by show 2 ≤ 100000; decide), fun t ht => fin _ t _ _ bb hh12 ht (tp.go hh2 bb) (.tup e12 fun z hz => ?_)⟩
      rcases List.mem_append.mp hz with hz | hz
      · rcases List.mem_append.mp hz with hz | hz
        · obtain ⟨o, _, rfl⟩ := List.mem_map.mp hz
          exact .int _
        · rw [List.mem_singleton] at hz
          subst hz
          exact Y.any.same z12
      · obtain ⟨o, _, rfl⟩ := List.mem_map.mp hz
        exact .int _
    refine ⟨_, rfl, rfl, _, rfl, iteB (fun e4 => ?_) (fun e4 => ?_)⟩
    · -- turn 3
      refine ⟨_, rfl, t1_ok fun H3 t1 s3 e3' => ?_⟩
      refine catA_of (s3 _ _ hp2) e3' (by rw [List.length_map]; show ps.length + 1 ≤ 100000; omega) fun t4 H4 s4 e4' => ?_
      have z4 := s3.trans s4
      refine ⟨_, rfl, small (by show 2 ≤ 100000; decide), fun t ht => fin _ t _ _ (Bt.of z4) (hh2.same z4) ht (thing_ov (ps := ps ++ [none]) ?_) (tq.same z4)⟩
      rw [List.map_append]
      exact e4'
    -- a house below
    refine ⟨_, rfl, _, rfl, p, _, rfl, .inr (SqT.of hp2), fun t1 h1 => ?_⟩
    have s3 := same_upd (o := .lst (ps.map ov)) h1
    have e1' : (L2.upd H2 t1 (.lst (ps.map ov))) t1 = some (.lst (ps.map ov)) := upd_same
    generalize L2.upd H2 t1 (.lst (ps.map ov)) = H3 at s3 e1'
    refine ⟨_, rfl, t1, ps, at_, rfl, .inl e1', TR, p64, hat, fun H4 t4 s4 h4 e4' => ?_⟩
    have hh4 := (hh2.same s3).same s4
    have bl := bel_len ps at_
    have bm : at_ ∈ bel ps at_ := bel_mem.mpr ⟨hat, by
      obtain ⟨r, e⟩ := (TR at_ hat).1.head
      rw [e]
      simp⟩
    refine ⟨h, l, t4, _, rfl, hh4, e4', (hh2.same s3).nn h4, by rw [List.length_map]; exact List.length_pos_of_mem bm, by rw [List.length_map]; omega, fun H5 low b5 hh5 hlow => ?_⟩
    obtain ⟨lo, _, rfl⟩ := List.mem_map.mp hlow
    have b25 := (Bt.of (h := h) (s3.trans s4)).trans b5
    refine ⟨_, rfl, _, rfl, _, rfl, _, rfl, _, rfl, 1, rfl, _, rfl, h, l, rfl, hh5, fun H6 x b6 hh6 X => ?_⟩
    refine ⟨_, rfl, _, rfl, h, l, _, rfl, hh6, by omega, by omega, fun H7 n b7 hh7 _ _ => ?_⟩
    refine tF_ok fun H8 t8 s8 h8 f8 => ?_
    have hh8 := hh7.same s8
    refine ⟨small (by show 11 ≤ 100000; decide), fun t9 h9 => ?_⟩
    have s9 := same_upd (o := .lst [nv lo, nv lo, nv at_, nv ps.length, V.int (-1), V.bl true, V.str "0", V.non, x, V.int n, V.ref t8]) h9
    have hh9 := hh8.same s9
    refine ⟨h, l, t9, _, rfl, hh9, upd_same, hh8.nn h9, by simp, by simp, fun H10 y b10 hh10 hy => ?_⟩
    have tall : Any C h (L2.upd H8 t9 (.lst [nv lo, nv lo, nv at_, nv ps.length, V.int (-1), V.bl true, V.str "0", V.non, x, V.int n, V.ref t8])) y := by
      simp only [List.mem_cons, List.not_mem_nil, or_false] at hy
      rcases hy with rfl | rfl | rfl | rfl | rfl | rfl | rfl | rfl | rfl | rfl | rfl
      · exact .int _
      · exact .int _
      · exact .int _
      · exact .int _
      · exact .int _
      · exact .bl _
      · exact .str _
      · exact .non
      · exact ((X.go hh6 b7).same (s8.trans s9)).any
      · exact .int _
      · exact ((f8.same s9).thing (hh7.nn h8)).any
    have b59 := (b6.trans b7).trans (Bt.of (h := h) (s8.trans s9))
    have b210 := (b25.trans b59).trans b10
    obtain ⟨lh9, eh9⟩ := hh9.lst
    have Y := tall.bt eh9 b10
    have hp10 := b210 _ _ nph hp2
    refine ⟨_, rfl, ?_⟩
    unfold tNoPart
    refine ⟨_, rfl, at_, rfl, ?_⟩
    show rSlT K (V.ref p) none (some (at_ : Int)) H10 _
    refine slT_of hp10 (by rw [List.length_map]; exact six_to _ _ (by omega)) fun t0 h0 => ?_
    have s11 := same_upd (o := .tup (cutV (ps.map ov) none (some (at_ : Int)))) h0
    have e0 : (L2.upd H10 t0 (.tup (cutV (ps.map ov) none (some (at_ : Int))))) t0 = some (.tup ((ps.take at_).map ov)) := by
      rw [upd_same, cut_to _ _ (by rw [List.length_map]; omega), List.map_take]
    generalize L2.upd H10 t0 (.tup (cutV (ps.map ov) none (some (at_ : Int)))) = H11 at s11 e0
    refine ⟨_, rfl, small (by show 1 ≤ 100000; decide), fun t12 h12 => ?_⟩
    have s12 := same_upd (o := .tup [y]) h12
    refine catA_of (s12 _ _ e0) upd_same (by rw [List.length_map, List.length_take]; show min _ _ + 1 ≤ 100000; omega) fun t13 H13 s13 e13 => ?_
    have z13 := s11.trans (s12.trans s13)
    refine ⟨_, rfl, _, rfl, _, _, rfl, rfl, _, rfl, ?_⟩
    show rSlT K (V.ref p) (some ((at_ : Int) + 1)) none H13 _
    refine slT_of (z13 _ _ hp10) (by rw [List.length_map]; exact six_from _ at_ (by omega)) fun t14 h14 => ?_
    have s14 := same_upd (o := .tup (cutV (ps.map ov) (some ((at_ : Int) + 1)) none)) h14
    have e14 : (L2.upd H13 t14 (.tup (cutV (ps.map ov) (some ((at_ : Int) + 1)) none))) t14 = some (.tup ((ps.drop (at_ + 1)).map ov)) := by
      rw [upd_same, show cutV (ps.map ov) (some ((at_ : Int) + 1)) none = (ps.map ov).drop (at_ + 1) from cut_from _ (at_ + 1) (by rw [List.length_map]; omega), List.map_drop]
    generalize L2.upd H13 t14 (.tup (cutV (ps.map ov) (some ((at_ : Int) + 1)) none)) = H14 at s14 e14
    refine catA_of (s14 _ _ e13) e14 (by rw [List.length_append, List.length_map, List.length_map, List.length_take, List.length_drop]; show min _ _ + 1 + _ ≤ 100000; omega) fun t15 H15 s15 e15 => ?_
    have z15 := z13.trans (s14.trans s15)
    have bb := b210.trans (Bt.of z15)
    refine ⟨_, rfl, small (by show 2 ≤ 100000; decide), fun t ht => fin _ t _ _ bb (hh10.same z15) ht (.tup e15 fun z hz => ?_) (tq.go hh2 bb)⟩
    rcases List.mem_append.mp hz with hz | hz
    · rcases List.mem_append.mp hz with hz | hz
      · obtain ⟨o, _, rfl⟩ := List.mem_map.mp hz
        exact any_ov o
      · rw [List.mem_singleton] at hz
        subst hz
        exact Y.same z15
    · obtain ⟨o, _, rfl⟩ := List.mem_map.mp hz
      exact any_ov o

end
end W2
namespace W2
open PySem PySem.Spec PyProof.Rows L2
section
variable {P : Program} {w : World} {K : PySem.W.Frag} {mg : Str → Option Value} {base : Heap} {C fI fE CB fB : Addr}
theorem ok_made (D : Def K mg "_law_made" s_made ["parents", "worths"]) (T : Txt K mg)  (FC : ForC K mg C fI fE CB fB) {fdI : FuncData} (FI : FnOk P w K mg base (L2.CX P w) 4 fI fdI ["self", "parents", "worths"] (spInit C CB)) (bI : Binds K fdI ["self", "parents", "worths"] []) : Cal P w K mg base 6 "_law_made" ["parents", "worths"] (spMade C) := by
  refine D.cal sc_made (fun vs H Q E h => ?_) (fun f cdv A outer s H vs Q E hr h => ?_)
  · obtain ⟨h, y, z, rfl, _⟩ := h
    rfl
  · obtain ⟨h, y, z, rfl, ty, tz, k1, k2, k3⟩ := h
    refine ⟨_, (pss_one (ps_try_as (i := 3) (tb := fun W => tSeq (tAsg (tMakeS C (spInit C CB) (WE W) (tCons (tVar 0) (tCons (tVar 1) tNil))) (gName 2)) (tRet (tTup (tCons (tC (.str "told")) (tCons (tFld K (tVar 2) "parents") (tCons (tFld K (tVar 2) "worths") tNil)))))) (ts := fun a cls d => tRet (tTup (tCons (tC (.str "BadForest")) (tCons (tBy_BadForest CB a cls d (tVar 3)) tNil)))) (Wout := fun _ _ _ _ => False) rfl rfl sc_made.nd rfl rfl ⟨rfl, by decide, Or.inl FC.bad.gC⟩ takes0
      (fun W pn xe tk _ => pss_cons (ps_set (i := 2) sc_made.nd rfl (Or.inl rfl) (pe_makeS FC.M FI (hr.mono (by decide)) rfl FC.mgC bI (fun σ => passAt tk σ) (by exact (pa_cons (pv 0) (pa_cons (pv 1) pa_nil))))) (pss_one (ps_ret (pe_tup (pa_cons pe_str (pa_cons (pe_fld (pv 2) rfl) (pa_cons (pe_fld (pv 2) rfl) pa_nil)))))))
      (fun a oe cls d pn hz hf => pss_one (ps_ret (pe_tup (pa_cons pe_str (pa_cons (by exact (pe_by_BadForest FC.bad hz hf (pv 3))) pa_nil))))))), ?_⟩
    refine ⟨_, rfl, _, rfl, fun x dx hx hdx ne => ?_⟩
    have hx1 : (L2.upd H dx (.own x)) x = none := by rw [upd_ne ne.symm]; exact hx
    have s : L2.Same H (L2.upd (L2.upd H dx (.own x)) x (.ins C dx [])) := (same_upd hdx).trans (same_upd hx1)
    have bad : ∀ p : Str, RetT [.str "BadForest", .str p] H Q → BadE CB p (L2.upd (L2.upd H dx (.own x)) x (.ins C dx [])) (WE (wAs K (Value.ref CB) 3
            (fun a cls d =>
              tRet
                (tTup (tCons (tC (V.str "BadForest")) (tCons (tBy_BadForest CB a cls d (tVar 3)) tNil))))
            (fun x x_1 x_2 x_3 => False) { nx := fun x H' => Q V.non H', rt := Q }) (L2.start ["parents", "worths", "forest", "error"] [y, z])) := fun p r H1 d s1 hd e1 => by
      have sm : L2.Same H H1 := fun c o e => s1 c o (s c o e)
      refine ⟨true, FC.bad.te, fun _ a0 _ => ?_, fun q => Bool.noConfusion q⟩
      exact ⟨_, rfl, rfl, rfl, d, _, rfl, e1, small (by show 2 ≤ 100000; decide), fun t ht => r _ t (sm.trans (same_upd ht)) (sm.free ht) upd_same⟩
    refine ⟨h, x, dx, y, z, rfl, upd_same, ty.same s, tz.same s, fun a ps b ws oy oz H1 bt e1 => ⟨rfl, ?_⟩, fun n => bad _ (k2 fun ⟨a, ps, o⟩ => n ⟨a, ps, o.same s⟩), fun a ps oy n => ?_⟩
    · obtain ⟨rfl, ea, r1⟩ := id oy
      obtain ⟨rfl, eb, r2⟩ := id oz
      have ea0 := ty.any.tup_back (fun c o _ q => s c o q) (fun ys q => s _ _ q) ea
      have eb0 := tz.any.tup_back (fun c o _ q => s c o q) (fun ys q => s _ _ q) eb
      have sm : L2.Same H H1 := fun c o e => bt c o (ne_of_none e hx) (s c o e)
      refine ⟨_, rfl, x, C, dx, _, _, rfl, e1, FC.own.cl, FC.nP, pf_parents a b, _, rfl, x, C, dx, _, _, rfl, e1, FC.own.cl, FC.nW, pf_worths a b, small (by show 3 ≤ 100000; decide), fun t ht => ?_⟩
      exact k1 a ps b ws ⟨rfl, ea0, r1⟩ ⟨rfl, eb0, r2⟩ _ t (sm.trans (same_upd ht)) (sm.free ht) upd_same
    · obtain ⟨rfl, ea, r1⟩ := id oy
      have ea0 := ty.any.tup_back (fun c o _ q => s c o q) (fun ys q => s _ _ q) ea
      exact bad _ (k3 a ps ⟨rfl, ea0, r1⟩ fun ⟨b, ws, o⟩ => n ⟨b, ws, o.same s⟩)

end
end W2
namespace W2
open PySem PySem.Spec PyProof.Rows L2
section
variable {P : Program} {w : World} {K : PySem.W.Frag} {mg : Str → Option Value} {base : Heap} {C fI fE CB fB : Addr}
theorem ok_law {f0 : Addr} {fd0 : FuncData} (F : Fun K "law" "law" s_law f0 fd0) (T : Txt K mg) (C_lhand : Cal P w K mg base 1 "_law_hand" ["script"] (spHand K)) (C_plain : Cal P w K mg base 4 "_law_plain" ["hand", "sizes"] spPlain) (C_many : Cal P w K mg base 1 "many" ["forest"] (spMany C)) (C_spoilt : Cal P w K mg base 6 "_law_spoilt" ["hand", "parents", "worths"] (spSpoilt C)) (C_bad : Cal P w K mg base 4 "_law_bad" ["parents", "worths"] (spBad C)) (C_made : Cal P w K mg base 6 "_law_made" ["parents", "worths"] (spMade C)) (FC : ForC K mg C fI fE CB fB) {fdI : FuncData} (FI : FnOk P w K mg base (L2.CX P w) 4 fI fdI ["self", "parents", "worths"] (spInit C CB)) (bI : Binds K fdI ["self", "parents", "worths"] []) {fdE : FuncData} (FE : FnOk P w K mg base CX0 1 fE fdE ["self", "other"] (spEq C)) (bE : Binds K fdE ["self", "other"] []) (C_same : Cal P w K mg base 6 "_law_same" ["actual", "due"] (spSame 4)) : FnOk P w K mg base CX0 10 f0 fd0 ["script"] (spLaw K) := by
  refine F.ok sc_law (fun vs H Q E h => ?_) (fun cdv A outer s H vs Q E hr h => ?_)
  · obtain ⟨a, ns, rfl, _⟩ := h
    rfl
  · obtain ⟨sa, ns, rfl, hS, hlen, k⟩ := h
    refine ⟨_, (pss_cons (ps_set (i := 1) sc_law.nd rfl (Or.inl rfl) (pcal C_lhand hr (by decide) rfl (pa_cons (pv 0) pa_nil)))
      (pss_cons (ps_set (i := 2) sc_law.nd rfl (Or.inl rfl) (pcal C_plain hr (by decide) rfl (pa_cons (pv 1) (pa_cons (pe_lst (pa_cons pe_int (pa_cons pe_int (pa_cons pe_int (pa_cons pe_int (pa_cons pe_int (pa_cons pe_int (pa_cons pe_int pa_nil)))))))) pa_nil))))
      (pss_cons (ps_set (i := 3) sc_law.nd rfl (Or.inl rfl) (pe_callTy call_tuple_of (by rfl) T.n_tuple (by decide +kernel) (pa_cons (pe_ix (ix_listK (K := K) rfl) (pv 2) pe_int (fun _ _ => rfl)) pa_nil)))
      (pss_cons (ps_set (i := 4) sc_law.nd rfl (Or.inl rfl) (pe_callTy call_tuple_of (by rfl) T.n_tuple (by decide +kernel) (pa_cons (pe_ix (ix_listK (K := K) rfl) (pv 2) pe_int (fun _ _ => rfl)) pa_nil)))
      (pss_cons (ps_set (i := 5) sc_law.nd rfl (Or.inl rfl) (pe_make FC.M FI (hr.mono (by decide)) rfl FC.mgC bI .nil passL (pa_cons (pv 3) (pa_cons (pv 4) pa_nil))))
      (pss_cons (ps_if (PW.pt (pw_or (pt_not (pt_val (pcal C_same hr (by decide) rfl (pa_cons (pcal C_many hr (by decide) rfl (pa_cons (pv 5) pa_nil)) (pa_cons (pe_callB (call_lenK (K := K) rfl) (by rfl) T.n_len PySem.boot_len (pa_cons (pv 3) pa_nil)) pa_nil))))) (pw_or1 (pt_not (pt_val (pcal C_same hr (by decide) rfl (pa_cons (pe_tup (pa_cons (pe_fld (pv 5) rfl) (pa_cons (pe_fld (pv 5) rfl) pa_nil))) (pa_cons (pe_tup (pa_cons (pv 3) (pa_cons (pv 4) pa_nil))) pa_nil)))))))) (pss_one (ps_ret pe_bl)) pss_nil)
      (pss_cons (ps_for PassesOwn.never rfl (pi_range1 rfl T.n_range (pa_cons pe_int pa_nil)) (pg_name (i := 6) sc_law.nd rfl (Or.inl rfl)) (pss_cons (ps_set (i := 7) sc_law.nd rfl (Or.inl rfl) (pcal C_spoilt hr (by decide) rfl (pa_cons (pv 1) (pa_cons (pv 3) (pa_cons (pv 4) pa_nil)))))
      (pss_cons (ps_set (i := 8) sc_law.nd rfl (Or.inl rfl) (pcal C_bad hr (by decide) rfl (pa_cons (pe_ix (ix_tupK (K := K) rfl) (pv 7) pe_int (fun _ _ => rfl)) (pa_cons (pe_ix (ix_tupK (K := K) rfl) (pv 7) pe_int (fun _ _ => rfl)) pa_nil))))
      (pss_cons (ps_set (i := 9) sc_law.nd rfl (Or.inl rfl) (pe_tup (pa_cons pe_str (pa_cons (pv 8) pa_nil))))
      (pss_cons (ps_if (pt_cmpR op_isN (pv 8) pe_non (nomark _)) (pss_one (ps_set (i := 9) sc_law.nd rfl (Or.inl rfl) (pe_tup (pa_cons pe_str (pa_cons (pe_ix (ix_tupK (K := K) rfl) (pv 7) pe_int (fun _ _ => rfl)) (pa_cons (pe_ix (ix_tupK (K := K) rfl) (pv 7) pe_int (fun _ _ => rfl)) pa_nil)))))) pss_nil)
      (pss_cons (ps_if (pt_not (pt_val (pcal C_same hr (by decide) rfl (pa_cons (pcal C_made hr (by decide) rfl (pa_cons (pe_ix (ix_tupK (K := K) rfl) (pv 7) pe_int (fun _ _ => rfl)) (pa_cons (pe_ix (ix_tupK (K := K) rfl) (pv 7) pe_int (fun _ _ => rfl)) pa_nil))) (pa_cons (pv 9) pa_nil))))) (pss_one (ps_ret pe_bl)) pss_nil)
      (pss_one (ps_if (PW.pt (pw_and (pt_cmpR op_isN (pv 8) pe_non (nomark _)) (pw_and1 (pt_cmpR op_ne (pe_cmpR (op_eqI FC.eq1 FC.eq2 FE bE hr (by decide)) (pe_make FC.M FI (hr.mono (by decide)) rfl FC.mgC bI .nil passL (pa_cons (pe_ix (ix_tupK (K := K) rfl) (pv 7) pe_int (fun _ _ => rfl)) (pa_cons (pe_ix (ix_tupK (K := K) rfl) (pv 7) pe_int (fun _ _ => rfl)) pa_nil))) (pv 5) (nomark _)) (pe_cmpR (op_eqD hr.units) (pv 7) (pe_tup (pa_cons (pv 3) (pa_cons (pv 4) pa_nil))) (nomark _)) (nomark _))))) (pss_one (ps_ret pe_bl)) pss_nil))))))))
      (pss_one (ps_ret (pe_and (pe_cmpR (op_eqI FC.eq1 FC.eq2 FE bE hr (by decide)) (pv 5) (pe_make FC.M FI (hr.mono (by decide)) rfl FC.mgC bI .nil passL (pa_cons (pv 3) (pa_cons (pv 4) pa_nil))) (nomark _)) (pe_one (pe_not (pe_cmpR (op_eqI FC.eq1 FC.eq2 FE bE hr (by decide)) (pv 5) (pe_tup (pa_cons (pv 3) (pa_cons (pv 4) pa_nil))) (nomark _)))))))))))))), ?_⟩
    refine ⟨_, rfl, sa, ns, rfl, hS, fun H1 h l s1 hh0 hand1 => ?_⟩
    refine ⟨_, rfl, small (by show 7 ≤ 100000; decide), fun t ht => ?_⟩
    obtain ⟨lh1, eh1⟩ := hand1.lst
    have nth : t ≠ h := (ne_of_none eh1 ht).symm
    refine ⟨h, l, t, [1, 2, 3, 5, 9, 17, 64], rfl, hand1.upd ht, upd_same, nth, by decide, by decide, by decide, fun H2 pl p q ps ws b2 hand2 hpl hp hq ePl eP eQ TR n1 n64 lw => ?_⟩
    refine ⟨_, rfl, pl, _, _, _, rfl, rfl, SqL.of ePl, rfl, p, _, rfl, .inl ⟨SqL.of eP, fun a ha => ?_⟩⟩
    have s3 := same_upd (o := .tup (ps.map ov)) ha
    have ea : (L2.upd H2 a (.tup (ps.map ov))) a = some (.tup (ps.map ov)) := upd_same
    generalize L2.upd H2 a (.tup (ps.map ov)) = H3 at s3 ea
    refine ⟨_, rfl, pl, _, _, _, rfl, rfl, SqL.of (s3 _ _ ePl), rfl, q, _, rfl, .inl ⟨SqL.of (s3 _ _ eQ), fun b hb => ?_⟩⟩
    have s4 := same_upd (o := .tup (ws.map V.int)) hb
    have eb : (L2.upd H3 b (.tup (ws.map V.int))) b = some (.tup (ws.map V.int)) := upd_same
    generalize L2.upd H3 b (.tup (ws.map V.int)) = H4 at s4 eb
    refine ⟨_, rfl, _, rfl, fun f dx hf hdx nef => ?_⟩
    refine made_okR ⟨rfl, s4 _ _ ea, TR, n1, n64⟩ ⟨rfl, eb, lw⟩ hf hdx nef fun H5 s5 F5 => ⟨rfl, ?_⟩
    have g5 : Good C H5 h l f ps ws dx a b := ⟨((hand2.same s3).same s4).same s5, F5⟩
    refine ⟨_, rfl, f, ps, ws, rfl, ⟨_, _, _, g5.F⟩, fun H6 s6 => ?_⟩
    have g6 := g5.same s6
    refine ⟨_, rfl, a, _, rfl, .inr (SqT.of g6.F.p), _, _, rfl, .inr (.inl ⟨(ps.length : Int), rfl, by rw [List.length_map]⟩), fun H7 s7 => ⟨true, rfl, iteF ?_⟩⟩
    have g7 := g6.same s7
    refine ⟨_, rfl, f, C, dx, _, _, rfl, g7.F.o, FC.own.cl, FC.nP, pf_parents a b, _, rfl, f, C, dx, _, _, rfl, g7.F.o, FC.own.cl, FC.nW, pf_worths a b, small (by show 2 ≤ 100000; decide), fun t1 h1 => ?_⟩
    have s8 := same_upd (o := .tup [V.ref a, V.ref b]) h1
    have e1 : (L2.upd H7 t1 (.tup [V.ref a, V.ref b])) t1 = some (.tup [V.ref a, V.ref b]) := upd_same
    generalize L2.upd H7 t1 (.tup [V.ref a, V.ref b]) = H8 at s8 e1
    refine ⟨_, rfl, _, rfl, small (by show 2 ≤ 100000; decide), fun t2 h2 => ?_⟩
    have s9 := same_upd (o := .tup [V.ref a, V.ref b]) h2
    have e2 : (L2.upd H8 t2 (.tup [V.ref a, V.ref b])) t2 = some (.tup [V.ref a, V.ref b]) := upd_same
    generalize L2.upd H8 t2 (.tup [V.ref a, V.ref b]) = H9 at s9 e2
    have g9 := (g7.same s8).same s9
    refine ⟨_, _, rfl, eqs_tup (s9 _ _ e1) e2 (fun z hz => ?_), fun H10 s10 => ⟨true, rfl, iteF ?_⟩⟩
    · simp only [List.mem_cons, List.not_mem_nil, or_false] at hz
      rcases hz with rfl | rfl
      · exact eqs_ps g9.F.p
      · exact eqs_ws g9.F.w
    have g10 := g9.same s10
    clear hpl hp hq hf hdx
    refine ⟨_, rfl, by decide, by decide, ?_⟩
    refine for_range (lo := 0) (n := 6) (fun i σ H' => ∃ v6 v7 v8 v9 : Option V, σ = [some (.ref sa), some (.ref h), some (.ref pl), some (.ref a), some (.ref b), some (.ref f), v6, v7, v8, v9] ∧ Good C H' h l f ps ws dx a b)
      ⟨none, none, none, none, rfl, g10⟩ ?_ ?_
    · rintro i σ H4 hi ⟨v6, v7, v8, v9, rfl, g4⟩
      refine ⟨_, rfl, _, rfl, _, rfl, h, l, a, b, ps, ws, rfl, g4.hand, g4.F.p, g4.F.w, TR, n1, n64, lw, fun H5 t x y b5 hh5 et tx ty => ?_⟩
      obtain ⟨lh4, eh4⟩ := g4.hand.lst
      have g5 : Good C H5 h l f ps ws dx a b := ⟨hh5, g4.F.bt eh4 b5⟩
      by_cases ox : ∃ a' ps', OkP H5 x a' ps'
      · obtain ⟨a', ps', ox⟩ := ox
        by_cases oy : ∃ b' ws', OkW H5 y ps'.length b' ws'
        · obtain ⟨b', ws', oy⟩ := oy
          refine ⟨_, rfl, t, _, _, _, rfl, rfl, SqT.of et, rfl, _, rfl, t, _, _, _, rfl, rfl, SqT.of et, rfl, h, x, y, rfl, tx, ty, fun _ _ _ _ _ _ H6 s6 => ?_, fun n => absurd ⟨_, _, ox⟩ n, fun a'' ps'' o n => absurd ⟨b', ws', by rw [ox.det o]; exact oy⟩ n⟩
          refine ⟨_, rfl, small (by show 2 ≤ 100000; decide), fun t0 h0 => ?_⟩
          have s7 := same_upd (o := .tup [V.str "BadForest", V.non]) h0
          generalize L2.upd H6 t0 (.tup [V.str "BadForest", V.non]) = H7 at s7
          refine ⟨_, rfl, rfl, _, rfl, ?_⟩
          have s57 := s6.trans s7
          have et7 := s57 _ _ et
          refine ⟨_, rfl, t, _, _, _, rfl, rfl, SqT.of et7, rfl, _, rfl, t, _, _, _, rfl, rfl, SqT.of et7, rfl, small (by show 3 ≤ 100000; decide), fun t8 h8 => ?_⟩
          have s8 := same_upd (o := .tup [V.str "told", x, y]) h8
          have e8 : (L2.upd H7 t8 (.tup [V.str "told", x, y])) t8 = some (.tup [V.str "told", x, y]) := upd_same
          generalize L2.upd H7 t8 (.tup [V.str "told", x, y]) = H8 at s8 e8
          have s58 := s57.trans s8
          have et8 := s58 _ _ et
          have ox8 := ox.same s58
          have oy8 := oy.same s58
          refine ⟨_, rfl, t, _, _, _, rfl, rfl, SqT.of et8, rfl, _, rfl, t, _, _, _, rfl, rfl, SqT.of et8, rfl, h, x, y, rfl, tx.same s58, ty.same s58, fun _ _ _ _ _ _ H9 t9 s9 _ e9 => ?_, fun n => absurd ⟨_, _, ox8⟩ n, fun a'' ps'' o n => absurd ⟨b', ws', by rw [ox8.det o]; exact oy8⟩ n⟩
          have s59 := s58.trans s9
          have ox9 := ox8.same s9
          have oy9 := oy8.same s9
          refine ⟨_, rfl, _, _, rfl, eqs_tup e9 (s9 _ _ e8) (fun z hz => ?_), fun H10 s10 => ⟨true, rfl, iteF ?_⟩⟩
          · simp only [List.mem_cons, List.not_mem_nil, or_false] at hz
            rcases hz with rfl | rfl | rfl
            · exact eqs_str _
            · obtain ⟨rfl, e, _⟩ := ox9
              exact eqs_ps e
            · obtain ⟨rfl, e, _⟩ := oy9
              exact eqs_ws e
          have g10 := (g5.same s59).same s10
          have s510 := s59.trans s10
          have et10 := s510 _ _ et
          obtain ⟨rfl, eA, r1⟩ := ox9.same s10
          obtain ⟨rfl, eB, r2⟩ := oy9.same s10
          refine ⟨_, rfl, rfl, _, rfl, ?_⟩
          refine ⟨_, rfl, t, _, _, _, rfl, rfl, SqT.of et10, rfl, _, rfl, t, _, _, _, rfl, rfl, SqT.of et10, rfl, fun x dx2 hx hdx nef => ?_⟩
          refine made_okR ⟨rfl, eA, r1⟩ ⟨rfl, eB, r2⟩ hx hdx nef fun H11 s11 F11 => ⟨rfl, ?_⟩
          have g11 := g10.same s11
          refine ⟨_, rfl, x, dx2, _, _, rfl, F11.o, .base (.ins g11.F.o FC.own.cl FC.own.ha FC.own.hn FC.own.htk FC.own.hm), FC.own.nC, x, _, ps', ws', rfl, ⟨_, _, _, F11⟩, .inl ⟨f, ps, ws, rfl, ⟨_, _, _, g11.F⟩, fun H12 s12 => ?_⟩⟩
          have s1012 := s11.trans s12
          refine ⟨_, rfl, _, rfl, _, rfl, small (by show 2 ≤ 100000; decide), fun t13 h13 => ?_⟩
          have s13 := s1012.trans (same_upd (o := .tup [V.ref a, V.ref b]) h13)
          have e13 : (L2.upd H12 t13 (.tup [V.ref a, V.ref b])) t13 = some (.tup [V.ref a, V.ref b]) := upd_same
          generalize L2.upd H12 t13 (.tup [V.ref a, V.ref b]) = H13 at s13 e13
          have g13 := g10.same s13
          refine ⟨_, _, dp_pair (s13 _ _ et10) (s13 _ _ eA) (s13 _ _ eB), dp_pair e13 g13.F.p g13.F.w, sh_pair _ _, sh_pair _ _, rfl, _, rfl, ?_⟩
          rw [eqv_pair]
          show if (!decide (V.bl (eqF ps' ps ws' ws) = V.bl (eqF ps' ps ws' ws))) = true then _ else _
          rw [decide_eq_true rfl]
          refine iteF ?_
          exact ⟨_, _, _, _, rfl, g13⟩
        · refine ⟨_, rfl, t, _, _, _, rfl, rfl, SqT.of et, rfl, _, rfl, t, _, _, _, rfl, rfl, SqT.of et, rfl, h, x, y, rfl, tx, ty, fun _ _ b' ws' o1 o2 => absurd ⟨b', ws', by rw [← ox.det o1]; exact o2⟩ oy, fun n => absurd ⟨_, _, ox⟩ n, fun a'' ps'' o n H6 s6 => ?_⟩
          -- due
          refine ⟨_, rfl, small (by show 2 ≤ 100000; decide), fun t1 h1 => ?_⟩
          have s7 := same_upd (o := .tup [V.str "BadForest", V.str "worths"]) h1
          have e7 : (L2.upd H6 t1 (.tup [V.str "BadForest", V.str "worths"])) t1 = some (.tup [V.str "BadForest", V.str "worths"]) := upd_same
          generalize L2.upd H6 t1 (.tup [V.str "BadForest", V.str "worths"]) = H7 at s7 e7
          refine ⟨_, rfl, rfl, _, rfl, ?_⟩
          have s57 := s6.trans s7
          have et7 := s57 _ _ et
          refine ⟨_, rfl, t, _, _, _, rfl, rfl, SqT.of et7, rfl, _, rfl, t, _, _, _, rfl, rfl, SqT.of et7, rfl, h, x, y, rfl, tx.same s57, ty.same s57, fun _ _ b' ws' o1 o2 => absurd ⟨b', ws', by rw [← (ox.same s57).det o1]; exact o2⟩ (now_same ty s57 oy), fun n => absurd ⟨_, _, ox.same s57⟩ n, fun a'' ps'' o n H8 t8 s8 _ e8 => ?_⟩
          have g8 := (g5.same s57).same s8
          refine ⟨_, rfl, _, _, rfl, eqs_tup e8 (s8 _ _ e7) (fun z hz => ?_), fun H9 s9 => ⟨true, rfl, iteF ?_⟩⟩
          · simp only [List.mem_cons, List.not_mem_nil, or_false] at hz
            rcases hz with rfl | rfl
            · exact eqs_str _
            · exact eqs_str _
          refine ⟨_, rfl, rfl, _, rfl, ?_⟩
          exact ⟨_, _, _, _, rfl, g8.same s9⟩
      · refine ⟨_, rfl, t, _, _, _, rfl, rfl, SqT.of et, rfl, _, rfl, t, _, _, _, rfl, rfl, SqT.of et, rfl, h, x, y, rfl, tx, ty, fun a' ps' _ _ o1 _ => absurd ⟨a', ps', o1⟩ ox, fun n H6 s6 => ?_, fun a'' ps'' o => absurd ⟨_, _, o⟩ ox⟩
        -- due
        refine ⟨_, rfl, small (by show 2 ≤ 100000; decide), fun t1 h1 => ?_⟩
        have s7 := same_upd (o := .tup [V.str "BadForest", V.str "parents"]) h1
        have e7 : (L2.upd H6 t1 (.tup [V.str "BadForest", V.str "parents"])) t1 = some (.tup [V.str "BadForest", V.str "parents"]) := upd_same
        generalize L2.upd H6 t1 (.tup [V.str "BadForest", V.str "parents"]) = H7 at s7 e7
        refine ⟨_, rfl, rfl, _, rfl, ?_⟩
        have s57 := s6.trans s7
        have et7 := s57 _ _ et
        refine ⟨_, rfl, t, _, _, _, rfl, rfl, SqT.of et7, rfl, _, rfl, t, _, _, _, rfl, rfl, SqT.of et7, rfl, h, x, y, rfl, tx.same s57, ty.same s57, fun a' ps' _ _ o1 _ => absurd ⟨a', ps', o1⟩ (no_same tx s57 ox), fun n H8 t8 s8 _ e8 => ?_, fun a'' ps'' o => absurd ⟨_, _, o⟩ (no_same tx s57 ox)⟩
        have g8 := (g5.same s57).same s8
        refine ⟨_, rfl, _, _, rfl, eqs_tup e8 (s8 _ _ e7) (fun z hz => ?_), fun H9 s9 => ⟨true, rfl, iteF ?_⟩⟩
        · simp only [List.mem_cons, List.not_mem_nil, or_false] at hz
          rcases hz with rfl | rfl
          · exact eqs_str _
          · exact eqs_str _
        refine ⟨_, rfl, rfl, _, rfl, ?_⟩
        exact ⟨_, _, _, _, rfl, g8.same s9⟩
    · rintro σ H4 ⟨v6, v7, v8, v9, rfl, g4⟩
      refine ⟨_, rfl, _, rfl, _, rfl, fun x dx2 hx hdx nef => ?_⟩
      refine made_okR ⟨rfl, g4.F.p, TR, n1, n64⟩ ⟨rfl, g4.F.w, lw⟩ hx hdx nef fun H5 s5 F5 => ⟨rfl, ?_⟩
      have g5 := g4.same s5
      refine ⟨f, dx, _, _, rfl, g5.F.o, .base (.ins F5.o FC.own.cl FC.own.ha FC.own.hn FC.own.htk FC.own.hm), FC.own.nC, f, _, ps, ws, rfl, ⟨_, _, _, g5.F⟩, .inl ⟨x, ps, ws, rfl, ⟨_, _, _, F5⟩, fun H6 s6 => ?_⟩⟩
      rw [eqF_refl]
      have g6 := g5.same s6
      refine ⟨true, rfl, iteT ?_⟩
      refine ⟨_, rfl, _, rfl, _, rfl, small (by show 2 ≤ 100000; decide), fun t7 h7 => ?_⟩
      have s7 := same_upd (o := .tup [V.ref a, V.ref b]) h7
      have e7 : (L2.upd H6 t7 (.tup [V.ref a, V.ref b])) t7 = some (.tup [V.ref a, V.ref b]) := upd_same
      generalize L2.upd H6 t7 (.tup [V.ref a, V.ref b]) = H7 at s7 e7
      have g7 := g6.same s7
      refine ⟨f, dx, _, _, rfl, g7.F.o, .base (.tup e7), FC.own.nT, f, _, ps, ws, rfl, ⟨_, _, _, g7.F⟩, .inr ⟨t7, _, rfl, e7, fun H8 s8 => ?_⟩⟩
      exact ⟨false, rfl, k _⟩

end
end W2
namespace W2
open PySem PySem.Spec PyProof.Rows L2

theorem def_mk {K : PySem.W.Frag} {h : Heap} {mg : Str → Option Value} (X : K.In h) (G : h.Ns mainGlobals mg) {x : Str} {st : Stmt} {ps : List Str} {f : Addr} {oc : Value} {od an : Option Addr} {osl : Array (Option Value)} {kV doc pm cdv ct : Value}
    (a : PySem.W.nsIn K mainGlobals x = some (some (.ref f))) (l : K.lookup f = some ⟨oc, od, .func (PySem.W.fnOf x x (defArgs st) (defBody st) (defScope st) .none kV doc pm an cdv ct), osl⟩) (c : PySem.W.codeIn K cdv x = true) (k : PySem.W.keepIn K (.ref f) = true)
    (b : ∀ (kV doc pm : Value) (an : Option Addr) (cdv ct : Value) (us : List Value), us.length = ps.length → bindArgs (PySem.W.fnOf x x (defArgs st) (defBody st) (defScope st) .none kV doc pm an cdv ct) ⟨us, []⟩ = pure (ps.zip us)) : Def K mg x st ps :=
  ⟨f, _, fun_mk (st := st) l c k, PySem.W.mg_of X G a, (fun_mk (st := st) l c k).binds b⟩
theorem txt_mk {K : PySem.W.Frag} {h : Heap} {mg : Str → Option Value} (X : K.In h) (G : h.Ns mainGlobals mg) {t : Tok} (n_len : PySem.W.nsIn K mainGlobals "len" = some none) (n_isinstance : PySem.W.nsIn K mainGlobals "isinstance" = some none) (n_int : PySem.W.nsIn K mainGlobals "int" = some none) (n_bool : PySem.W.nsIn K mainGlobals "bool" = some none) (n_str : PySem.W.nsIn K mainGlobals "str" = some none) (n_tuple : PySem.W.nsIn K mainGlobals "tuple" = some none) (n_list : PySem.W.nsIn K mainGlobals "list" = some none) (n_range : PySem.W.nsIn K mainGlobals "range" = some none) (n_zip : PySem.W.nsIn K mainGlobals "zip" = some none) (n_max : PySem.W.nsIn K mainGlobals "max" = some none) (n_all : PySem.W.nsIn K mainGlobals "all" = some none) (most : PySem.W.nsIn K mainGlobals "MOST_HOUSES" = some (some (.int 64 t))) : Txt K mg :=
  ⟨PySem.W.mg_none_of X G n_len, PySem.W.mg_none_of X G n_isinstance, PySem.W.mg_none_of X G n_int, PySem.W.mg_none_of X G n_bool, PySem.W.mg_none_of X G n_str, PySem.W.mg_none_of X G n_tuple, PySem.W.mg_none_of X G n_list, PySem.W.mg_none_of X G n_range, PySem.W.mg_none_of X G n_zip, PySem.W.mg_none_of X G n_max, PySem.W.mg_none_of X G n_all, ⟨t, PySem.W.mg_of X G most⟩⟩
/-- the law, from what the top has left -/
theorem ok_all {P : Program} {w : World} {K : PySem.W.Frag} {mg : Str → Option Value} {base : Heap} {C fI fE CB fB : Addr} {fdI fdE : FuncData} (T : Txt K mg) (FC : ForC K mg C fI fE CB fB) (F : Fun K "__init__" "Forest.__init__" s_init fI fdI) (bI : Binds K fdI ["self", "parents", "worths"] []) (F2 : Fun K "__eq__" "Forest.__eq__" s_eq fE fdE) (bE : Binds K fdE ["self", "other"] [])
    {f0 : Addr} {fd0 : FuncData} (FL : Fun K "law" "law" s_law f0 fd0) (D_isint : Def K mg "is_integer" s_isint ["thing"]) (D_ishouse : Def K mg "is_house" s_ishouse ["many", "thing"]) (D_arepar : Def K mg "_are_parents" s_arepar ["thing"]) (D_come : Def K mg "_come_to_roots" s_come ["parents"]) (D_arewor : Def K mg "_are_worths" s_arewor ["thing", "houses"]) (D_many : Def K mg "many" s_many ["forest"]) (D_lhand : Def K mg "_law_hand" s_lhand ["script"]) (D_take : Def K mg "_law_take" s_take ["hand", "size"]) (D_pick : Def K mg "_law_pick" s_pick ["hand", "things"]) (D_lisint : Def K mg "_law_is_integer" s_lisint ["thing"]) (D_within : Def K mg "_law_is_within" s_within ["thing", "least", "most"]) (D_same : Def K mg "_law_same" s_same ["actual", "due"]) (D_odd : Def K mg "_law_odd" s_odd ["hand"]) (D_value : Def K mg "_law_value" s_value ["hand"]) (D_parents : Def K mg "_law_parents" s_parents ["hand", "size"]) (D_plain : Def K mg "_law_plain" s_plain ["hand", "sizes"]) (D_lup : Def K mg "_law_up" s_lup ["parents", "house"]) (D_lroot : Def K mg "_law_root" s_lroot ["parents", "house"]) (D_lbelow : Def K mg "_law_below" s_lbelow ["parents", "house"]) (D_pright : Def K mg "_law_parents_right" s_pright ["thing"]) (D_bad : Def K mg "_law_bad" s_bad ["parents", "worths"]) (D_spoilt : Def K mg "_law_spoilt" s_spoilt ["hand", "parents", "worths"]) (D_made : Def K mg "_law_made" s_made ["parents", "worths"]) : FnOk P w K mg base CX0 10 f0 fd0 ["script"] (spLaw K) := by
  have C_isint : Cal P w K mg base 1 "is_integer" ["thing"] (spIsInt C) := ok_isint D_isint T FC
  have C_ishouse : Cal P w K mg base 2 "is_house" ["many", "thing"] (spIsHouse C) := ok_ishouse D_ishouse T C_isint
  have C_come : Cal P w K mg base 1 "_come_to_roots" ["parents"] (spCome K) := ok_come D_come T
  have C_arepar : Cal P w K mg base 3 "_are_parents" ["thing"] (spAreP C) := ok_arepar D_arepar T C_ishouse C_come FC
  have C_arewor : Cal P w K mg base 2 "_are_worths" ["thing", "houses"] (spAreW C) := ok_arewor D_arewor T C_isint FC
  have FI : FnOk P w K mg base (L2.CX P w) 4 fI fdI ["self", "parents", "worths"] (spInit C CB) := ok_init F T C_arepar C_arewor FC
  have FE : FnOk P w K mg base CX0 1 fE fdE ["self", "other"] (spEq C) := ok_eq F2 T FC
  have C_many : Cal P w K mg base 1 "many" ["forest"] (spMany C) := ok_many D_many T FC
  have C_lhand : Cal P w K mg base 1 "_law_hand" ["script"] (spHand K) := ok_lhand D_lhand T
  have C_take : Cal P w K mg base 1 "_law_take" ["hand", "size"] spTake := ok_take D_take T
  have C_pick : Cal P w K mg base 2 "_law_pick" ["hand", "things"] spPick := ok_pick D_pick T C_take
  have C_lisint : Cal P w K mg base 1 "_law_is_integer" ["thing"] (spIsInt C) := ok_lisint D_lisint T FC
  have C_within : Cal P w K mg base 2 "_law_is_within" ["thing", "least", "most"] (spWithin C) := ok_within D_within T C_lisint
  have C_same : Cal P w K mg base 6 "_law_same" ["actual", "due"] (spSame 4) := ok_same D_same T C_lisint 4
  have C_odd : Cal P w K mg base 2 "_law_odd" ["hand"] (spOdd C) := ok_odd D_odd T C_take
  have C_value : Cal P w K mg base 3 "_law_value" ["hand"] spValue := ok_value D_value T C_pick C_take
  have C_parents : Cal P w K mg base 2 "_law_parents" ["hand", "size"] spParents := ok_parents D_parents T C_take
  have C_plain : Cal P w K mg base 4 "_law_plain" ["hand", "sizes"] spPlain := ok_plain D_plain T C_pick C_parents C_value
  have C_lup : Cal P w K mg base 1 "_law_up" ["parents", "house"] spLUp := ok_lup D_lup T
  have C_lroot : Cal P w K mg base 2 "_law_root" ["parents", "house"] spLRoot := ok_lroot D_lroot T C_lup
  have C_lbelow : Cal P w K mg base 2 "_law_below" ["parents", "house"] spLBelow := ok_lbelow D_lbelow T C_lup
  have C_pright : Cal P w K mg base 3 "_law_parents_right" ["thing"] (spAreP C) := ok_pright D_pright T C_within C_lroot FC
  have C_bad : Cal P w K mg base 4 "_law_bad" ["parents", "worths"] (spBad C) := ok_bad D_bad T C_pright C_lisint FC
  have C_spoilt : Cal P w K mg base 6 "_law_spoilt" ["hand", "parents", "worths"] (spSpoilt C) := ok_spoilt D_spoilt T C_take C_pick C_odd C_lbelow FC FI bI
  have C_made : Cal P w K mg base 6 "_law_made" ["parents", "worths"] (spMade C) := ok_made D_made T FC FI bI
  exact ok_law FL T C_lhand C_plain C_many C_spoilt C_bad C_made FC FI bI FE bE C_same
/-- an error of the class at S is what «except S» names -/
theorem exm_self {K : PySem.W.Frag} {S : Addr} (h1 : PySem.W.subIn K (.ref S) (.type "BaseException") = some true) (h2 : PySem.W.isClsIn K S = true) (h3 : PySem.W.typeIn K (.ref S) = some (.type "type")) (h4 : PySem.W.subIn K (.ref S) (.ref S) = some true) :
    PySem.W.exmOne K (.ref S) (.ref S) = some true := by
  have e1 : (PySem.W.subIn K (.ref S) (.type "BaseException") == some true) = true := by rw [h1] <;> rfl
  have e2 : ((PySem.W.clsIn K S).isSome && PySem.W.typeIn K (.ref S) == some (.type "type")) = true := by
    have h2' : (PySem.W.clsIn K S).isSome = true := h2
    rw [h2', h3] <;> rfl
  show (if (PySem.W.subIn K (.ref S) (.type "BaseException") == some true) = true then (if ((PySem.W.clsIn K S).isSome && PySem.W.typeIn K (.ref S) == some (.type "type")) = true then PySem.W.subIn K (.ref S) (.ref S) else none) else none) = some true
  rw [if_pos e1, if_pos e2]
  exact h4
theorem walk {l : PySem.W.OpenLaw} {q : Program} {loose : List Str} {XP : (Str → Option Value) → Heap → Prop} {YP : World → Heap → Prop} {d : DefRec} {K : Params → PySem.W.Frag} (hn : l.most = some 63) (hdf : d.params.defaults = [])
    (hY : ∀ (w : World) (h : Heap), YP w h → (K w.params).In h)
    (F : ∀ (w : World) (mg : Str → Option Value) (fa : Addr) (h : Heap), (K w.params).In h → h.Ns mainGlobals mg → mg d.name = some (.ref fa) →
      ∃ fd : FuncData, (∀ (s : Shared) (u : Value), BindsTo s fd ⟨[u], []⟩ [("script", u)]) ∧ ∀ base : Heap, (K w.params).In base → base.Ns mainGlobals mg → FnOk l.prog w (K w.params) mg base CX0 10 fa fd ["script"] (spLaw (K w.params))) :
    PySem.W.WalkO q loose XP YP l.row.toRowW d [] (fun f vs => PySem.call f vs) :=
  L2.walk_of (n := 63) (k := 10) (x := "script") (CX := fun _ => CX0) (sp := fun w => spLaw (K w.params)) hn (by decide) hdf ⟨rfl, by decide, by decide⟩ hY F (fun _ _ a ns hl _ hS => ⟨a, ns, rfl, hS, hl, fun _ => rfl⟩) fun _ _ _ _ _ z => z

theorem all_mk {P : Program} {w : World} {K : PySem.W.Frag} {h : Heap} {mg : Str → Option Value} {fa C CB CF fB f_isint f_ishouse f_init f_eq f_arepar f_come f_arewor f_many f_lhand f_take f_pick f_lisint f_within f_same f_odd f_value f_parents f_plain f_lup f_lroot f_lbelow f_pright f_bad f_spoilt f_made f_law : Addr} (X : K.In h) (G : h.Ns mainGlobals mg) (hfa : mg "law" = some (.ref fa))
    {od_isint an_isint : Option Addr} {sl_isint : Array (Option Value)} {oc_isint kV_isint dc_isint pm_isint cd_isint ct_isint : Value} (a_isint : PySem.W.nsIn K mainGlobals "is_integer" = some (some (.ref f_isint)))
    (l_isint : K.lookup f_isint = some ⟨oc_isint, od_isint, .func (PySem.W.fnOf "is_integer" "is_integer" (defArgs s_isint) (defBody s_isint) (defScope s_isint) .none kV_isint dc_isint pm_isint an_isint cd_isint ct_isint), sl_isint⟩) (c_isint : PySem.W.codeIn K cd_isint "is_integer" = true) (k_isint : PySem.W.keepIn K (.ref f_isint) = true)
    {od_ishouse an_ishouse : Option Addr} {sl_ishouse : Array (Option Value)} {oc_ishouse kV_ishouse dc_ishouse pm_ishouse cd_ishouse ct_ishouse : Value} (a_ishouse : PySem.W.nsIn K mainGlobals "is_house" = some (some (.ref f_ishouse)))
    (l_ishouse : K.lookup f_ishouse = some ⟨oc_ishouse, od_ishouse, .func (PySem.W.fnOf "is_house" "is_house" (defArgs s_ishouse) (defBody s_ishouse) (defScope s_ishouse) .none kV_ishouse dc_ishouse pm_ishouse an_ishouse cd_ishouse ct_ishouse), sl_ishouse⟩) (c_ishouse : PySem.W.codeIn K cd_ishouse "is_house" = true) (k_ishouse : PySem.W.keepIn K (.ref f_ishouse) = true)
    {od_init an_init : Option Addr} {sl_init : Array (Option Value)} {oc_init kV_init dc_init pm_init cd_init ct_init : Value} (a_init : PySem.W.findIn K (.ref C) "__init__" = some (some (.ref f_init)))
    (l_init : K.lookup f_init = some ⟨oc_init, od_init, .func (PySem.W.fnOf "__init__" "Forest.__init__" (defArgs s_init) (defBody s_init) (defScope s_init) .none kV_init dc_init pm_init an_init cd_init ct_init), sl_init⟩) (c_init : PySem.W.codeIn K cd_init "Forest.__init__" = true) (k_init : PySem.W.keepIn K (.ref f_init) = true)
    {od_eq an_eq : Option Addr} {sl_eq : Array (Option Value)} {oc_eq kV_eq dc_eq pm_eq cd_eq ct_eq : Value} (a_eq : PySem.W.findIn K (.ref C) "__eq__" = some (some (.ref f_eq)))
    (l_eq : K.lookup f_eq = some ⟨oc_eq, od_eq, .func (PySem.W.fnOf "__eq__" "Forest.__eq__" (defArgs s_eq) (defBody s_eq) (defScope s_eq) .none kV_eq dc_eq pm_eq an_eq cd_eq ct_eq), sl_eq⟩) (c_eq : PySem.W.codeIn K cd_eq "Forest.__eq__" = true) (k_eq : PySem.W.keepIn K (.ref f_eq) = true)
    {od_arepar an_arepar : Option Addr} {sl_arepar : Array (Option Value)} {oc_arepar kV_arepar dc_arepar pm_arepar cd_arepar ct_arepar : Value} (a_arepar : PySem.W.nsIn K mainGlobals "_are_parents" = some (some (.ref f_arepar)))
    (l_arepar : K.lookup f_arepar = some ⟨oc_arepar, od_arepar, .func (PySem.W.fnOf "_are_parents" "_are_parents" (defArgs s_arepar) (defBody s_arepar) (defScope s_arepar) .none kV_arepar dc_arepar pm_arepar an_arepar cd_arepar ct_arepar), sl_arepar⟩) (c_arepar : PySem.W.codeIn K cd_arepar "_are_parents" = true) (k_arepar : PySem.W.keepIn K (.ref f_arepar) = true)
    {od_come an_come : Option Addr} {sl_come : Array (Option Value)} {oc_come kV_come dc_come pm_come cd_come ct_come : Value} (a_come : PySem.W.nsIn K mainGlobals "_come_to_roots" = some (some (.ref f_come)))
    (l_come : K.lookup f_come = some ⟨oc_come, od_come, .func (PySem.W.fnOf "_come_to_roots" "_come_to_roots" (defArgs s_come) (defBody s_come) (defScope s_come) .none kV_come dc_come pm_come an_come cd_come ct_come), sl_come⟩) (c_come : PySem.W.codeIn K cd_come "_come_to_roots" = true) (k_come : PySem.W.keepIn K (.ref f_come) = true)
    {od_arewor an_arewor : Option Addr} {sl_arewor : Array (Option Value)} {oc_arewor kV_arewor dc_arewor pm_arewor cd_arewor ct_arewor : Value} (a_arewor : PySem.W.nsIn K mainGlobals "_are_worths" = some (some (.ref f_arewor)))
    (l_arewor : K.lookup f_arewor = some ⟨oc_arewor, od_arewor, .func (PySem.W.fnOf "_are_worths" "_are_worths" (defArgs s_arewor) (defBody s_arewor) (defScope s_arewor) .none kV_arewor dc_arewor pm_arewor an_arewor cd_arewor ct_arewor), sl_arewor⟩) (c_arewor : PySem.W.codeIn K cd_arewor "_are_worths" = true) (k_arewor : PySem.W.keepIn K (.ref f_arewor) = true)
    {od_many an_many : Option Addr} {sl_many : Array (Option Value)} {oc_many kV_many dc_many pm_many cd_many ct_many : Value} (a_many : PySem.W.nsIn K mainGlobals "many" = some (some (.ref f_many)))
    (l_many : K.lookup f_many = some ⟨oc_many, od_many, .func (PySem.W.fnOf "many" "many" (defArgs s_many) (defBody s_many) (defScope s_many) .none kV_many dc_many pm_many an_many cd_many ct_many), sl_many⟩) (c_many : PySem.W.codeIn K cd_many "many" = true) (k_many : PySem.W.keepIn K (.ref f_many) = true)
    {od_lhand an_lhand : Option Addr} {sl_lhand : Array (Option Value)} {oc_lhand kV_lhand dc_lhand pm_lhand cd_lhand ct_lhand : Value} (a_lhand : PySem.W.nsIn K mainGlobals "_law_hand" = some (some (.ref f_lhand)))
    (l_lhand : K.lookup f_lhand = some ⟨oc_lhand, od_lhand, .func (PySem.W.fnOf "_law_hand" "_law_hand" (defArgs s_lhand) (defBody s_lhand) (defScope s_lhand) .none kV_lhand dc_lhand pm_lhand an_lhand cd_lhand ct_lhand), sl_lhand⟩) (c_lhand : PySem.W.codeIn K cd_lhand "_law_hand" = true) (k_lhand : PySem.W.keepIn K (.ref f_lhand) = true)
    {od_take an_take : Option Addr} {sl_take : Array (Option Value)} {oc_take kV_take dc_take pm_take cd_take ct_take : Value} (a_take : PySem.W.nsIn K mainGlobals "_law_take" = some (some (.ref f_take)))
    (l_take : K.lookup f_take = some ⟨oc_take, od_take, .func (PySem.W.fnOf "_law_take" "_law_take" (defArgs s_take) (defBody s_take) (defScope s_take) .none kV_take dc_take pm_take an_take cd_take ct_take), sl_take⟩) (c_take : PySem.W.codeIn K cd_take "_law_take" = true) (k_take : PySem.W.keepIn K (.ref f_take) = true)
    {od_pick an_pick : Option Addr} {sl_pick : Array (Option Value)} {oc_pick kV_pick dc_pick pm_pick cd_pick ct_pick : Value} (a_pick : PySem.W.nsIn K mainGlobals "_law_pick" = some (some (.ref f_pick)))
    (l_pick : K.lookup f_pick = some ⟨oc_pick, od_pick, .func (PySem.W.fnOf "_law_pick" "_law_pick" (defArgs s_pick) (defBody s_pick) (defScope s_pick) .none kV_pick dc_pick pm_pick an_pick cd_pick ct_pick), sl_pick⟩) (c_pick : PySem.W.codeIn K cd_pick "_law_pick" = true) (k_pick : PySem.W.keepIn K (.ref f_pick) = true)
    {od_lisint an_lisint : Option Addr} {sl_lisint : Array (Option Value)} {oc_lisint kV_lisint dc_lisint pm_lisint cd_lisint ct_lisint : Value} (a_lisint : PySem.W.nsIn K mainGlobals "_law_is_integer" = some (some (.ref f_lisint)))
    (l_lisint : K.lookup f_lisint = some ⟨oc_lisint, od_lisint, .func (PySem.W.fnOf "_law_is_integer" "_law_is_integer" (defArgs s_lisint) (defBody s_lisint) (defScope s_lisint) .none kV_lisint dc_lisint pm_lisint an_lisint cd_lisint ct_lisint), sl_lisint⟩) (c_lisint : PySem.W.codeIn K cd_lisint "_law_is_integer" = true) (k_lisint : PySem.W.keepIn K (.ref f_lisint) = true)
    {od_within an_within : Option Addr} {sl_within : Array (Option Value)} {oc_within kV_within dc_within pm_within cd_within ct_within : Value} (a_within : PySem.W.nsIn K mainGlobals "_law_is_within" = some (some (.ref f_within)))
    (l_within : K.lookup f_within = some ⟨oc_within, od_within, .func (PySem.W.fnOf "_law_is_within" "_law_is_within" (defArgs s_within) (defBody s_within) (defScope s_within) .none kV_within dc_within pm_within an_within cd_within ct_within), sl_within⟩) (c_within : PySem.W.codeIn K cd_within "_law_is_within" = true) (k_within : PySem.W.keepIn K (.ref f_within) = true)
    {od_same an_same : Option Addr} {sl_same : Array (Option Value)} {oc_same kV_same dc_same pm_same cd_same ct_same : Value} (a_same : PySem.W.nsIn K mainGlobals "_law_same" = some (some (.ref f_same)))
    (l_same : K.lookup f_same = some ⟨oc_same, od_same, .func (PySem.W.fnOf "_law_same" "_law_same" (defArgs s_same) (defBody s_same) (defScope s_same) .none kV_same dc_same pm_same an_same cd_same ct_same), sl_same⟩) (c_same : PySem.W.codeIn K cd_same "_law_same" = true) (k_same : PySem.W.keepIn K (.ref f_same) = true)
    {od_odd an_odd : Option Addr} {sl_odd : Array (Option Value)} {oc_odd kV_odd dc_odd pm_odd cd_odd ct_odd : Value} (a_odd : PySem.W.nsIn K mainGlobals "_law_odd" = some (some (.ref f_odd)))
    (l_odd : K.lookup f_odd = some ⟨oc_odd, od_odd, .func (PySem.W.fnOf "_law_odd" "_law_odd" (defArgs s_odd) (defBody s_odd) (defScope s_odd) .none kV_odd dc_odd pm_odd an_odd cd_odd ct_odd), sl_odd⟩) (c_odd : PySem.W.codeIn K cd_odd "_law_odd" = true) (k_odd : PySem.W.keepIn K (.ref f_odd) = true)
    {od_value an_value : Option Addr} {sl_value : Array (Option Value)} {oc_value kV_value dc_value pm_value cd_value ct_value : Value} (a_value : PySem.W.nsIn K mainGlobals "_law_value" = some (some (.ref f_value)))
    (l_value : K.lookup f_value = some ⟨oc_value, od_value, .func (PySem.W.fnOf "_law_value" "_law_value" (defArgs s_value) (defBody s_value) (defScope s_value) .none kV_value dc_value pm_value an_value cd_value ct_value), sl_value⟩) (c_value : PySem.W.codeIn K cd_value "_law_value" = true) (k_value : PySem.W.keepIn K (.ref f_value) = true)
    {od_parents an_parents : Option Addr} {sl_parents : Array (Option Value)} {oc_parents kV_parents dc_parents pm_parents cd_parents ct_parents : Value} (a_parents : PySem.W.nsIn K mainGlobals "_law_parents" = some (some (.ref f_parents)))
    (l_parents : K.lookup f_parents = some ⟨oc_parents, od_parents, .func (PySem.W.fnOf "_law_parents" "_law_parents" (defArgs s_parents) (defBody s_parents) (defScope s_parents) .none kV_parents dc_parents pm_parents an_parents cd_parents ct_parents), sl_parents⟩) (c_parents : PySem.W.codeIn K cd_parents "_law_parents" = true) (k_parents : PySem.W.keepIn K (.ref f_parents) = true)
    {od_plain an_plain : Option Addr} {sl_plain : Array (Option Value)} {oc_plain kV_plain dc_plain pm_plain cd_plain ct_plain : Value} (a_plain : PySem.W.nsIn K mainGlobals "_law_plain" = some (some (.ref f_plain)))
    (l_plain : K.lookup f_plain = some ⟨oc_plain, od_plain, .func (PySem.W.fnOf "_law_plain" "_law_plain" (defArgs s_plain) (defBody s_plain) (defScope s_plain) .none kV_plain dc_plain pm_plain an_plain cd_plain ct_plain), sl_plain⟩) (c_plain : PySem.W.codeIn K cd_plain "_law_plain" = true) (k_plain : PySem.W.keepIn K (.ref f_plain) = true)
    {od_lup an_lup : Option Addr} {sl_lup : Array (Option Value)} {oc_lup kV_lup dc_lup pm_lup cd_lup ct_lup : Value} (a_lup : PySem.W.nsIn K mainGlobals "_law_up" = some (some (.ref f_lup)))
    (l_lup : K.lookup f_lup = some ⟨oc_lup, od_lup, .func (PySem.W.fnOf "_law_up" "_law_up" (defArgs s_lup) (defBody s_lup) (defScope s_lup) .none kV_lup dc_lup pm_lup an_lup cd_lup ct_lup), sl_lup⟩) (c_lup : PySem.W.codeIn K cd_lup "_law_up" = true) (k_lup : PySem.W.keepIn K (.ref f_lup) = true)
    {od_lroot an_lroot : Option Addr} {sl_lroot : Array (Option Value)} {oc_lroot kV_lroot dc_lroot pm_lroot cd_lroot ct_lroot : Value} (a_lroot : PySem.W.nsIn K mainGlobals "_law_root" = some (some (.ref f_lroot)))
    (l_lroot : K.lookup f_lroot = some ⟨oc_lroot, od_lroot, .func (PySem.W.fnOf "_law_root" "_law_root" (defArgs s_lroot) (defBody s_lroot) (defScope s_lroot) .none kV_lroot dc_lroot pm_lroot an_lroot cd_lroot ct_lroot), sl_lroot⟩) (c_lroot : PySem.W.codeIn K cd_lroot "_law_root" = true) (k_lroot : PySem.W.keepIn K (.ref f_lroot) = true)
    {od_lbelow an_lbelow : Option Addr} {sl_lbelow : Array (Option Value)} {oc_lbelow kV_lbelow dc_lbelow pm_lbelow cd_lbelow ct_lbelow : Value} (a_lbelow : PySem.W.nsIn K mainGlobals "_law_below" = some (some (.ref f_lbelow)))
    (l_lbelow : K.lookup f_lbelow = some ⟨oc_lbelow, od_lbelow, .func (PySem.W.fnOf "_law_below" "_law_below" (defArgs s_lbelow) (defBody s_lbelow) (defScope s_lbelow) .none kV_lbelow dc_lbelow pm_lbelow an_lbelow cd_lbelow ct_lbelow), sl_lbelow⟩) (c_lbelow : PySem.W.codeIn K cd_lbelow "_law_below" = true) (k_lbelow : PySem.W.keepIn K (.ref f_lbelow) = true)
    {od_pright an_pright : Option Addr} {sl_pright : Array (Option Value)} {oc_pright kV_pright dc_pright pm_pright cd_pright ct_pright : Value} (a_pright : PySem.W.nsIn K mainGlobals "_law_parents_right" = some (some (.ref f_pright)))
    (l_pright : K.lookup f_pright = some ⟨oc_pright, od_pright, .func (PySem.W.fnOf "_law_parents_right" "_law_parents_right" (defArgs s_pright) (defBody s_pright) (defScope s_pright) .none kV_pright dc_pright pm_pright an_pright cd_pright ct_pright), sl_pright⟩) (c_pright : PySem.W.codeIn K cd_pright "_law_parents_right" = true) (k_pright : PySem.W.keepIn K (.ref f_pright) = true)
    {od_bad an_bad : Option Addr} {sl_bad : Array (Option Value)} {oc_bad kV_bad dc_bad pm_bad cd_bad ct_bad : Value} (a_bad : PySem.W.nsIn K mainGlobals "_law_bad" = some (some (.ref f_bad)))
    (l_bad : K.lookup f_bad = some ⟨oc_bad, od_bad, .func (PySem.W.fnOf "_law_bad" "_law_bad" (defArgs s_bad) (defBody s_bad) (defScope s_bad) .none kV_bad dc_bad pm_bad an_bad cd_bad ct_bad), sl_bad⟩) (c_bad : PySem.W.codeIn K cd_bad "_law_bad" = true) (k_bad : PySem.W.keepIn K (.ref f_bad) = true)
    {od_spoilt an_spoilt : Option Addr} {sl_spoilt : Array (Option Value)} {oc_spoilt kV_spoilt dc_spoilt pm_spoilt cd_spoilt ct_spoilt : Value} (a_spoilt : PySem.W.nsIn K mainGlobals "_law_spoilt" = some (some (.ref f_spoilt)))
    (l_spoilt : K.lookup f_spoilt = some ⟨oc_spoilt, od_spoilt, .func (PySem.W.fnOf "_law_spoilt" "_law_spoilt" (defArgs s_spoilt) (defBody s_spoilt) (defScope s_spoilt) .none kV_spoilt dc_spoilt pm_spoilt an_spoilt cd_spoilt ct_spoilt), sl_spoilt⟩) (c_spoilt : PySem.W.codeIn K cd_spoilt "_law_spoilt" = true) (k_spoilt : PySem.W.keepIn K (.ref f_spoilt) = true)
    {od_made an_made : Option Addr} {sl_made : Array (Option Value)} {oc_made kV_made dc_made pm_made cd_made ct_made : Value} (a_made : PySem.W.nsIn K mainGlobals "_law_made" = some (some (.ref f_made)))
    (l_made : K.lookup f_made = some ⟨oc_made, od_made, .func (PySem.W.fnOf "_law_made" "_law_made" (defArgs s_made) (defBody s_made) (defScope s_made) .none kV_made dc_made pm_made an_made cd_made ct_made), sl_made⟩) (c_made : PySem.W.codeIn K cd_made "_law_made" = true) (k_made : PySem.W.keepIn K (.ref f_made) = true)
    {od_law an_law : Option Addr} {sl_law : Array (Option Value)} {oc_law kV_law dc_law pm_law cd_law ct_law : Value} (a_law : PySem.W.nsIn K mainGlobals "law" = some (some (.ref f_law)))
    (l_law : K.lookup f_law = some ⟨oc_law, od_law, .func (PySem.W.fnOf "law" "law" (defArgs s_law) (defBody s_law) (defScope s_law) .none kV_law dc_law pm_law an_law cd_law ct_law), sl_law⟩) (c_law : PySem.W.codeIn K cd_law "law" = true) (k_law : PySem.W.keepIn K (.ref f_law) = true)
    (aC : PySem.W.nsIn K mainGlobals "Forest" = some (some (.ref C))) (iI : PySem.W.isFn K (.ref f_init) = true) (iE : PySem.W.isFn K (.ref f_eq) = true) (pg : PySem.W.plainGet K C Str.empty = true) (hd : PySem.W.hasDictIn K C = true) (po : PySem.W.plainOver K C = true) (sa : PySem.W.findIn K (.ref C) "__setattr__" = some (some (.builtin "object.__setattr__"))) (mk : PySem.W.makesIn K C = true) (kc : PySem.W.keepIn K (.ref C) = true)
    (nP : PySem.W.findIn K (.ref C) "parents" = some none) (nW : PySem.W.findIn K (.ref C) "worths" = some none)
    (ow_ha : PySem.W.findIn K (.ref C) "__class__" = some (some (.builtin "object.__class__"))) (ow_hn : PySem.W.specialIn K (.builtin "object.__class__") "__get__" = some (some (.builtin "getset_descriptor.__get__"))) (ow_htk : PySem.W.takesIn K (.builtin "object.__class__") = some true) (ow_hm : PySem.W.mroIn K C (.type "object") = some true) (ow_kI : PySem.W.kitOne K (.ref C) (.type "int") = some false) (ow_kB : PySem.W.kitOne K (.ref C) (.type "bool") = some false) (ow_kT : PySem.W.kitOne K (.ref C) (.type "tuple") = some false) (ow_kL : PySem.W.kitOne K (.ref C) (.type "list") = some false) (ow_kS : PySem.W.kitOne K (.ref C) (.type "str") = some false) (ow_kC : PySem.W.kitOne K (.ref C) (.ref C) = some true) (ow_tC : PySem.W.kitOne K (.type "tuple") (.ref C) = some false) (ow_nC : PySem.W.notFirst K C (.ref C) = true) (ow_nT : PySem.W.notFirst K C (.type "tuple") = true)
    {bnm bq : Str} {bN : Addr} {bbs : List Value} {bsn : List Str} {bsub : List Value} {bab : Bool} {bcol : Option Bool} {bdd : Option Addr} {bm0 bm1 bm2 bm3 bm5 : Option Value} {bod1 ban1 : Option Addr} {bsl1 : Array (Option Value)} {boc1 bdc1 bpm1 bcd1 bct1 : Value}
    (bC : PySem.W.nsIn K mainGlobals "BadForest" = some (some (.ref CB))) (bxL : K.lookup CB = some (excClassObj bnm bq CB bN bbs [.ref CF, .type "ValueError", .type "Exception", .type "BaseException", .type "object"] true bsn bsub bab bcol bdd bm0 bm1 bm2 bm3 bm5 "ValueError.__new__")) (bsa : PySem.W.findIn K (.ref CB) "__setattr__" = some (some (.builtin "object.__setattr__"))) (bga : PySem.W.findIn K (.ref CB) "__getattribute__" = some (some (.builtin "BaseException.__getattribute__"))) (bgg : PySem.W.findIn K (.ref CB) "__getattr__" = some none) (bnb : PySem.W.findIn K (.ref CB) "part" = some none) (ba1 : PySem.W.findIn K (.ref CB) "__init__" = some (some (.ref fB))) (bt1 : PySem.W.typeIn K (.ref fB) = some (.type "function")) (bl1 : K.lookup fB = some ⟨boc1, bod1, .func (PySem.W.fnOf "__init__" "BadForest.__init__" (PySem.XBadForest.iA ⟨6, 17, 6, 21⟩ ⟨6, 23, 6, 27⟩) (PySem.XBadForest.iB ⟨7, 8, 7, 12⟩ ⟨7, 8, 7, 17⟩ ⟨7, 20, 7, 24⟩ ⟨7, 8, 7, 24⟩) PySem.XBadForest.iS .none .none bdc1 bpm1 ban1 bcd1 bct1), bsl1⟩) (bc1 : PySem.W.codeIn K bcd1 "BadForest.__init__" = true) (bkC : PySem.W.keepIn K (.ref CB) = true) (beC : PySem.W.subIn K (.ref CB) (.type "BaseException") = some true) (btC : PySem.W.typeIn K (.ref CB) = some (.type "type")) (bhC : PySem.W.hasDictIn K CB = true) (biC : PySem.W.isClsIn K CB = true) (bsC : PySem.W.subIn K (.ref CB) (.ref CB) = some true)
    {t : Tok} (n_len : PySem.W.nsIn K mainGlobals "len" = some none) (n_isinstance : PySem.W.nsIn K mainGlobals "isinstance" = some none) (n_int : PySem.W.nsIn K mainGlobals "int" = some none) (n_bool : PySem.W.nsIn K mainGlobals "bool" = some none) (n_str : PySem.W.nsIn K mainGlobals "str" = some none) (n_tuple : PySem.W.nsIn K mainGlobals "tuple" = some none) (n_list : PySem.W.nsIn K mainGlobals "list" = some none) (n_range : PySem.W.nsIn K mainGlobals "range" = some none) (n_zip : PySem.W.nsIn K mainGlobals "zip" = some none) (n_max : PySem.W.nsIn K mainGlobals "max" = some none) (n_all : PySem.W.nsIn K mainGlobals "all" = some none) (most : PySem.W.nsIn K mainGlobals "MOST_HOUSES" = some (some (.int 64 t))) :
    ∃ fd : FuncData, (∀ (s : Shared) (v : Value), BindsTo s fd ⟨[v], []⟩ [("script", v)]) ∧ ∀ base : Heap, K.In base → base.Ns mainGlobals mg → FnOk P w K mg base CX0 10 fa fd ["script"] (spLaw K) := by
  have D_isint := def_mk (st := s_isint) (ps := ["thing"]) X G a_isint l_isint c_isint k_isint fun _ _ _ _ _ _ us hl => match us, hl with | [_], _ => rfl
  have D_ishouse := def_mk (st := s_ishouse) (ps := ["many", "thing"]) X G a_ishouse l_ishouse c_ishouse k_ishouse fun _ _ _ _ _ _ us hl => match us, hl with | [_, _], _ => rfl
  have D_arepar := def_mk (st := s_arepar) (ps := ["thing"]) X G a_arepar l_arepar c_arepar k_arepar fun _ _ _ _ _ _ us hl => match us, hl with | [_], _ => rfl
  have D_come := def_mk (st := s_come) (ps := ["parents"]) X G a_come l_come c_come k_come fun _ _ _ _ _ _ us hl => match us, hl with | [_], _ => rfl
  have D_arewor := def_mk (st := s_arewor) (ps := ["thing", "houses"]) X G a_arewor l_arewor c_arewor k_arewor fun _ _ _ _ _ _ us hl => match us, hl with | [_, _], _ => rfl
  have D_many := def_mk (st := s_many) (ps := ["forest"]) X G a_many l_many c_many k_many fun _ _ _ _ _ _ us hl => match us, hl with | [_], _ => rfl
  have D_lhand := def_mk (st := s_lhand) (ps := ["script"]) X G a_lhand l_lhand c_lhand k_lhand fun _ _ _ _ _ _ us hl => match us, hl with | [_], _ => rfl
  have D_take := def_mk (st := s_take) (ps := ["hand", "size"]) X G a_take l_take c_take k_take fun _ _ _ _ _ _ us hl => match us, hl with | [_, _], _ => rfl
  have D_pick := def_mk (st := s_pick) (ps := ["hand", "things"]) X G a_pick l_pick c_pick k_pick fun _ _ _ _ _ _ us hl => match us, hl with | [_, _], _ => rfl
  have D_lisint := def_mk (st := s_lisint) (ps := ["thing"]) X G a_lisint l_lisint c_lisint k_lisint fun _ _ _ _ _ _ us hl => match us, hl with | [_], _ => rfl
  have D_within := def_mk (st := s_within) (ps := ["thing", "least", "most"]) X G a_within l_within c_within k_within fun _ _ _ _ _ _ us hl => match us, hl with | [_, _, _], _ => rfl
  have D_same := def_mk (st := s_same) (ps := ["actual", "due"]) X G a_same l_same c_same k_same fun _ _ _ _ _ _ us hl => match us, hl with | [_, _], _ => rfl
  have D_odd := def_mk (st := s_odd) (ps := ["hand"]) X G a_odd l_odd c_odd k_odd fun _ _ _ _ _ _ us hl => match us, hl with | [_], _ => rfl
  have D_value := def_mk (st := s_value) (ps := ["hand"]) X G a_value l_value c_value k_value fun _ _ _ _ _ _ us hl => match us, hl with | [_], _ => rfl
  have D_parents := def_mk (st := s_parents) (ps := ["hand", "size"]) X G a_parents l_parents c_parents k_parents fun _ _ _ _ _ _ us hl => match us, hl with | [_, _], _ => rfl
  have D_plain := def_mk (st := s_plain) (ps := ["hand", "sizes"]) X G a_plain l_plain c_plain k_plain fun _ _ _ _ _ _ us hl => match us, hl with | [_, _], _ => rfl
  have D_lup := def_mk (st := s_lup) (ps := ["parents", "house"]) X G a_lup l_lup c_lup k_lup fun _ _ _ _ _ _ us hl => match us, hl with | [_, _], _ => rfl
  have D_lroot := def_mk (st := s_lroot) (ps := ["parents", "house"]) X G a_lroot l_lroot c_lroot k_lroot fun _ _ _ _ _ _ us hl => match us, hl with | [_, _], _ => rfl
  have D_lbelow := def_mk (st := s_lbelow) (ps := ["parents", "house"]) X G a_lbelow l_lbelow c_lbelow k_lbelow fun _ _ _ _ _ _ us hl => match us, hl with | [_, _], _ => rfl
  have D_pright := def_mk (st := s_pright) (ps := ["thing"]) X G a_pright l_pright c_pright k_pright fun _ _ _ _ _ _ us hl => match us, hl with | [_], _ => rfl
  have D_bad := def_mk (st := s_bad) (ps := ["parents", "worths"]) X G a_bad l_bad c_bad k_bad fun _ _ _ _ _ _ us hl => match us, hl with | [_, _], _ => rfl
  have D_spoilt := def_mk (st := s_spoilt) (ps := ["hand", "parents", "worths"]) X G a_spoilt l_spoilt c_spoilt k_spoilt fun _ _ _ _ _ _ us hl => match us, hl with | [_, _, _], _ => rfl
  have D_made := def_mk (st := s_made) (ps := ["parents", "worths"]) X G a_made l_made c_made k_made fun _ _ _ _ _ _ us hl => match us, hl with | [_, _], _ => rfl
  have T : Txt K mg := txt_mk X G n_len n_isinstance n_int n_bool n_str n_tuple n_list n_range n_zip n_max n_all most
  have TB : PySem.XBadForest.TxtBadForest K mg CB fB :=
    { gC := PySem.W.mg_of X G bC, cls := ⟨bnm, bq, bN, bbs, _, bsn, bsub, bab, bcol, bdd, bm0, bm1, bm2, bm3, bm5, bxL, rfl⟩, sa := bsa, ga := bga, gg := bgg, noN := bnb, iC := ba1, tC := bt1, kC := bkC, exC := beC, tyC := btC, hdC := bhC, te := exm_self beC biC btC bsC,
      fn := ⟨_, _, _, _, _, _, _, _, _, _, _, _, _, _, bl1, bc1⟩ }
  have FC : ForC K mg C f_init f_eq CB fB := ⟨⟨⟨pg, hd, po, sa⟩, ow_ha, ow_hn, ow_htk, ow_hm, ow_kI, ow_kB, ow_kT, ow_kL, ow_kS, ow_kC, ow_tC, ow_nC, ow_nT⟩, nP, nW, PySem.W.mg_of X G aC, ⟨mk, a_init, iI, kc⟩, a_eq, iE, TB⟩
  have F := fun_mk (st := s_init) l_init c_init k_init
  have bI := F.binds (ps := ["self", "parents", "worths"]) fun _ _ _ _ _ _ us hl => match us, hl with | [_, _, _], _ => rfl
  have F2 := fun_mk (st := s_eq) l_eq c_eq k_eq
  have bE := F2.binds (ps := ["self", "other"]) fun _ _ _ _ _ _ us hl => match us, hl with | [_, _], _ => rfl
  have e := hfa.symm.trans (PySem.W.mg_of X G a_law)
  cases e
  refine ⟨PySem.W.fnOf "law" "law" (defArgs s_law) (defBody s_law) (defScope s_law) .none kV_law dc_law pm_law an_law cd_law ct_law, fun s v => .of_eq rfl, fun base _ _ => ?_⟩
  exact ok_all (P := P) (w := w) (base := base) T FC F bI F2 bE (fun_mk (st := s_law) l_law c_law k_law) D_isint D_ishouse D_arepar D_come D_arewor D_many D_lhand D_take D_pick D_lisint D_within D_same D_odd D_value D_parents D_plain D_lup D_lroot D_lbelow D_pright D_bad D_spoilt D_made

end W2
open PySem PySem.W PyProof.Rows in
set_option maxRecDepth 100000 in
set_option maxHeartbeats 0 in
theorem PySem.Challenge.cw_cutlinked_k01_forests_judged_holds : PySem.Challenge.rw_cutlinked_k01_forests_judged.Holds := by
  w_on; o_law; k_head; (case hw => w_witness2)
  k_fill
  refine W2.walk (l := PySem.Challenge.rw_cutlinked_k01_forests_judged) rfl rfl (fun w h Y => PySem.W.kIn_of Y) ?F
  case F =>
    intro w mg fa h KX G hmg
    refine' W2.all_mk KX G hmg ?a_isint ?l_isint ?c_isint ?k_isint ?a_ishouse ?l_ishouse ?c_ishouse ?k_ishouse ?a_init ?l_init ?c_init ?k_init ?a_eq ?l_eq ?c_eq ?k_eq ?a_arepar ?l_arepar ?c_arepar ?k_arepar ?a_come ?l_come ?c_come ?k_come ?a_arewor ?l_arewor ?c_arewor ?k_arewor ?a_many ?l_many ?c_many ?k_many ?a_lhand ?l_lhand ?c_lhand ?k_lhand ?a_take ?l_take ?c_take ?k_take ?a_pick ?l_pick ?c_pick ?k_pick ?a_lisint ?l_lisint ?c_lisint ?k_lisint ?a_within ?l_within ?c_within ?k_within ?a_same ?l_same ?c_same ?k_same ?a_odd ?l_odd ?c_odd ?k_odd ?a_value ?l_value ?c_value ?k_value ?a_parents ?l_parents ?c_parents ?k_parents ?a_plain ?l_plain ?c_plain ?k_plain ?a_lup ?l_lup ?c_lup ?k_lup ?a_lroot ?l_lroot ?c_lroot ?k_lroot ?a_lbelow ?l_lbelow ?c_lbelow ?k_lbelow ?a_pright ?l_pright ?c_pright ?k_pright ?a_bad ?l_bad ?c_bad ?k_bad ?a_spoilt ?l_spoilt ?c_spoilt ?k_spoilt ?a_made ?l_made ?c_made ?k_made ?a_law ?l_law ?c_law ?k_law ?aC ?iI ?iE ?pg ?hd ?po ?sa ?mk ?kc ?nP ?nW ?ow_ha ?ow_hn ?ow_htk ?ow_hm ?ow_kI ?ow_kB ?ow_kT ?ow_kL ?ow_kS ?ow_kC ?ow_tC ?ow_nC ?ow_nT ?bC ?bxL ?bsa ?bga ?bgg ?bnb ?ba1 ?bt1 ?bl1 ?bc1 ?bkC ?beC ?btC ?bhC ?biC ?bsC ?n_len ?n_isinstance ?n_int ?n_bool ?n_str ?n_tuple ?n_list ?n_range ?n_zip ?n_max ?n_all ?most
    (case aC => k_is)
    (case bC => k_is)
    (case a_isint => k_is)
    (case l_isint => k_is)
    (case c_isint => k_is)
    (case k_isint => k_is)
    (case a_ishouse => k_is)
    (case l_ishouse => k_is)
    (case c_ishouse => k_is)
    (case k_ishouse => k_is)
    (case a_init => k_is)
    (case l_init => k_is)
    (case c_init => k_is)
    (case k_init => k_is)
    (case a_eq => k_is)
    (case l_eq => k_is)
    (case c_eq => k_is)
    (case k_eq => k_is)
    (case a_arepar => k_is)
    (case l_arepar => k_is)
    (case c_arepar => k_is)
    (case k_arepar => k_is)
    (case a_come => k_is)
    (case l_come => k_is)
    (case c_come => k_is)
    (case k_come => k_is)
    (case a_arewor => k_is)
    (case l_arewor => k_is)
    (case c_arewor => k_is)
    (case k_arewor => k_is)
    (case a_many => k_is)
    (case l_many => k_is)
    (case c_many => k_is)
    (case k_many => k_is)
    (case a_lhand => k_is)
    (case l_lhand => k_is)
    (case c_lhand => k_is)
    (case k_lhand => k_is)
    (case a_take => k_is)
    (case l_take => k_is)
    (case c_take => k_is)
    (case k_take => k_is)
    (case a_pick => k_is)
    (case l_pick => k_is)
    (case c_pick => k_is)
    (case k_pick => k_is)
    (case a_lisint => k_is)
    (case l_lisint => k_is)
    (case c_lisint => k_is)
    (case k_lisint => k_is)
    (case a_within => k_is)
    (case l_within => k_is)
    (case c_within => k_is)
    (case k_within => k_is)
    (case a_same => k_is)
    (case l_same => k_is)
    (case c_same => k_is)
    (case k_same => k_is)
    (case a_odd => k_is)
    (case l_odd => k_is)
    (case c_odd => k_is)
    (case k_odd => k_is)
    (case a_value => k_is)
    (case l_value => k_is)
    (case c_value => k_is)
    (case k_value => k_is)
    (case a_parents => k_is)
    (case l_parents => k_is)
    (case c_parents => k_is)
    (case k_parents => k_is)
    (case a_plain => k_is)
    (case l_plain => k_is)
    (case c_plain => k_is)
    (case k_plain => k_is)
    (case a_lup => k_is)
    (case l_lup => k_is)
    (case c_lup => k_is)
    (case k_lup => k_is)
    (case a_lroot => k_is)
    (case l_lroot => k_is)
    (case c_lroot => k_is)
    (case k_lroot => k_is)
    (case a_lbelow => k_is)
    (case l_lbelow => k_is)
    (case c_lbelow => k_is)
    (case k_lbelow => k_is)
    (case a_pright => k_is)
    (case l_pright => k_is)
    (case c_pright => k_is)
    (case k_pright => k_is)
    (case a_bad => k_is)
    (case l_bad => k_is)
    (case c_bad => k_is)
    (case k_bad => k_is)
    (case a_spoilt => k_is)
    (case l_spoilt => k_is)
    (case c_spoilt => k_is)
    (case k_spoilt => k_is)
    (case a_made => k_is)
    (case l_made => k_is)
    (case c_made => k_is)
    (case k_made => k_is)
    (case a_law => k_is)
    (case l_law => k_is)
    (case c_law => k_is)
    (case k_law => k_is)
    (case iI => k_is)
    (case iE => k_is)
    (case pg => k_is)
    (case hd => k_is)
    (case po => k_is)
    (case sa => k_is)
    (case mk => k_is)
    (case kc => k_is)
    (case nP => k_is)
    (case nW => k_is)
    (case ow_ha => k_is)
    (case ow_hn => k_is)
    (case ow_htk => k_is)
    (case ow_hm => k_is)
    (case ow_kI => kit_is)
    (case ow_kB => kit_is)
    (case ow_kT => kit_is)
    (case ow_kL => kit_is)
    (case ow_kS => kit_is)
    (case ow_kC => kit_is)
    (case ow_tC => kit_is)
    (case ow_nC => k_is)
    (case ow_nT => k_is)
    (case bxL => k_is)
    (case bsa => k_is)
    (case bga => k_is)
    (case bgg => k_is)
    (case bnb => k_is)
    (case ba1 => k_is)
    (case bt1 => k_is)
    (case bl1 => k_is)
    (case bc1 => k_is)
    (case bkC => k_is)
    (case beC => k_is)
    (case btC => k_is)
    (case bhC => k_is)
    (case biC => k_is)
    (case bsC => first | rfl | k_is)
    (case n_len => k_is)
    (case n_isinstance => k_is)
    (case n_int => k_is)
    (case n_bool => k_is)
    (case n_str => k_is)
    (case n_tuple => k_is)
    (case n_list => k_is)
    (case n_range => k_is)
    (case n_zip => k_is)
    (case n_max => k_is)
    (case n_all => k_is)
    (case most => k_is)
