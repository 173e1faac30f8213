import PyProof.Rows.All
import Wide.All
import OpenK.AllK
import Wide.FinOn
import HandS.ForMost
import HandS.IsInst
import HandS.Conv
import HandS.Zip
import HandS.Style
import HandS.Wide
import HandS.Codes
import HandS.TupAny
import HandS.TupMul
import HandS.SlotsOwn
import HandS.ForExc
import PyProof.EqLayable
import HandS.WideBits
import PySem.Challenge.RW_cutlinked_k14_whole_papers_judged
set_option Elab.async false
set_option linter.all false
set_option maxRecDepth 100000
set_option maxHeartbeats 4000000
namespace W2
open PySem PySem.Spec PyProof.Rows L2
/-! ### x is True, x is False, whatever x is -/
def rIsBo : R2 := fun x y H Q => ∃ b : Bool, y = .bl b ∧ Q (.bl (decide (x = .bl b))) H
theorem op_isB {X : Cx} : OpR X (compareOp .Is) rIsBo := by
  intro pins s σ H x y v u Q I rx ry h
  obtain ⟨b, rfl, q⟩ := h
  cases (show u = Value.bool b from ry)
  by_cases e : x = .bl b
  · subst e
    cases (show v = Value.bool b from rx)
    exact wpAny_is_self rfl ⟨.bl true, H, I, rfl, by simpa using q⟩
  · have nv : v ≠ Value.bool b := fun z => e (rx.inj (show RelV (.bl b) v from z))
    have q' : Q (.bl false) H := by rw [decide_eq_false e] at q; exact q
    cases x with
    | non => cases (show v = Value.none from rx); exact wpAny_is_other rfl (fun z => nomatch z) ⟨.bl false, H, I, rfl, q'⟩
    | bl a => cases (show v = Value.bool a from rx); exact wpAny_is_other rfl nv ⟨.bl false, H, I, rfl, q'⟩
    | int i => obtain ⟨t, rfl⟩ := rx; exact wpAny_is_other rfl nv ⟨.bl false, H, I, rfl, q'⟩
    | str i => obtain ⟨t, rfl⟩ := rx; exact wpAny_is_other rfl nv ⟨.bl false, H, I, rfl, q'⟩
    | byt i => obtain ⟨t, rfl⟩ := rx; exact wpAny_is_other rfl nv ⟨.bl false, H, I, rfl, q'⟩
    | flt i => obtain ⟨t, rfl⟩ := rx; exact wpAny_is_other rfl nv ⟨.bl false, H, I, rfl, q'⟩
    | ref a => cases (show v = Value.ref a from rx); exact wpAny_is_other rfl nv ⟨.bl false, H, I, rfl, q'⟩
    | ty n => cases (show v = Value.type n from rx); exact wpAny_is_other rfl nv ⟨.bl false, H, I, rfl, q'⟩
/-! ### a def to be called -/
structure Cal (P : Program) (w : World) (K : PySem.W.Frag) (mg : Str → Option Value) (base : Heap) (k : Nat) (x : Str) (ps : List Str) (sp : Sp) : Prop where
  ex : ∃ f fd, FnOk P w K mg base CX0 k f fd ps sp ∧ mg x = some (.ref f) ∧ PySem.W.keepIn K (.ref f) = true ∧ Binds K fd ps []
/-- a def as the top has left it -/
structure Def (K : PySem.W.Frag) (mg : Str → Option Value) (x : Str) (st : Stmt) (ps : List Str) : Prop where
  ex : ∃ f fd, Fun K x x st f fd ∧ mg x = some (.ref f) ∧ Binds K fd ps []
section
variable {X : Cx} {k j : Nat} {x : Str} {ps : List Str} {sp : Sp} {e : Expr} {es : List Expr} {t : TA} {p pos : Pos}
theorem pcal (C : Cal X.prog X.w X.K X.mg X.base k x ps sp) (hr : Room j X.A) (hk : k ≤ j) (hg : Gl X x) (ha : PA X (e :: es) t) (hdb : (x == ("__debug__" : Str)) = false := by decide) (he : starEach (e :: es) X.env = (false, eval e X.env) :: starEach es X.env := by rfl) (hpl : (backTo pos (starEach es X.env)).any (·.1) = false := by rfl) :
    PE X (.Call (.Name x p) (e :: es) [] pos) (tCall sp [] E0 t) := by
  obtain ⟨f, fd, F, hm, kp, b⟩ := C.ex
  exact pe_call F (hr.mono hk) hg hm kp b .nil pass0 ha hdb he hpl
end
theorem Def.cal {P : Program} {w : World} {K : PySem.W.Frag} {mg : Str → Option Value} {base : Heap} {k : Nat} {x : Str} {st : Stmt} {N ps : List Str} {sp : Sp} (D : Def K mg x st ps) (S : FnScope N ps (defScope st)) (len : ∀ vs H Q E, sp vs H Q E → vs.length = ps.length)
    (hbody : ∀ (f : Addr) (cdv : Value) (A : Around) (outer : List Env) (s : Shared) (H : Hp) (vs : List V) (Q : VK) (E : XK), Room k (A.deeper (envOfC x (defScope st) s.heap.objs.size f cdv)) → sp vs H Q E →
      ∃ t, PSs (cxOf CX0 P w K mg base N x (defScope st) f cdv A outer s H E).nox (defBody st) t ∧ t { nx := fun _ H' => Q .non H', rt := Q } (start N vs) H) : Cal P w K mg base (k + 1) x ps sp := by
  obtain ⟨f, fd, F, hm, b⟩ := D.ex
  exact ⟨f, fd, F.ok S len (hbody f), hm, F.kp, b⟩
/-! ### rules whose reading names K itself (within a comprehension's block) -/
section
variable {X : Cx} {K : PySem.W.Frag}
theorem call_lenK (h : X.K = K) : CallR X (.builtin "len") (fun xs H Q => ∃ p ys, xs = [.ref p] ∧ (SqL K H p ys ∨ SqT K H p ys) ∧ Q (.int ys.length) H) := h ▸ call_len_seq
theorem call_isiK1 (h : X.K = K) : CallR X (.builtin "isinstance") (rIsi K) := h ▸ call_isi
theorem op_inK (h : X.K = K) : OpR X (compareOp .In) (rIn K false) := h ▸ op_in_seq
theorem ix_listK (h : X.K = K) : IxR X (rIxL K) := h ▸ ix_list
theorem ix_tupK (h : X.K = K) : IxR X (rIxT K) := h ▸ ix_tup
end
/-! ### heaps -/
/-- all but h stays -/
def Bt (h : Addr) (H H' : Hp) : Prop := ∀ b o, b ≠ h → H b = some o → H' b = some o
theorem Bt.refl (h : Addr) (H : Hp) : Bt h H H := fun _ _ _ e => e
theorem Bt.trans {h : Addr} {H H1 H2 : Hp} (a : Bt h H H1) (b : Bt h H1 H2) : Bt h H H2 := fun c o n e => b c o n (a c o n e)
theorem Bt.of {h : Addr} {H H' : Hp} (a : Same H H') : Bt h H H' := fun c o _ e => a c o e
theorem Bt.upd {h : Addr} {H H' : Hp} {o : HO} (a : Bt h H H') : Bt h H (upd H' h o) := fun c u n e => by rw [upd_ne n]; exact a c u n e
theorem same_upd {H : Hp} {p : Addr} {o : HO} (h : H p = none) : Same H (upd H p o) := fun b x e => by rw [upd_ne (ne_of_none e h)]; exact e
theorem Same.upd {H H' : Hp} {p : Addr} {o : HO} (a : Same H H') (h : H p = none) : Same H (upd H' p o) := fun b x e => by rw [upd_ne (ne_of_none e h)]; exact a b x e
theorem Same.new {H H' : Hp} {p : Addr} {o : HO} (a : Same H H') (h : H' p = none) : Same H (L2.upd H' p o) := a.trans (same_upd h)
theorem Bt.new {h : Addr} {H H' : Hp} {p : Addr} {o : HO} (a : Bt h H H') (hp : H' p = none) : Bt h H (L2.upd H' p o) := a.trans (Bt.of (same_upd hp))
theorem Bt.free {h p : Addr} {H H' : Hp} (a : Bt h H H') (n : p ≠ h) (hp : H' p = none) : H p = none := by
  cases e : H p with
  | none => rfl
  | some o => rw [a p o n e] at hp; cases hp
def Ret (v : V) (H : Hp) (Q : VK) : Prop := ∀ H', Same H H' → Q v H'
def RetL (xs : List V) (H : Hp) (Q : VK) : Prop := ∀ (H' : Hp) (p : Addr), Same H H' → H p = none → H' p = some (.lst xs) → Q (.ref p) H'
def RetT (xs : List V) (H : Hp) (Q : VK) : Prop := ∀ (H' : Hp) (p : Addr), Same H H' → H p = none → H' p = some (.tup xs) → Q (.ref p) H'
theorem small {n : Nat} (h : n ≤ 100000) : n ≤ sizeLine := Nat.le_trans h (by decide)
theorem smalls {n : Nat} (h : n < 100000) : n < sizeLine := Nat.lt_of_lt_of_le h (by decide)
end W2
namespace W2
open PySem PySem.Spec PyProof.Rows L2
theorem M31 : (0 : Int) < 2147483647 := by decide
theorem M30 : (0 : Int) < 2147483399 := by decide
theorem iteB {c : Bool} {A B : Prop} (h1 : c = true → A) (h2 : c = false → B) : if c = true then A else B := by
  cases c with
  | true => exact h1 rfl
  | false => exact h2 rfl
theorem atI_last {α : Type} {xs : List α} {v : α} (h : xs.getLast? = some v) : atI xs (-1) = some v := by
  rw [List.getLast?_eq_getElem?] at h
  have hn := (List.getElem?_eq_some_iff.mp h).1
  unfold atI ixN
  rw [if_neg (by decide), if_pos (by omega)]
  show xs[((-1 : Int) + (xs.length : Int)).toNat]? = some v
  rw [show ((-1 : Int) + (xs.length : Int)).toNat = xs.length - 1 by omega]
  exact h
theorem cut_to (xs : List V) (k : Nat) (h : k ≤ xs.length) : cutV xs none (some (k : Int)) = xs.take k := by
  unfold cutV
  rw [HT.sIx_none, show HT.sIx xs.length xs.length (some (k : Int)) = min k xs.length from HT.sIx_nat xs.length xs.length k, Nat.min_eq_left h]
  rfl
/-- a list whose items are ints: kinds -/
theorem isi_int {K : PySem.W.Frag} {H : Hp} {i : Int} : TyX K H (.int i) (.type "int") := .base (.int i)
end W2
namespace W2
open PySem PySem.Spec PyProof.Rows L2
theorem ixN_nat {n y : Nat} (h : y < n) : ixN n (y : Int) = some y := by
  unfold ixN
  rw [if_pos (by omega), if_pos (by omega), Int.toNat_natCast]
end W2
namespace W2
inductive Ch (ps : List (Option Nat)) : Nat → List Nat → Prop
  | root {h : Nat} : ps[h]? = some none → Ch ps h [h]
  | step {h p : Nat} {l : List Nat} : ps[h]? = some (some p) → Ch ps p l → Ch ps h (h :: l)
theorem Ch.head {ps : List (Option Nat)} {h : Nat} {l : List Nat} (c : Ch ps h l) : ∃ r, l = h :: r := by
  cases c with
  | root _ => exact ⟨[], rfl⟩
  | step _ _ => exact ⟨_, rfl⟩
theorem Ch.det {ps : List (Option Nat)} {h : Nat} {l : List Nat} (c : Ch ps h l) : ∀ {m : List Nat}, Ch ps h m → l = m := by
  induction c with
  | root e =>
    intro m d
    cases d with
    | root _ => rfl
    | step e2 _ => rw [e] at e2; cases e2
  | step e c ih =>
    intro m d
    cases d with
    | root e2 => rw [e] at e2; cases e2
    | step e2 d2 =>
      rw [e] at e2
      cases e2
      rw [ih d2]
theorem Ch.tail {ps : List (Option Nat)} : ∀ {pre : List Nat} {h x : Nat} {post : List Nat}, Ch ps h (pre ++ x :: post) → Ch ps x (x :: post)
  | [], h, x, post, c => by
    obtain ⟨r, e⟩ := c.head
    have e1 : x = h := by simpa using (List.cons.inj e).1
    subst e1
    exact c
  | a :: pre, h, x, post, c => by
    have go : ∀ m, Ch ps h m → m = a :: (pre ++ x :: post) → Ch ps x (x :: post) := by
      intro m d e
      cases d with
      | root _ =>
        have := (List.cons.inj e).2
        cases pre <;> simp at this
      | step _ d2 =>
        have e2 := (List.cons.inj e).2
        subst e2
        exact Ch.tail d2
    exact go _ c rfl
theorem Ch.lt {ps : List (Option Nat)} {h : Nat} {l : List Nat} (c : Ch ps h l) : ∀ x ∈ l, x < ps.length := by
  induction c with
  | @root h e =>
    intro x hx
    have q : x = h := by simpa using hx
    subst q
    exact (List.getElem?_eq_some_iff.mp e).1
  | step e c ih =>
    intro x hx
    rcases List.mem_cons.mp hx with rfl | hx
    · exact (List.getElem?_eq_some_iff.mp e).1
    · exact ih x hx
theorem Ch.nodup {ps : List (Option Nat)} {h : Nat} {l : List Nat} (c : Ch ps h l) : l.Nodup := by
  induction c with
  | root e => simp
  | @step h p l e c ih =>
    refine List.nodup_cons.mpr ⟨fun hm => ?_, ih⟩
    obtain ⟨pre, post, e2⟩ := List.append_of_mem hm
    subst e2
    have d := Ch.tail c
    have d2 : Ch ps h (h :: (pre ++ h :: post)) := .step e c
    have q := congrArg List.length (d.det d2)
    simp at q
    omega
theorem Ch.last {ps : List (Option Nat)} {h : Nat} {l : List Nat} (c : Ch ps h l) : ∃ r, l.getLast? = some r ∧ ps[r]? = some none := by
  induction c with
  | root e => exact ⟨_, rfl, e⟩
  | @step h p l e c ih =>
    obtain ⟨r, e1, e2⟩ := ih
    refine ⟨r, ?_, e2⟩
    obtain ⟨z, rfl⟩ := c.head
    rw [List.getLast?_cons_cons]
    exact e1
/-- at place i of the way up: the parent -/
theorem Ch.next {ps : List (Option Nat)} {h : Nat} {l : List Nat} (c : Ch ps h l) {i : Nat} {x : Nat} (hx : l[i]? = some x) : (ps[x]? = some none ∧ i + 1 = l.length) ∨ (∃ y, ps[x]? = some (some y) ∧ l[i + 1]? = some y) := by
  have hi := (List.getElem?_eq_some_iff.mp hx).1
  have hs : l = l.take i ++ x :: l.drop (i + 1) := by
    have e : l.drop i = x :: l.drop (i + 1) := by
      rw [List.drop_eq_getElem_cons hi]
      congr 1
      exact (List.getElem?_eq_some_iff.mp hx).2
    rw [← e, List.take_append_drop]
  rw [hs] at c
  have d := Ch.tail c
  generalize hq : l.drop (i + 1) = q at d
  cases d with
  | root e =>
    have := congrArg List.length hq
    simp at this
    exact .inl ⟨e, by omega⟩
  | @step _ y _ e d2 =>
    obtain ⟨r, rfl⟩ := d2.head
    refine .inr ⟨y, e, ?_⟩
    have := congrArg (fun z => z[0]?) hq
    simpa [List.getElem?_drop] using this
theorem Ch.par_lt {ps : List (Option Nat)} {h p : Nat} {l : List Nat} (c : Ch ps h l) (e : ps[h]? = some (some p)) : p < ps.length := by
  cases c with
  | root e2 => rw [e] at e2; cases e2
  | step e2 c2 =>
    rw [e] at e2
    cases e2
    obtain ⟨r, e3⟩ := c2.head
    exact c2.lt _ (by rw [e3]; simp)
open Classical in
noncomputable def up (ps : List (Option Nat)) (h : Nat) : List Nat := if e : ∃ l, Ch ps h l then e.choose else []
theorem up_of {ps : List (Option Nat)} {h : Nat} {l : List Nat} (c : Ch ps h l) : up ps h = l := by
  unfold up
  rw [dif_pos ⟨l, c⟩]
  exact (Exists.choose_spec (⟨l, c⟩ : ∃ l, Ch ps h l)).det c
/-- a right forest -/
def Tree (ps : List (Option Nat)) : Prop := ∀ h, h < ps.length → Ch ps h (up ps h) ∧ (up ps h).length ≤ ps.length
theorem tree_of {ps : List (Option Nat)} (h : ∀ h, h < ps.length → ∃ l, Ch ps h l ∧ l.length ≤ ps.length) : Tree ps := fun x hx => by
  obtain ⟨l, c, z⟩ := h x hx
  rw [up_of c]
  exact ⟨c, z⟩
/-- by an order: each house's parent stands ahead -/
theorem tree_ord {ps : List (Option Nat)} {o : List Nat} (hl : o.length = ps.length) (sur : ∀ h, h < ps.length → ∃ k : Nat, o[k]? = some h)
    (hp : ∀ (k : Nat) h, o[k]? = some h → ps[h]? = some none ∨ ∃ j p, j < k ∧ o[j]? = some p ∧ ps[h]? = some (some p)) : Tree ps := by
  have go : ∀ (k : Nat), ∀ (m : Nat), m ≤ k → ∀ h, o[m]? = some h → ∃ l, Ch ps h l ∧ l.length ≤ m + 1 := by
    intro k
    induction k with
    | zero =>
      intro m hm h e
      rcases hp m h e with q | ⟨j, p, hj, _, _⟩
      · exact ⟨[h], .root q, by simp⟩
      · omega
    | succ k ih =>
      intro m hm h e
      rcases hp m h e with q | ⟨j, p, hj, ej, q⟩
      · exact ⟨[h], .root q, by simp⟩
      · obtain ⟨l, c, z⟩ := ih j (by omega) p ej
        exact ⟨h :: l, .step q c, by simp; omega⟩
  refine tree_of fun h hh => ?_
  obtain ⟨k, ek⟩ := sur h hh
  obtain ⟨l, c, z⟩ := go k k (Nat.le_refl _) h ek
  have := (List.getElem?_eq_some_iff.mp ek).1
  exact ⟨l, c, by omega⟩
/-! ### the deepest common house -/
def fnd (l m : List Nat) : Option Nat := l.find? fun x => decide (x ∈ m)
theorem find_first {p : Nat → Bool} : ∀ {l : List Nat} {i : Nat} {x : Nat}, l[i]? = some x → p x = true → (∀ (j : Nat) y, j < i → l[j]? = some y → p y = false) → l.find? p = some x
  | [], i, x, h, _, _ => by simp at h
  | a :: l, 0, x, h, hp, _ => by
    have e : a = x := by simpa using h
    subst e
    rw [List.find?_cons, hp]
  | a :: l, i + 1, x, h, hp, hn => by
    have ha : p a = false := hn 0 a (by omega) rfl
    rw [List.find?_cons, ha]
    exact find_first (l := l) (i := i) (by simpa using h) hp fun j y hj e => hn (j + 1) y (by omega) (by simpa using e)
theorem fnd_some {l m : List Nat} {i x : Nat} (h : l[i]? = some x) (hm : x ∈ m) (hn : ∀ (j : Nat) y, j < i → l[j]? = some y → y ∉ m) : fnd l m = some x :=
  find_first h (decide_eq_true hm) fun j y hj e => decide_eq_false (hn j y hj e)
theorem fnd_none {l m : List Nat} (hn : ∀ (j : Nat) y, l[j]? = some y → y ∉ m) : fnd l m = none := by
  unfold fnd
  rw [List.find?_eq_none]
  intro x hx
  obtain ⟨j, hj, e⟩ := List.getElem_of_mem hx
  have := hn j x (List.getElem?_eq_some_iff.mpr ⟨hj, e⟩)
  simpa using this
theorem fnd_split {l m : List Nat} {x : Nat} (h : fnd l m = some x) : x ∈ m ∧ ∃ pre post, l = pre ++ x :: post ∧ ∀ y ∈ pre, y ∉ m := by
  unfold fnd at h
  rw [List.find?_eq_some_iff_append] at h
  obtain ⟨h1, as, bs, e, h2⟩ := h
  exact ⟨by simpa using h1, as, bs, e, fun y hy => by simpa using h2 y hy⟩
theorem fnd_comm {ps : List (Option Nat)} {a b : Nat} {l m : List Nat} (ca : Ch ps a l) (cb : Ch ps b m) : fnd l m = fnd m l := by
  cases e : fnd l m with
  | none =>
    symm
    refine fnd_none fun j y hy hm => ?_
    have ym : y ∈ m := List.mem_of_getElem? hy
    unfold fnd at e
    rw [List.find?_eq_none] at e
    have := e y hm
    simp [ym] at this
  | some x =>
    obtain ⟨xm, pre, post, el, hpre⟩ := fnd_split e
    obtain ⟨pre2, post2, em⟩ := List.append_of_mem xm
    rw [el] at ca
    rw [em] at cb
    have nb := cb.nodup
    have e2 : x :: post = x :: post2 := (Ch.tail ca).det (Ch.tail cb)
    symm
    refine fnd_some (i := pre2.length) (by rw [em]; simp) (by rw [el]; simp) fun j y hj hy yl => ?_
    have yp : y ∈ pre2 := by
      rw [em, List.getElem?_append_left hj] at hy
      exact List.mem_of_getElem? hy
    rw [el] at yl
    rcases List.mem_append.mp yl with h1 | h1
    · exact hpre y h1 (by rw [em]; exact List.mem_append_left _ yp)
    · rw [e2] at h1
      exact (List.nodup_append.mp nb).2.2 y yp y h1 rfl
/-! ### the way -/
def wayOf (l m : List Nat) (x : Nat) : List Nat := l.take (l.idxOf x) ++ [x] ++ (m.take (m.idxOf x)).reverse
theorem take_idx {l : List Nat} {x : Nat} (h : x ∈ l) : l.take (l.idxOf x + 1) = l.take (l.idxOf x) ++ [x] := by
  have hl : l.idxOf x < l.length := List.idxOf_lt_length_of_mem h
  rw [List.take_add_one, List.getElem?_eq_getElem hl, List.getElem_idxOf hl]
  rfl
theorem rev_idx (l : List Nat) : (List.range l.length).map (fun k => l.getD (l.length - 1 - k) 0) = l.reverse := by
  apply List.ext_getElem?
  intro i
  by_cases hi : i < l.length
  · rw [List.getElem?_map, List.getElem?_range hi, List.getElem?_reverse hi]
    simp only [Option.map_some]
    have h2 : l.length - 1 - i < l.length := by omega
    rw [List.getD_eq_getElem?_getD, List.getElem?_eq_getElem h2]
    rfl
  · rw [List.getElem?_eq_none (by simpa using hi), List.getElem?_eq_none (by simpa using hi)]
theorem nodup_len : ∀ {n : Nat} {l : List Nat}, l.Nodup → (∀ x ∈ l, x < n) → l.length ≤ n
  | 0, l, _, h => by
    cases l with
    | nil => exact Nat.le_refl _
    | cons a r => exact absurd (h a (by simp)) (by omega)
  | n + 1, l, nd, h => by
    by_cases hm : n ∈ l
    · have nd2 : (l.erase n).Nodup := nd.erase n
      have h2 : ∀ x ∈ l.erase n, x < n := fun x hx => by
        have h3 := h x (List.mem_of_mem_erase hx)
        have h4 : x ≠ n := fun e => by
          subst e
          exact (List.Nodup.mem_erase_iff nd).mp hx |>.1 rfl
        omega
      have h5 := nodup_len nd2 h2
      rw [List.length_erase_of_mem hm] at h5
      omega
    · have h2 : ∀ x ∈ l, x < n := fun x hx => by
        have h3 := h x hx
        have h4 : x ≠ n := fun e => hm (e ▸ hx)
        omega
      exact Nat.le_succ_of_le (nodup_len nd h2)
theorem Ch.len {ps : List (Option Nat)} {h : Nat} {l : List Nat} (c : Ch ps h l) : l.length ≤ ps.length := nodup_len c.nodup c.lt
/-- each parent is a house -/
def Inr (ps : List (Option Nat)) : Prop := ∀ (k q : Nat), ps[k]? = some (some q) → q < ps.length
theorem Tree.inr {ps : List (Option Nat)} (t : Tree ps) : Inr ps := fun k q e => (t k (List.getElem?_eq_some_iff.mp e).1).1.par_lt e
theorem tree_iff {ps : List (Option Nat)} : Tree ps ↔ ∀ h, h < ps.length → ∃ l, Ch ps h l :=
  ⟨fun t h hh => ⟨_, (t h hh).1⟩, fun t => tree_of fun h hh => let ⟨l, c⟩ := t h hh; ⟨l, c, c.len⟩⟩
theorem no_next {ps : List (Option Nat)} (ir : Inr ps) {h : Nat} (hh : h < ps.length) (n : ¬ ∃ l, Ch ps h l) : ∃ q, ps[h]? = some (some q) ∧ q < ps.length ∧ ¬ ∃ l, Ch ps q l := by
  have e : ps[h]? = some ps[h] := List.getElem?_eq_getElem hh
  cases q : ps[h] with
  | none => rw [q] at e; exact absurd ⟨_, .root e⟩ n
  | some q' =>
    rw [q] at e
    exact ⟨q', e, ir _ _ e, fun ⟨l, c⟩ => n ⟨_, .step e c⟩⟩
end W2
namespace W2
open PySem PySem.Spec PyProof.Rows L2
/-! ### kinds of things -/
structure Own (K : PySem.W.Frag) (C : Addr) : Prop where
  cl : Cls K C
  ha : PySem.W.findIn K (.ref C) "__class__" = some (some (.builtin "object.__class__"))
  hn : PySem.W.specialIn K (.builtin "object.__class__") "__get__" = some (some (.builtin "getset_descriptor.__get__"))
  htk : PySem.W.takesIn K (.builtin "object.__class__") = some true
  hm : PySem.W.mroIn K C (.type "object") = some true
  kI : PySem.W.kitOne K (.ref C) (.type "int") = some false
  kB : PySem.W.kitOne K (.ref C) (.type "bool") = some false
  kT : PySem.W.kitOne K (.ref C) (.type "tuple") = some false
  kL : PySem.W.kitOne K (.ref C) (.type "list") = some false
  kS : PySem.W.kitOne K (.ref C) (.type "str") = some false
  kC : PySem.W.kitOne K (.ref C) (.ref C) = some true
  tC : PySem.W.kitOne K (.type "tuple") (.ref C) = some false
  nC : PySem.W.notFirst K C (.ref C) = true
  nT : PySem.W.notFirst K C (.type "tuple") = true
/-- a thing of a known kind; a list is not the hand at h -/
inductive Any (C h : Addr) (H : Hp) : V → Prop
  | non : Any C h H .non
  | bl (b : Bool) : Any C h H (.bl b)
  | int (i : Int) : Any C h H (.int i)
  | str (s : Str) : Any C h H (.str s)
  | lst {a : Addr} {xs : List V} (n : a ≠ h) (e : H a = some (.lst xs)) : Any C h H (.ref a)
  | tup {a : Addr} {xs : List V} (e : H a = some (.tup xs)) : Any C h H (.ref a)
  | dic {a : Addr} {kvs : List (Key × V)} (n : a ≠ h) (e : H a = some (.dK kvs)) : Any C h H (.ref a)
  | ins {a dx : Addr} {fs : List (Str × V)} (n : a ≠ h) (e : H a = some (.ins C dx fs)) : Any C h H (.ref a)
theorem Any.bt {C h : Addr} {H H' : Hp} {x : V} {l : List V} (a : Any C h H x) (hh : H h = some (.lst l)) (s : Bt h H H') : Any C h H' x := by
  cases a with
  | non => exact .non
  | bl b => exact .bl b
  | int i => exact .int i
  | str i => exact .str i
  | lst n e => exact .lst n (s _ _ n e)
  | tup e => exact .tup (s _ _ (ne_of e hh (fun z => nomatch z)) e)
  | dic n e => exact .dic n (s _ _ n e)
  | ins n e => exact .ins n (s _ _ n e)
theorem Any.same {C h : Addr} {H H' : Hp} {x : V} (a : Any C h H x) (s : Same H H') : Any C h H' x := by
  cases a with
  | non => exact .non
  | bl b => exact .bl b
  | int i => exact .int i
  | str i => exact .str i
  | lst n e => exact .lst n (s _ _ e)
  | tup e => exact .tup (s _ _ e)
  | dic n e => exact .dic n (s _ _ e)
  | ins n e => exact .ins n (s _ _ e)
/-- and its items too, if it is a tuple -/
structure Thing (C h : Addr) (H : Hp) (x : V) : Prop where
  any : Any C h H x
  items : ∀ a xs, x = .ref a → H a = some (.tup xs) → ∀ y ∈ xs, Any C h H y
theorem Any.tup_back {C h : Addr} {H H' : Hp} {a : Addr} {xs : List V} (x : Any C h H (.ref a)) (k : ∀ b o, b ≠ h → H b = some o → H' b = some o) (k2 : ∀ ys, H a = some (.tup ys) → H' a = some (.tup ys)) (e : H' a = some (.tup xs)) : H a = some (.tup xs) := by
  cases x with
  | lst n e2 => rw [k _ _ n e2] at e; cases e
  | tup e2 => rw [k2 _ e2] at e; rw [e2, e]
  | dic n e2 => rw [k _ _ n e2] at e; cases e
  | ins n e2 => rw [k _ _ n e2] at e; cases e
theorem Thing.bt {C h : Addr} {H H' : Hp} {x : V} {l : List V} (t : Thing C h H x) (hh : H h = some (.lst l)) (s : Bt h H H') : Thing C h H' x := by
  refine ⟨t.any.bt hh s, fun a xs e hx y hy => ?_⟩
  subst e
  exact (t.items a xs rfl (t.any.tup_back s (fun ys e2 => s _ _ (ne_of e2 hh (fun z => nomatch z)) e2) hx) y hy).bt hh s
theorem Thing.same {C h : Addr} {H H' : Hp} {x : V} (t : Thing C h H x) (s : Same H H') : Thing C h H' x := by
  refine ⟨t.any.same s, fun a xs e hx y hy => ?_⟩
  subst e
  exact (t.items a xs rfl (t.any.tup_back (fun b o _ e => s b o e) (fun ys e2 => s _ _ e2) hx) y hy).same s
theorem Thing.flat {C h : Addr} {H : Hp} {x : V} (a : Any C h H x) (n : ∀ b, x ≠ .ref b) : Thing C h H x := ⟨a, fun b _ e => (n b e).elim⟩
theorem Thing.tup {C h : Addr} {H : Hp} {a : Addr} {xs : List V} (e : H a = some (.tup xs)) (k : ∀ y ∈ xs, Any C h H y) : Thing C h H (.ref a) := ⟨.tup e, fun b ys q hy => by
  cases q
  rw [e] at hy
  cases hy
  exact k⟩
theorem Thing.lst {C h : Addr} {H : Hp} {a : Addr} {xs : List V} (n : a ≠ h) (e : H a = some (.lst xs)) : Thing C h H (.ref a) := ⟨.lst n e, fun b ys q hy => by
  cases q
  rw [e] at hy
  cases hy⟩
theorem Thing.dic {C h : Addr} {H : Hp} {a : Addr} {kvs : List (Key × V)} (n : a ≠ h) (e : H a = some (.dK kvs)) : Thing C h H (.ref a) := ⟨.dic n e, fun b ys q hy => by
  cases q
  rw [e] at hy
  cases hy⟩
theorem Thing.ins {C h : Addr} {H : Hp} {a dx : Addr} {fs : List (Str × V)} (n : a ≠ h) (e : H a = some (.ins C dx fs)) : Thing C h H (.ref a) := ⟨.ins n e, fun b ys q hy => by
  cases q
  rw [e] at hy
  cases hy⟩
def isI : V → Bool
  | .int _ => true
  | _ => false
def isB : V → Bool
  | .bl _ => true
  | _ => false
theorem isI_of {x : V} (h : isI x = true) : ∃ i, x = .int i := by
  cases x <;> first | exact ⟨_, rfl⟩ | cases h
/-- isinstance of such a thing: int, bool, tuple, str -/
theorem any_kit {K : PySem.W.Frag} {C h : Addr} {H : Hp} {x : V} (O : Own K C) (a : Any C h H x) : ∃ t, TyX K H x t ∧ PySem.W.kitOne K t (.type "int") = some (isI x || isB x) ∧ PySem.W.kitOne K t (.type "bool") = some (isB x) := by
  cases a with
  | non => exact ⟨_, .base .non, kit_ty (by decide +kernel), kit_ty (by decide +kernel)⟩
  | bl b => exact ⟨_, .base (.bl b), kit_ty (r := true) (by decide +kernel), kit_ty (r := true) (by decide +kernel)⟩
  | int i => exact ⟨_, .base (.int i), kit_ty (r := true) (by decide +kernel), kit_ty (r := false) (by decide +kernel)⟩
  | str i => exact ⟨_, .base (.str i), kit_ty (r := false) (by decide +kernel), kit_ty (r := false) (by decide +kernel)⟩
  | lst n e => exact ⟨_, .base (.lst e), kit_ty (r := false) (by decide +kernel), kit_ty (r := false) (by decide +kernel)⟩
  | tup e => exact ⟨_, .base (.tup e), kit_ty (r := false) (by decide +kernel), kit_ty (r := false) (by decide +kernel)⟩
  | dic n e => exact ⟨_, .base (.dK e), kit_ty (r := false) (by decide +kernel), kit_ty (r := false) (by decide +kernel)⟩
  | ins n e => exact ⟨_, .base (.ins e O.cl O.ha O.hn O.htk O.hm), O.kI, O.kB⟩
theorem any_tup {K : PySem.W.Frag} {C h : Addr} {H : Hp} {x : V} (O : Own K C) (a : Any C h H x) : ∃ (t : Value) (b : Bool), TyX K H x t ∧ PySem.W.kitOne K t (.type "tuple") = some b ∧ (b = true → ∃ p xs, x = .ref p ∧ H p = some (.tup xs)) ∧ (b = false → ∀ p xs, x = .ref p → H p ≠ some (.tup xs)) := by
  cases a with
  | non => exact ⟨_, false, .base .non, kit_ty (by decide +kernel), (fun z => nomatch z), fun _ p xs z => nomatch z⟩
  | bl b => exact ⟨_, false, .base (.bl b), kit_ty (by decide +kernel), (fun z => nomatch z), fun _ p xs z => nomatch z⟩
  | int i => exact ⟨_, false, .base (.int i), kit_ty (by decide +kernel), (fun z => nomatch z), fun _ p xs z => nomatch z⟩
  | str i => exact ⟨_, false, .base (.str i), kit_ty (by decide +kernel), (fun z => nomatch z), fun _ p xs z => nomatch z⟩
  | lst n e => exact ⟨_, false, .base (.lst e), kit_ty (by decide +kernel), (fun z => nomatch z), fun _ p xs z q => by cases z; rw [e] at q; cases q⟩
  | tup e => exact ⟨_, true, .base (.tup e), kit_ty (by decide +kernel), (fun _ => ⟨_, _, rfl, e⟩), fun z => nomatch z⟩
  | dic n e => exact ⟨_, false, .base (.dK e), kit_ty (by decide +kernel), (fun z => nomatch z), fun _ p xs z q => by cases z; rw [e] at q; cases q⟩
  | ins n e => exact ⟨_, false, .base (.ins e O.cl O.ha O.hn O.htk O.hm), O.kT, (fun z => nomatch z), fun _ p xs z q => by cases z; rw [e] at q; cases q⟩
/-! ### == by an own __eq__ -/
def rEqI (K : PySem.W.Frag) (C : Addr) (sp : Sp) : R2 := fun x y H Q => ∃ a dx fs t, x = .ref a ∧ H a = some (.ins C dx fs) ∧ TyX K H y t ∧ PySem.W.notFirst K C t = true ∧ sp [x, y] H Q E0
theorem op_eqI {X : Cx} {C g : Addr} {n j : Nat} {fd : FuncData} {ps : List Str} {sp : Sp} (hs : PySem.W.findIn X.K (.ref C) "__eq__" = some (some (.ref g))) (hf : PySem.W.isFn X.K (.ref g) = true) (F : FnOk X.prog X.w X.K X.mg X.base CX0 n g fd ps sp) (hb : Binds X.K fd ps [])
    (hr : Room j X.A) (hj : n ≤ j) : OpR X (compareOp .Eq) (rEqI X.K C sp) := by
  intro pins s σ H x y v u Q I rx ry h
  obtain ⟨a, dx, fs, t, rfl, ea, ty, hn, q⟩ := h
  cases (show v = Value.ref a from rx)
  obtain ⟨mA, O, _⟩ := ins_get I.hok ea
  obtain ⟨od, J, _⟩ := O.look
  obtain ⟨P, Z, p, hx⟩ := kit_of I ry ty
  obtain ⟨m, hF⟩ := I.fr
  refine PySem.W.cmp_K (op := .Eq) (tb := t) hr.units0 hF I.ok.mod.kin J (Z.ty _ _ I.kIn p) hn hs hf ?_
  refine wpAny_mono (run_fn (us := [.ref a, u]) (vs := [.ref a, y]) F (hr.mono hj) hb .nil pass0 I (.cons rfl (.cons ry .nil)) q) (fun w s' z => ?_) fun _ _ x => x
  obtain ⟨z', H', I', rz, qz⟩ := z
  exact SlX.cmpback rz ⟨z', H', I', rz, qz⟩
/-! ### a new instance, what is raised wished for at the slots -/
def tMakeS (C : Addr) (sp : Sp) (E : L2.St → XK) (t : TA) : TE := fun σ H Q => t σ H fun vs H1 => ∀ x dx, H1 x = none → H1 dx = none → dx ≠ x → sp (.ref x :: vs) (upd (upd H1 dx (.own x)) x (.ins C dx [])) (fun v H2 => v = .non ∧ Q (.ref x) H2) (E σ)
section
variable {X : Cx} {C f : Addr} {k : Nat} {fd : FuncData} {ps : List Str} {sp : Sp} {CX : CXT} {x : Str} {e : Expr} {es : List Expr} {t : TA} {p pos : Pos} {E : L2.St → XK}
theorem pe_makeS (M : Mk X.K C f) (F : FnOk X.prog X.w X.K X.mg X.base CX k f fd ps sp) (hr : Room (k + 1) X.A) (hg : Gl X x) (hm : X.mg x = some (.ref C)) (hb : Binds X.K fd ps []) (hx : ∀ σ, PassesAt CX X σ (E σ))
    (ha : PA X (e :: es) t) (hdb : (x == ("__debug__" : Str)) = false := by decide) (he : starEach (e :: es) X.env = (false, eval e X.env) :: starEach es X.env := by rfl) (hpl : (backTo pos (starEach es X.env)).any (·.1) = false := by rfl) :
    PE X (.Call (.Name x p) (e :: es) [] pos) (tMakeS C sp E t) := by
  refine ⟨fun pins s σ H Q I h => ?_⟩
  refine wpAny_Call_Name_kw (ld_glob I hg hm ?_ hdb)
  refine PySem.W.callWith_K (h₀ := X.base) I.ok.mod.kin M.kp (thn (ha.run pos pins s σ H _ I h) fun us s1 ⟨vs, H1, I1, r, q⟩ => ⟨I1.kIn, ?_⟩) he hpl
  have hq := q (s1.heap.objs.size + 1) s1.heap.objs.size (I1.hok.fresh (Nat.le_succ _)) (I1.hok.fresh (Nat.le_refl _)) (Nat.ne_of_lt (Nat.lt_succ_self _))
  have I2 := Inv.made (C := C) I1
  have r2 : Vals (V.ref (s1.heap.objs.size + 1) :: vs) (Value.ref (s1.heap.objs.size + 1) :: us) := .cons rfl r
  have hl : (Value.ref (s1.heap.objs.size + 1) :: us ++ []).length = ps.length := by
    have e := r2.length
    rw [F.len _ _ _ _ hq] at e
    rw [List.append_nil]
    exact e.symm
  have b := hb _ (Value.ref (s1.heap.objs.size + 1) :: us) I2.kIn hl
  rw [List.append_nil] at b
  refine wpAny_call (make_map (f := f) I1.kIn M.makes M.init (beq_iff_eq.mp M.fn) (codeAny_mono (F.run _ X.stack _ _ ⟨Value.ref (s1.heap.objs.size + 1) :: us, []⟩ (Value.ref (s1.heap.objs.size + 1) :: us) _ _ (E σ) (hr.make C us [])
    (I2.env0.make C us []) b r2 hq) fun r s' hq' => ?_))
  cases r with
  | error e => exact hx σ pins _ _ e s' I2 hq'
  | ok fl =>
    cases fl with
    | ret u =>
      obtain ⟨v, H', I3, rv, ev, q3⟩ := I2.after hq'
      subst ev
      exact ⟨rv, ⟨V.ref (s1.heap.objs.size + 1), H', I3, rfl, q3⟩⟩
    | next => exact False.elim hq'
    | brk => exact False.elim hq'
    | cont => exact False.elim hq'
end
/-! ### tuples cut and joined -/
theorem catA_of {K : PySem.W.Frag} {a b : Addr} {xs ys : List V} {H : Hp} {Q : VK} (ha : H a = some (.tup xs)) (hb : H b = some (.tup ys)) (hz : xs.length + ys.length ≤ 100000) (k : ∀ r H', Same H H' → H' r = some (.tup (xs ++ ys)) → Q (.ref r) H') : rCatA K (.ref a) (.ref b) H Q := by
  refine ⟨a, b, xs, ys, rfl, rfl, SqT.of ha, SqT.of hb, small hz, fun e => k b H (L2.Same.refl _) ?_, fun _ e => k a H (L2.Same.refl _) ?_, fun _ _ p hp => k p _ (same_upd hp) upd_same⟩
  · rw [e, List.nil_append]
    exact hb
  · rw [e, List.append_nil]
    exact ha
theorem slT_of {K : PySem.W.Frag} {a : Addr} {xs : List V} {lo hi : Option Int} {H : Hp} {Q : VK} (ha : H a = some (.tup xs)) (hn : ¬ (HT.sIx xs.length 0 lo = 0 ∧ HT.sIx xs.length xs.length hi = xs.length)) (k : ∀ p, H p = none → Q (.ref p) (L2.upd H p (.tup (cutV xs lo hi)))) : rSlT K (.ref a) lo hi H Q := ⟨a, xs, rfl, SqT.of ha, hn, k⟩
theorem cut_from (xs : List V) (k : Nat) (h : k ≤ xs.length) : cutV xs (some (k : Int)) none = xs.drop k := by
  unfold cutV
  rw [HT.sIx_none, show HT.sIx xs.length 0 (some (k : Int)) = min k xs.length from HT.sIx_nat xs.length 0 k, Nat.min_eq_left h, ← List.length_drop]
  exact List.take_length
theorem six_to (n k : Nat) (h : k < n) : ¬ (HT.sIx n 0 none = 0 ∧ HT.sIx n n (some (k : Int)) = n) := fun z => by
  have := z.2
  rw [HT.sIx_nat] at this
  omega
theorem six_from (n k : Nat) (h : k < n) : ¬ (HT.sIx n 0 (some ((k + 1 : Nat) : Int)) = 0 ∧ HT.sIx n n none = n) := fun z => by
  have := z.1
  rw [HT.sIx_nat] at this
  omega
end W2
namespace W2
open PySem PySem.Spec PyProof.Rows L2
/-! ### data -/
def ov : Option Nat → V
  | none => .non
  | some k => .int (k : Int)
abbrev nv (k : Nat) : V := .int (k : Int)
abbrev pv' (ps : List (Option Nat)) : List V := ps.map ov
theorem pw_ : ¬ (("parents" : Str) = "worths") := by decide +kernel
theorem wp_ : ¬ (("worths" : Str) = "parents") := by decide +kernel
def pf (a b : Addr) : List (Str × V) := putF "worths" (.ref b) (putF "parents" (.ref a) [])
theorem pf_parents (a b : Addr) : (pf a b).lookup ("parents" : Str) = some (.ref a) := by
  unfold pf
  rw [lookup_putF, if_neg pw_, lookup_putF, if_pos rfl]
theorem pf_worths (a b : Addr) : (pf a b).lookup ("worths" : Str) = some (.ref b) := by
  unfold pf
  rw [lookup_putF, if_pos rfl]
/-! ### lists of houses -/
theorem flat_nv (l : List Nat) : (l.map nv).all flatV = true := by
  rw [List.all_eq_true]
  intro x hx
  obtain ⟨y, _, rfl⟩ := List.mem_map.mp hx
  rfl
theorem eqV_nv (a b : Nat) : eqV (nv a) (nv b) = decide (a = b) := by
  show ((a : Int) == (b : Int)) = decide (a = b)
  rw [Bool.eq_iff_iff, beq_iff_eq, decide_eq_true_iff]
  omega
theorem inV_nv (h : Nat) (l : List Nat) : inV (nv h) (l.map nv) = decide (h ∈ l) := by
  unfold inV
  rw [List.any_map, Bool.eq_iff_iff, List.any_eq_true, decide_eq_true_iff]
  constructor
  · rintro ⟨x, hx, e⟩
    have e2 : eqV (nv x) (nv h) = true := e
    rw [eqV_nv] at e2
    have := of_decide_eq_true e2
    subst this
    exact hx
  · intro hx
    refine ⟨h, hx, ?_⟩
    show eqV (nv h) (nv h) = true
    rw [eqV_nv]
    simp
theorem idx_at {l : List Nat} {x : Nat} (h : x ∈ l) : (l.map nv)[l.idxOf x]? = some (nv x) := by
  have hl : l.idxOf x < l.length := List.idxOf_lt_length_of_mem h
  rw [List.getElem?_map, List.getElem?_eq_getElem hl, List.getElem_idxOf hl]
  rfl
theorem idx_no {l : List Nat} {x : Nat} (m : Nat) (z : V) (hm : m < l.idxOf x) (hz : (l.map nv)[m]? = some z) : eqV z (nv x) = false := by
  rw [List.getElem?_map] at hz
  cases e : l[m]? with
  | none => rw [e] at hz; cases hz
  | some y =>
    rw [e] at hz
    have ez : z = nv y := (Option.some.inj hz).symm
    subst ez
    rw [eqV_nv]
    refine decide_eq_false fun q => ?_
    subst q
    have hl := (List.getElem?_eq_some_iff.mp e).1
    have := List.not_of_lt_findIdx (p := fun z => z == y) (xs := l) (i := m) hm
    rw [(List.getElem?_eq_some_iff.mp e).2] at this
    simp at this
theorem eqV_self (x : Nat) : eqV (nv x) (nv x) = true := by
  rw [eqV_nv]
  simp
theorem rgV_nv (n : Nat) : rgV 0 (n : Int) = (List.range n).map nv := by
  unfold rgV
  rw [Int.sub_zero, Int.toNat_natCast]
  refine List.map_congr_left fun i _ => ?_
  rw [Int.zero_add]
theorem flat_rep (n : Nat) : (List.replicate n [V.non]).flatten = (List.replicate n (none : Option Nat)).map ov := by
  induction n with
  | zero => rfl
  | succ n ih =>
    rw [List.replicate_succ, List.flatten_cons, ih, List.replicate_succ, List.map_cons]
    rfl
/-! ### parents by an order -/
def Par (od : List Nat) (ps : List (Option Nat)) : Prop := ∀ (k g : Nat), od[k]? = some g → ps[g]? = some none ∨ ∃ (j p : Nat), j < k ∧ od[j]? = some p ∧ ps[g]? = some (some p)
theorem par_set {od : List Nat} {ps : List (Option Nat)} (h : Par od ps) (nd : od.Nodup) {k g : Nat} (hk : od[k]? = some g) (hg : g < ps.length) {v : Option Nat} (hv : v = none ∨ ∃ (j p : Nat), j < k ∧ od[j]? = some p ∧ v = some p) : Par od (ps.set g v) := by
  intro k' g' hk'
  by_cases e : g = g'
  · subst e
    have ek : k = k' := nd_ix nd hk hk'
    subst ek
    rw [List.getElem?_set_self hg]
    rcases hv with rfl | ⟨j, p, hj, hp, rfl⟩
    · exact .inl rfl
    · exact .inr ⟨j, p, hj, hp, rfl⟩
  · rw [List.getElem?_set_ne e]
    exact h k' g' hk'
theorem par_tree {od : List Nat} {ps : List (Option Nat)} (h : Par od ps) {n : Nat} (hp : od.Perm (List.range n)) (hn : ps.length = n) : Tree ps := by
  refine tree_ord (o := od) (by rw [hp.length_eq, List.length_range, hn]) (fun x hx => ?_) h
  have : x ∈ od := hp.mem_iff.mpr (List.mem_range.mpr (by omega))
  obtain ⟨i, hi, e⟩ := List.getElem_of_mem this
  exact ⟨i, List.getElem?_eq_some_iff.mpr ⟨hi, e⟩⟩
/-- a Forest -/
structure FAt (C : Addr) (H : Hp) (f : Addr) (ps : List (Option Nat)) (ws : List Int) (dx a b : Addr) : Prop where
  o : H f = some (.ins C dx (pf a b))
  p : H a = some (.tup (ps.map ov))
  w : H b = some (.tup (ws.map V.int))
theorem FAt.same {C : Addr} {H H' : Hp} {f : Addr} {ps : List (Option Nat)} {ws : List Int} {dx a b : Addr} (x : FAt C H f ps ws dx a b) (s : Same H H') : FAt C H' f ps ws dx a b := ⟨s _ _ x.o, s _ _ x.p, s _ _ x.w⟩
theorem FAt.bt {C : Addr} {H H' : Hp} {f h : Addr} {ps : List (Option Nat)} {ws : List Int} {dx a b : Addr} {l : List V} (x : FAt C H f ps ws dx a b) (hh : H h = some (.lst l)) (s : Bt h H H') : FAt C H' f ps ws dx a b :=
  ⟨s _ _ (ne_of x.o hh (fun z => nomatch z)) x.o, s _ _ (ne_of x.p hh (fun z => nomatch z)) x.p, s _ _ (ne_of x.w hh (fun z => nomatch z)) x.w⟩
/-- the hand -/
structure HandAt (H : Hp) (h : Addr) (l : Addr) (ns : List Int) (i b s c : Int) : Prop where
  o : H h = some (.lst [.ref l, .int i, .int b, .int s, .int c])
  n : H l = some (.lst (ns.map V.int))
  i0 : 0 ≤ i
  b0 : 0 ≤ b
  s0 : 0 ≤ s
  s1 : s < 2147483647
def Hand (H : Hp) (h l : Addr) : Prop := ∃ ns i b s c, HandAt H h l ns i b s c
theorem Hand.lst {H : Hp} {h l : Addr} (x : Hand H h l) : ∃ l, H h = some (.lst l) := let ⟨_, _, _, _, _, y⟩ := x; ⟨_, y.o⟩
theorem Hand.row {H : Hp} {h l : Addr} (x : Hand H h l) : ∃ ns, H l = some (.lst ns) := let ⟨_, _, _, _, _, y⟩ := x; ⟨_, y.n⟩
theorem Hand.same {H H' : Hp} {h l : Addr} (x : Hand H h l) (s : Same H H') : Hand H' h l := let ⟨ns, i, b, t, c, y⟩ := x; ⟨ns, i, b, t, c, s _ _ y.o, s _ _ y.n, y.i0, y.b0, y.s0, y.s1⟩
theorem Hand.upd {H : Hp} {h l p : Addr} {o : HO} (x : Hand H h l) (hp : H p = none) : Hand (L2.upd H p o) h l := x.same (same_upd hp)
/-- an object at q, not the hand nor its row, is changed -/
theorem Hand.set {H : Hp} {h l q : Addr} {o : HO} (x : Hand H h l) (n1 : q ≠ h) (n2 : q ≠ l) : Hand (L2.upd H q o) h l := by
  obtain ⟨ns, i, b, s, c, y⟩ := x
  exact ⟨ns, i, b, s, c, by rw [upd_ne n1.symm]; exact y.o, by rw [upd_ne n2.symm]; exact y.n, y.i0, y.b0, y.s0, y.s1⟩

theorem ov_inj {a b : Option Nat} (h : ov a = ov b) : a = b := by
  cases a with
  | none => cases b with
    | none => rfl
    | some k => cases h
  | some k => cases b with
    | none => cases h
    | some m =>
      have e : (k : Int) = (m : Int) := V.int.inj h
      rw [show k = m by omega]
theorem map_inj {α : Type} {f : α → V} (hf : ∀ a b, f a = f b → a = b) : ∀ {l m : List α}, l.map f = m.map f → l = m
  | [], [], _ => rfl
  | [], _ :: _, h => by cases h
  | _ :: _, [], h => by cases h
  | a :: l, b :: m, h => by
    have h1 := (List.cons.inj h).1
    have h2 := (List.cons.inj h).2
    rw [hf a b h1, map_inj hf h2]
theorem ov_maps {l m : List (Option Nat)} (h : l.map ov = m.map ov) : l = m := map_inj (fun _ _ => ov_inj) h
theorem int_maps {l m : List Int} (h : l.map V.int = m.map V.int) : l = m := map_inj (fun _ _ => V.int.inj) h
/-- a house, by value -/
def hsV (n : Int) : V → Bool
  | .int i => decide (0 ≤ i) && decide (i < n)
  | _ => false
def wiV (a b : Int) : V → Bool
  | .int i => decide (a ≤ i) && decide (i ≤ b)
  | _ => false
def okE (n : Int) (x : V) : Bool := decide (x = .non) || hsV n x
theorem okE_ov {n : Nat} {x : V} (h : okE n x = true) : ∃ o : Option Nat, x = ov o ∧ ∀ q, o = some q → q < n := by
  unfold okE at h
  rcases Bool.or_eq_true_iff.mp h with h | h
  · exact ⟨none, of_decide_eq_true h, fun q z => nomatch z⟩
  · cases x with
    | int i =>
      have h2 := Bool.and_eq_true_iff.mp h
      have h3 := of_decide_eq_true h2.1
      have h4 := of_decide_eq_true h2.2
      refine ⟨some i.toNat, ?_, fun q z => ?_⟩
      · show V.int i = V.int ((i.toNat : Nat) : Int)
        rw [Int.toNat_of_nonneg h3]
      · cases z
        omega
    | _ => cases h
theorem ov_okE {n : Nat} {o : Option Nat} (h : ∀ q, o = some q → q < n) : okE n (ov o) = true := by
  cases o with
  | none => rfl
  | some q =>
    have := h q rfl
    show (decide (V.int (q : Int) = V.non) || (decide ((0 : Int) ≤ (q : Int)) && decide ((q : Int) < (n : Int)))) = true
    rw [decide_eq_true (show (0 : Int) ≤ (q : Int) by omega), decide_eq_true (show (q : Int) < (n : Int) by omega)]
    simp
theorem all_ov {n : Nat} : ∀ {xs : List V}, (∀ x ∈ xs, okE n x = true) → ∃ ps : List (Option Nat), xs = ps.map ov ∧ ∀ o ∈ ps, ∀ q, o = some q → q < n
  | [], _ => ⟨[], rfl, fun _ h => by cases h⟩
  | x :: xs, h => by
    obtain ⟨ps, e, k⟩ := all_ov (xs := xs) fun y hy => h y (List.mem_cons_of_mem _ hy)
    obtain ⟨o, e2, k2⟩ := okE_ov (h x List.mem_cons_self)
    refine ⟨o :: ps, by rw [e, e2]; rfl, fun o' ho => ?_⟩
    rcases List.mem_cons.mp ho with rfl | ho
    · exact k2
    · exact k o' ho
theorem int_all : ∀ {xs : List V}, (∀ x ∈ xs, isI x = true) → ∃ ws : List Int, xs = ws.map V.int
  | [], _ => ⟨[], rfl⟩
  | x :: xs, h => by
    obtain ⟨ws, e⟩ := int_all (xs := xs) fun y hy => h y (List.mem_cons_of_mem _ hy)
    obtain ⟨i, e2⟩ := isI_of (h x List.mem_cons_self)
    exact ⟨i :: ws, by rw [e, e2]; rfl⟩
theorem wiV_hsV (n : Nat) (x : V) : wiV 0 ((n : Int) - 1) x = hsV n x := by
  cases x with
  | int i =>
    show (decide (0 ≤ i) && decide (i ≤ (n : Int) - 1)) = (decide (0 ≤ i) && decide (i < (n : Int)))
    have e : decide (i ≤ (n : Int) - 1) = decide (i < (n : Int)) := by
      rw [decide_eq_decide]
      omega
    rw [e]
  | _ => rfl
/-- right parents, right worths -/
def OkP (H : Hp) (x : V) (a : Addr) (ps : List (Option Nat)) : Prop := x = .ref a ∧ H a = some (.tup (ps.map ov)) ∧ Tree ps ∧ 1 ≤ ps.length ∧ ps.length ≤ 64
def OkW (H : Hp) (x : V) (n : Nat) (a : Addr) (ws : List Int) : Prop := x = .ref a ∧ H a = some (.tup (ws.map V.int)) ∧ ws.length = n
theorem OkP.same {H H' : Hp} {x : V} {a : Addr} {ps : List (Option Nat)} (o : OkP H x a ps) (s : Same H H') : OkP H' x a ps := ⟨o.1, s _ _ o.2.1, o.2.2⟩
theorem OkW.same {H H' : Hp} {x : V} {n : Nat} {a : Addr} {ps : List Int} (o : OkW H x n a ps) (s : Same H H') : OkW H' x n a ps := ⟨o.1, s _ _ o.2.1, o.2.2⟩
theorem no_same {C h : Addr} {H H' : Hp} {x : V} (t : Thing C h H x) (s : Same H H') (n : ¬ ∃ a ps, OkP H x a ps) : ¬ ∃ a ps, OkP H' x a ps := fun ⟨a, ps, e, e2, r⟩ => by
  subst e
  exact n ⟨a, ps, rfl, t.any.tup_back (fun b o _ q => s b o q) (fun ys q => s _ _ q) e2, r⟩
theorem now_same {C h : Addr} {H H' : Hp} {x : V} {m : Nat} (t : Thing C h H x) (s : Same H H') (n : ¬ ∃ a ps, OkW H x m a ps) : ¬ ∃ a ps, OkW H' x m a ps := fun ⟨a, ps, e, e2, r⟩ => by
  subst e
  exact n ⟨a, ps, rfl, t.any.tup_back (fun b o _ q => s b o q) (fun ys q => s _ _ q) e2, r⟩
def od : Option Nat → PyData
  | none => .none
  | some k => .int (k : Int)
def eqF (ps qs : List (Option Nat)) (ws vs : List Int) : Bool := PyData.eqv (.tuple (ps.map od)) (.tuple (qs.map od)) && PyData.eqv (.tuple (ws.map PyData.int)) (.tuple (vs.map PyData.int))
theorem dp_ps {K : PySem.W.Frag} {H : Hp} : ∀ ps : List (Option Nat), DpAll K H (ps.map ov) (ps.map od)
  | [] => .nil
  | none :: ps => .cons .non (dp_ps ps)
  | some k :: ps => .cons (.int _) (dp_ps ps)
theorem dp_ws {K : PySem.W.Frag} {H : Hp} : ∀ ws : List Int, DpAll K H (ws.map V.int) (ws.map PyData.int)
  | [] => .nil
  | k :: ws => .cons (.int _) (dp_ws ws)
theorem lay_ps : ∀ ps : List (Option Nat), PyData.canLayAll0 (ps.map od) = true
  | [] => rfl
  | none :: ps => lay_ps ps
  | some k :: ps => lay_ps ps
theorem lay_ws : ∀ ws : List Int, PyData.canLayAll0 (ws.map PyData.int) = true
  | [] => rfl
  | k :: ws => lay_ws ws
theorem dep_ps : ∀ ps : List (Option Nat), PyData.depthAll (ps.map od) ≤ 1
  | [] => Nat.zero_le _
  | none :: ps => Nat.max_le.mpr ⟨by decide, dep_ps ps⟩
  | some k :: ps => Nat.max_le.mpr ⟨by show PyData.depth (.int _) ≤ 1; simp [PyData.depth], dep_ps ps⟩
theorem dep_ws : ∀ ws : List Int, PyData.depthAll (ws.map PyData.int) ≤ 1
  | [] => Nat.zero_le _
  | k :: ws => Nat.max_le.mpr ⟨by show PyData.depth (.int _) ≤ 1; simp [PyData.depth], dep_ws ws⟩
theorem sh_tup {l : List PyData} (h1 : PyData.canLayAll0 l = true) (h2 : PyData.depthAll l ≤ 60) : SeqAt.shaped (.tuple l) = true := by
  refine Bool.and_eq_true_iff.mpr ⟨h1, decide_eq_true ?_⟩
  show PyData.depthAll l + 1 ≤ 64
  omega
theorem sh_ps (ps : List (Option Nat)) : SeqAt.shaped (.tuple (ps.map od)) = true := sh_tup (lay_ps ps) (Nat.le_trans (dep_ps ps) (by decide))
theorem sh_ws (ws : List Int) : SeqAt.shaped (.tuple (ws.map PyData.int)) = true := sh_tup (lay_ws ws) (Nat.le_trans (dep_ws ws) (by decide))
/-- of a forest at f -/
def Fo (C : Addr) (H : Hp) (f : Addr) (ps : List (Option Nat)) (ws : List Int) : Prop := ∃ dx a b, FAt C H f ps ws dx a b
theorem Fo.same {C : Addr} {H H' : Hp} {f : Addr} {ps : List (Option Nat)} {ws : List Int} (x : Fo C H f ps ws) (s : Same H H') : Fo C H' f ps ws := let ⟨dx, a, b, y⟩ := x; ⟨dx, a, b, y.same s⟩
/-- a row of parents, list or tuple -/
def Pa (H : Hp) (p : Addr) (ps : List (Option Nat)) : Prop := H p = some (.lst (ps.map ov)) ∨ H p = some (.tup (ps.map ov))
theorem Pa.same {H H' : Hp} {p : Addr} {ps : List (Option Nat)} (x : Pa H p ps) (s : Same H H') : Pa H' p ps := x.elim (fun e => .inl (s _ _ e)) fun e => .inr (s _ _ e)
theorem Pa.ix {K : PySem.W.Frag} {H : Hp} {p : Addr} {ps : List (Option Nat)} {i : Int} {v : V} {Q : VK} (x : Pa H p ps) (e : atI (ps.map ov) i = some v) (q : Q v H) : rIxL K (.ref p) (.int i) H Q ∨ rIxT K (.ref p) (.int i) H Q :=
  x.elim (fun h => .inl ⟨p, _, _, _, rfl, rfl, SqL.of h, e, q⟩) fun h => .inr ⟨p, _, _, _, rfl, rfl, SqT.of h, e, q⟩
theorem Pa.sq {K : PySem.W.Frag} {H : Hp} {p : Addr} {ps : List (Option Nat)} (x : Pa H p ps) : SqL K H p (ps.map ov) ∨ SqT K H p (ps.map ov) := x.elim (fun h => .inl (SqL.of h)) fun h => .inr (SqT.of h)
/-- alike, to a depth -/
def EqS : Nat → Hp → V → V → Prop
  | 0, _, _, _ => False
  | d + 1, H, x, y => (x = .non ∧ y = .non) ∨ (∃ i, x = .int i ∧ y = .int i) ∨ (∃ i, x = .str i ∧ y = .str i) ∨ ∃ a b xs ys, x = .ref a ∧ y = .ref b ∧ H a = some (.tup xs) ∧ H b = some (.tup ys) ∧ xs.length = ys.length ∧ ∀ (i : Nat) (x y : V), xs[i]? = some x → ys[i]? = some y → EqS d H x y
theorem EqS.same {H H' : Hp} (s : Same H H') : ∀ {d : Nat} {x y : V}, EqS d H x y → EqS d H' x y
  | 0, _, _, h => h.elim
  | d + 1, x, y, h => by
    rcases h with h | h | h | ⟨a, b, xs, ys, h1, h2, h3, h4, h5, h6⟩
    · exact .inl h
    · exact .inr (.inl h)
    · exact .inr (.inr (.inl h))
    · exact .inr (.inr (.inr ⟨a, b, xs, ys, h1, h2, s _ _ h3, s _ _ h4, h5, fun i x y q r => (h6 i x y q r).same s⟩))
theorem EqS.succ {H : Hp} : ∀ {d : Nat} {x y : V}, EqS d H x y → EqS (d + 1) H x y
  | 0, _, _, h => h.elim
  | d + 1, x, y, h => by
    rcases h with h | h | h | ⟨a, b, xs, ys, h1, h2, h3, h4, h5, h6⟩
    · exact .inl h
    · exact .inr (.inl h)
    · exact .inr (.inr (.inl h))
    · exact .inr (.inr (.inr ⟨a, b, xs, ys, h1, h2, h3, h4, h5, fun i x y q r => (h6 i x y q r).succ⟩))
theorem eqs_flat {H : Hp} {d : Nat} {a b : Addr} {xs : List V} (ha : H a = some (.tup xs)) (hb : H b = some (.tup xs)) (h : ∀ x ∈ xs, x = .non ∨ ∃ i, x = .int i) : EqS (d + 2) H (.ref a) (.ref b) := by
  refine .inr (.inr (.inr ⟨a, b, xs, xs, rfl, rfl, ha, hb, rfl, fun i x y hx hy => ?_⟩))
  rw [hx] at hy
  cases hy
  rcases h x (List.mem_of_getElem? hx) with rfl | ⟨j, rfl⟩
  · exact .inl ⟨rfl, rfl⟩
  · exact .inr (.inl ⟨j, rfl, rfl⟩)
theorem flat_ov2 (l : List (Option Nat)) : ∀ x ∈ l.map ov, x = V.non ∨ ∃ i, x = V.int i := fun x hx => by
  obtain ⟨y, _, rfl⟩ := List.mem_map.mp hx
  cases y with
  | none => exact .inl rfl
  | some k => exact .inr ⟨_, rfl⟩
theorem flat_int2 (l : List Int) : ∀ x ∈ l.map V.int, x = V.non ∨ ∃ i, x = V.int i := fun x hx => by
  obtain ⟨y, _, rfl⟩ := List.mem_map.mp hx
  exact .inr ⟨_, rfl⟩
def spIsInt (C : Addr) : Sp := fun vs H Q _ => ∃ (h : Addr) (x : V), vs = [x] ∧ Any C h H x ∧ Ret (.bl (isI x)) H Q
def spBetween (C : Addr) : Sp := fun vs H Q _ => ∃ (h : Addr) (a b : Int) (x : V), vs = [.int a, .int b, x] ∧ Any C h H x ∧ Ret (.bl (wiV a b x)) H Q
def numV : V → Bool
  | .int i => decide (0 ≤ i)
  | _ => false
def spIsNum (C : Addr) : Sp := fun vs H Q _ => ∃ (h : Addr) (x : V), vs = [x] ∧ Any C h H x ∧ Ret (.bl (numV x)) H Q
def spIsHouse (C : Addr) : Sp := fun vs H Q _ => ∃ (h : Addr) (n : Int) (x : V), vs = [.int n, x] ∧ Any C h H x ∧ Ret (.bl (wiV 0 (n - 1) x)) H Q
def spIsMany (C : Addr) : Sp := fun vs H Q _ => ∃ (h : Addr) (x : V), vs = [x] ∧ Any C h H x ∧ Ret (.bl (wiV 1 64 x)) H Q
/-- right forests alone -/
def spComeT : Sp := fun vs H Q _ => ∃ (a : Addr) (ps : List (Option Nat)), vs = [.ref a] ∧ H a = some (.tup (ps.map ov)) ∧ Tree ps ∧ ps.length ≤ 64 ∧ Ret (.bl true) H Q
def spArePT : Sp := fun vs H Q _ => ∃ (a : Addr) (ps : List (Option Nat)), vs = [.ref a] ∧ H a = some (.tup (ps.map ov)) ∧ Tree ps ∧ 1 ≤ ps.length ∧ ps.length ≤ 64 ∧ Ret (.bl true) H Q
def spAreWT : Sp := fun vs H Q _ => ∃ (a : Addr) (ws : List Int), vs = [.ref a, .int (ws.length : Int)] ∧ H a = some (.tup (ws.map V.int)) ∧ ws.length ≤ 64 ∧ Ret (.bl true) H Q
def spInitT (C : Addr) : Sp := fun vs H Q _ => ∃ (x dx a b : Addr) (ps : List (Option Nat)) (ws : List Int), vs = [.ref x, .ref a, .ref b] ∧ H x = some (.ins C dx []) ∧ H a = some (.tup (ps.map ov)) ∧ H b = some (.tup (ws.map V.int)) ∧ Tree ps ∧ 1 ≤ ps.length ∧ ps.length ≤ 64 ∧ ws.length = ps.length ∧
  ∀ H', Bt x H H' → H' x = some (.ins C dx (pf a b)) → Q .non H'
def spHand (K : PySem.W.Frag) : Sp := fun vs H Q _ => ∃ (s : Addr) (ns : List Int), vs = [.ref s] ∧ SqL K H s (ns.map V.int) ∧ ns.length ≤ 63 ∧ ∀ H' h l, Same H H' → H h = none → Hand H' h l → Q (.ref h) H'
def spTake : Sp := fun vs H Q _ => ∃ (h l : Addr) (n : Int), vs = [.ref h, .int n] ∧ Hand H h l ∧ 0 < n ∧ n < 1073741824 ∧ ∀ H' r, Bt h H H' → Hand H' h l → 0 ≤ r → r < n → Q (.int r) H'
def spPick : Sp := fun vs H Q _ => ∃ (h l t : Addr) (xs : List V), vs = [.ref h, .ref t] ∧ Hand H h l ∧ H t = some (.lst xs) ∧ t ≠ h ∧ 0 < xs.length ∧ xs.length ≤ 100000 ∧ ∀ H' x, Bt h H H' → Hand H' h l → x ∈ xs → Q x H'
def spLaw (K : PySem.W.Frag) : Sp := fun vs H Q _ => ∃ (a : Addr) (ns : List Int), vs = [.ref a] ∧ SqL K H a (ns.map V.int) ∧ ns.length ≤ 63 ∧ ∀ H', Q (.bl true) H'
theorem rIxL_any {K : PySem.W.Frag} {t : Addr} {xs : List V} {r : Int} {H : Hp} {Q : VK} (ht : H t = some (.lst xs)) (h0 : 0 ≤ r) (h1 : r < xs.length) (k : ∀ v ∈ xs, Q v H) : rIxL K (.ref t) (.int r) H Q := by
  have hr : r.toNat < xs.length := by omega
  exact ⟨t, _, _, _, rfl, rfl, SqL.of ht, at_of (by omega) (List.getElem?_eq_getElem hr), k _ (List.getElem_mem hr)⟩
theorem any_ov {C h : Addr} {H : Hp} (o : Option Nat) : Any C h H (ov o) := by
  cases o with
  | none => exact .non
  | some k => exact .int _
theorem thing_ov {C h a : Addr} {H : Hp} {ps : List (Option Nat)} (e : H a = some (.tup (ps.map ov))) : Thing C h H (.ref a) := .tup e fun y hy => by
  obtain ⟨o, _, rfl⟩ := List.mem_map.mp hy
  exact any_ov o
theorem thing_int {C h a : Addr} {H : Hp} {ws : List Int} (e : H a = some (.tup (ws.map V.int))) : Thing C h H (.ref a) := .tup e fun y hy => by
  obtain ⟨o, _, rfl⟩ := List.mem_map.mp hy
  exact .int _
theorem Thing.go {C h l : Addr} {H H' : Hp} {x : V} (t : Thing C h H x) (hh : Hand H h l) (s : Bt h H H') : Thing C h H' x := let ⟨_, e⟩ := hh.lst; t.bt e s
theorem tree_one : Tree [none] := tree_iff.mpr fun h hh => by
  have : h = 0 := by have := hh; simp at this; omega
  subst this
  exact ⟨[0], .root rfl⟩
theorem FAt.thing {C h x dx a b : Addr} {H : Hp} {ps : List (Option Nat)} {ws : List Int} (f : FAt C H x ps ws dx a b) (n : x ≠ h) : Thing C h H (.ref x) := .ins n f.o
theorem Hand.nn {H : Hp} {h l x : Addr} (hh : Hand H h l) (hx : H x = none) : x ≠ h := let ⟨_, e⟩ := hh.lst; (ne_of_none e hx).symm
theorem tE_ok {σ : L2.St} {H : Hp} {Q : VK} (k : ∀ H' t, L2.Same H H' → H' t = some (.tup []) → Q (.ref t) H') : tTup tNil σ H Q := ⟨small (by show 0 ≤ 100000; decide), fun t ht => k _ t (same_upd ht) upd_same⟩
theorem t1_ok {v : V} {σ : L2.St} {H : Hp} {Q : VK} (k : ∀ H' t, L2.Same H H' → H' t = some (.tup [v]) → Q (.ref t) H') : tTup (tCons (tC v) tNil) σ H Q := ⟨small (by show 1 ≤ 100000; decide), fun t ht => k _ t (same_upd ht) upd_same⟩
end W2
namespace W2
open PySem PySem.Spec PyProof.Rows L2
def top (i : Nat) : Stmt := PySem.Challenge.pw_cutlinked_k14_whole_papers_judged.main.body.getD i (.Pass ⟨0, 0, 0, 0⟩)
abbrev s_isint : Stmt := top 6
abbrev s_between : Stmt := top 7
abbrev s_isnum : Stmt := top 8
abbrev s_ishouse : Stmt := top 9
abbrev s_ismany : Stmt := top 10
abbrev s_init : Stmt := inClass (top 12) 0
abbrev s_arepar : Stmt := top 13
abbrev s_come : Stmt := top 14
abbrev s_arewor : Stmt := top 15
abbrev s_rank : Stmt := top 17
abbrev s_ispaper : Stmt := top 19
abbrev s_mostfor : Stmt := top 20
abbrev s_lhand : Stmt := top 22
abbrev s_take : Stmt := top 23
abbrev s_pick : Stmt := top 24
abbrev s_flag : Stmt := top 25
abbrev s_deep : Stmt := top 26
abbrev s_lrank : Stmt := top 27
abbrev s_lpaper : Stmt := top 28
abbrev s_spaper : Stmt := top 29
abbrev s_bent : Stmt := top 30
abbrev s_law : Stmt := top 31
theorem sc_isint : FnScope ["thing"] ["thing"] (defScope s_isint) := ⟨rfl, rfl, rfl, by decide +kernel, rfl, by decide +kernel, by decide +kernel⟩
theorem sc_between : FnScope ["least", "most", "thing"] ["least", "most", "thing"] (defScope s_between) := ⟨rfl, rfl, rfl, by decide +kernel, rfl, by decide +kernel, by decide +kernel⟩
theorem sc_isnum : FnScope ["thing"] ["thing"] (defScope s_isnum) := ⟨rfl, rfl, rfl, by decide +kernel, rfl, by decide +kernel, by decide +kernel⟩
theorem sc_ishouse : FnScope ["many", "thing"] ["many", "thing"] (defScope s_ishouse) := ⟨rfl, rfl, rfl, by decide +kernel, rfl, by decide +kernel, by decide +kernel⟩
theorem sc_ismany : FnScope ["thing"] ["thing"] (defScope s_ismany) := ⟨rfl, rfl, rfl, by decide +kernel, rfl, by decide +kernel, by decide +kernel⟩
theorem sc_init : FnScope ["self", "parents", "worths"] ["self", "parents", "worths"] (defScope s_init) := ⟨rfl, rfl, rfl, by decide +kernel, rfl, by decide +kernel, by decide +kernel⟩
theorem sc_arepar : FnScope ["thing", "parent"] ["thing"] (defScope s_arepar) := ⟨rfl, rfl, rfl, by decide +kernel, rfl, by decide +kernel, by decide +kernel⟩
theorem sc_come : FnScope ["parents", "sure", "parent", "house", "line", "at", "passed"] ["parents"] (defScope s_come) := ⟨rfl, rfl, rfl, by decide +kernel, rfl, by decide +kernel, by decide +kernel⟩
theorem sc_arewor : FnScope ["thing", "houses", "worth"] ["thing", "houses"] (defScope s_arewor) := ⟨rfl, rfl, rfl, by decide +kernel, rfl, by decide +kernel, by decide +kernel⟩
theorem sc_rank : FnScope ["number"] ["number"] (defScope s_rank) := ⟨rfl, rfl, rfl, by decide +kernel, rfl, by decide +kernel, by decide +kernel⟩
theorem sc_ispaper : FnScope ["many", "thing", "first", "met", "last", "change"] ["many", "thing"] (defScope s_ispaper) := ⟨rfl, rfl, rfl, by decide +kernel, rfl, by decide +kernel, by decide +kernel⟩
theorem sc_mostfor : FnScope ["many"] ["many"] (defScope s_mostfor) := ⟨rfl, rfl, rfl, by decide +kernel, rfl, by decide +kernel, by decide +kernel⟩
theorem sc_lhand : FnScope ["script", "cells", "cell"] ["script"] (defScope s_lhand) := ⟨rfl, rfl, rfl, by decide +kernel, rfl, by decide +kernel, by decide +kernel⟩
theorem sc_take : FnScope ["hand", "many", "cell", "digit", "number"] ["hand", "many"] (defScope s_take) := ⟨rfl, rfl, rfl, by decide +kernel, rfl, by decide +kernel, by decide +kernel⟩
theorem sc_pick : FnScope ["hand", "things"] ["hand", "things"] (defScope s_pick) := ⟨rfl, rfl, rfl, by decide +kernel, rfl, by decide +kernel, by decide +kernel⟩
theorem sc_flag : FnScope ["told", "due"] ["told", "due"] (defScope s_flag) := ⟨rfl, rfl, rfl, by decide +kernel, rfl, by decide +kernel, by decide +kernel⟩
theorem sc_deep : FnScope ["kind", "found", "turn"] ["kind"] (defScope s_deep) := ⟨rfl, rfl, rfl, by decide +kernel, rfl, by decide +kernel, by decide +kernel⟩
theorem sc_lrank : FnScope ["number", "found", "turn"] ["number"] (defScope s_lrank) := ⟨rfl, rfl, rfl, by decide +kernel, rfl, by decide +kernel, by decide +kernel⟩
theorem sc_lpaper : FnScope ["many", "thing", "one"] ["many", "thing"] (defScope s_lpaper) := ⟨rfl, rfl, rfl, by decide +kernel, rfl, by decide +kernel, by decide +kernel⟩
theorem sc_spaper : FnScope ["hand", "many", "change", "met", "room", "first"] ["hand", "many"] (defScope s_spaper) := ⟨rfl, rfl, rfl, by decide +kernel, rfl, by decide +kernel, by decide +kernel⟩
theorem sc_bent : FnScope ["hand", "paper", "strange", "at", "odd", "bent", "things"] ["hand", "paper", "strange"] (defScope s_bent) := ⟨rfl, rfl, rfl, by decide +kernel, rfl, by decide +kernel, by decide +kernel⟩
theorem sc_law : FnScope ["script", "hand", "turn", "many", "paper", "again", "thing"] ["script"] (defScope s_law) := ⟨rfl, rfl, rfl, by decide +kernel, rfl, by decide +kernel, by decide +kernel⟩
structure Txt (K : PySem.W.Frag) (mg : Str → Option Value) : Prop where
  n_len : mg "len" = none
  n_isinstance : mg "isinstance" = none
  n_int : mg "int" = none
  n_bool : mg "bool" = none
  n_tuple : mg "tuple" = none
  n_list : mg "list" = none
  n_range : mg "range" = none
  n_max : mg "max" = none
  n_all : mg "all" = none
  n_any : mg "any" = none
  n_abs : mg "abs" = none
  c_MOST_HOUSES : ∃ t, mg "MOST_HOUSES" = some (.int 64 t)
structure ForC (K : PySem.W.Frag) (mg : Str → Option Value) (C fI : Addr) : Prop where
  own : Own K C
  nP : NoAttr K C "parents"
  nW : NoAttr K C "worths"
  mgC : mg "Forest" = some (.ref C)
  M : Mk K C fI
def lg (i : Int) : Int := (i.natAbs.log2 : Nat)
def pj (n f m l c : Int) : Bool := decide (0 ≤ f) && decide (1 ≤ m) && decide (l = m / 2) && decide (f + m + l + 5 * c ≤ 30 * lg n + 7)
def quad (f m l c : Int) : List V := [.int f, .int m, .int l, .int c]
def spRank : Sp := fun vs H Q _ => ∃ n : Int, vs = [.int n] ∧ 1 ≤ n ∧ n ≤ 64 ∧ Ret (.int (lg n)) H Q
def spMost : Sp := fun vs H Q _ => ∃ n : Int, vs = [.int n] ∧ 1 ≤ n ∧ n ≤ 64 ∧ Ret (.int (30 * lg n + 7)) H Q
def spPaper (C : Addr) : Sp := fun vs H Q _ => ∃ (h : Addr) (n : Int) (x : V), vs = [.int n, x] ∧ Thing C h H x ∧ 1 ≤ n ∧ n ≤ 64 ∧ (∀ a f m l c, x = .ref a → H a = some (.tup (quad f m l c)) → Ret (.bl (pj n f m l c)) H Q) ∧
  ((¬ ∃ a f m l c, x = .ref a ∧ H a = some (.tup (quad f m l c))) → Ret (.bl false) H Q)
def spFlag : Sp := fun vs H Q _ => ∃ a b : Bool, vs = [.bl a, .bl b] ∧ Ret (.bl (decide (a = b))) H Q
def spDeep : Sp := fun vs H Q _ => ∃ k : Int, vs = [.int k] ∧ ∀ H' x, Same H H' → (∀ C h o, H h = some o → Thing C h H' x) → Q x H'
def spSome : Sp := fun vs H Q _ => ∃ (h l : Addr) (n : Int), vs = [.ref h, .int n] ∧ Hand H h l ∧ 1 ≤ n ∧ n ≤ 64 ∧ ∀ H' t f m l' c, Bt h H H' → Hand H' h l → H' t = some (.tup (quad f m l' c)) → Q (.ref t) H'
def spBent (C : Addr) : Sp := fun vs H Q _ => ∃ (h l p : Addr) (f m l' c : Int) (x : V), vs = [.ref h, .ref p, x] ∧ Hand H h l ∧ H p = some (.tup (quad f m l' c)) ∧ Thing C h H x ∧ ∀ H' y, Bt h H H' → Hand H' h l → Thing C h H' y → Q y H'
theorem thing_quad {C h a : Addr} {H : Hp} {f m l c : Int} (e : H a = some (.tup (quad f m l c))) : Thing C h H (.ref a) := .tup e fun y hy => by
  simp only [quad, List.mem_cons, List.not_mem_nil, or_false] at hy
  rcases hy with rfl | rfl | rfl | rfl <;> exact .int _
theorem any_int {C h : Addr} {H : Hp} {x : V} (a : Any C h H x) (e : isI x = true ∧ True) : ∃ i, x = .int i := isI_of e.1
theorem four {xs : List V} (h : xs.length = 4) : ∃ p q r s, xs = [p, q, r, s] := by
  match xs, h with
  | [p, q, r, s], _ => exact ⟨p, q, r, s, rfl⟩
theorem numV_of {x : V} (h : isI x = true) : ∃ i, x = .int i ∧ numV x = decide (0 ≤ i) := by
  obtain ⟨i, rfl⟩ := isI_of h
  exact ⟨i, rfl, rfl⟩
theorem numV_no {x : V} (h : isI x = false) : numV x = false := by
  cases x <;> first | rfl | cases h
theorem wiT {a b n : Int} (h1 : a ≤ n) (h2 : n ≤ b) : wiV a b (.int n) = true := by
  show (decide (a ≤ n) && decide (n ≤ b)) = true
  rw [decide_eq_true h1, decide_eq_true h2]
  rfl
theorem wi64 {n : Int} (h1 : 1 ≤ n) (h2 : n ≤ 64) : wiV 1 64 (.int n) = true := by
  show (decide (1 ≤ n) && decide (n ≤ 64)) = true
  rw [decide_eq_true h1, decide_eq_true h2]
  rfl
def ab (i : Int) : Int := if i < 0 then -i else i
theorem cut_le (xs : List V) (k : Nat) (h : xs.length ≤ k) : cutV xs none (some (k : Int)) = xs := by
  unfold cutV
  rw [HT.sIx_none, show HT.sIx xs.length xs.length (some (k : Int)) = min k xs.length from HT.sIx_nat xs.length xs.length k, Nat.min_eq_right h]
  show (xs.drop 0).take (xs.length - 0) = xs
  rw [List.drop_zero, Nat.sub_zero, List.take_length]
end W2
namespace W2
open PySem PySem.Spec PyProof.Rows L2
section
variable {P : Program} {w : World} {K : PySem.W.Frag} {mg : Str → Option Value} {base : Heap} {f_init : Addr} {C : Addr}
theorem ok_isint (D : Def K mg "is_integer" s_isint ["thing"]) (T : Txt K mg)  (FC : ForC K mg C f_init) : Cal P w K mg base 1 "is_integer" ["thing"] (spIsInt C) := by
  refine D.cal sc_isint (fun vs H Q E h => ?_) (fun f cdv A outer s H vs Q E hr h => ?_)
  · obtain ⟨h, x, rfl, _⟩ := h
    rfl
  · obtain ⟨h, x, rfl, a, k⟩ := h
    obtain ⟨t, ty, k1, k2⟩ := any_kit FC.own a
    refine ⟨_, (pss_one (ps_ret (pe_and (pe_callB (call_isiK1 (K := K) rfl) (by rfl) T.n_isinstance (by decide +kernel) (pa_cons (pv 0) (pa_cons (pe_bltn (v := .ty "int") (by rfl) T.n_int (by decide +kernel) rfl) pa_nil))) (pe_one (pe_not (pe_callB (call_isiK1 (K := K) rfl) (by rfl) T.n_isinstance (by decide +kernel) (pa_cons (pv 0) (pa_cons (pe_bltn (v := .ty "bool") (by rfl) T.n_bool (by decide +kernel) rfl) pa_nil)))))))), ?_⟩
    refine ⟨_, rfl, _, _, _, _, _, rfl, .ty _, ty, k1, _, rfl, iteB (fun e => ?_) (fun e => ?_)⟩
    · refine ⟨_, rfl, _, _, _, _, _, rfl, .ty _, ty, k2, _, rfl, ?_⟩
      have e2 : (!isB x) = isI x := by cases x <;> first | rfl | cases e
      rw [e2]
      exact k _ (L2.Same.refl _)
    · have e2 : isI x = false := by cases x <;> first | rfl | cases e
      have r := k _ (L2.Same.refl _)
      rw [e2] at r
      exact r

end
end W2
namespace W2
open PySem PySem.Spec PyProof.Rows L2
section
variable {P : Program} {w : World} {K : PySem.W.Frag} {mg : Str → Option Value} {base : Heap} {f_init : Addr} {C : Addr}
theorem ok_come (D : Def K mg "come_to_roots" s_come ["parents"]) (T : Txt K mg)  : Cal P w K mg base 1 "come_to_roots" ["parents"] spComeT := by
  refine D.cal sc_come (fun vs H Q E h => ?_) (fun f cdv A outer s H vs Q E hr h => ?_)
  · obtain ⟨a, ps, rfl, _⟩ := h
    rfl
  · obtain ⟨a, ps, rfl, hA, TR, hz, k⟩ := h
    refine ⟨_, (pss_cons (ps_setLc (i := 1) (own := [("parent", 2)]) (g := gName 2) (tt := tYes) (by rfl) sc_come.nd rfl rfl (sw_true rfl rfl rfl (by decide +kernel)) (pi_tup (pv 0)) (blkOk_by (own := [("parent", 2)]) (N := ["parents", "sure", "parent", "house", "line", "at", "passed"]) (sc := defScope s_come) (by decide +kernel)) (fun _ _ _ _ _ => pg_name (i := 2) sc_come.nd rfl (Or.inl rfl)) (fun _ _ _ _ _ => pts_nil) (fun _ _ _ _ _ => (pe_cmpR op_isN (pv 2) pe_non (nomark _))))
      (pss_cons (ps_for PassesOwn.never rfl (pi_range1 rfl T.n_range (pa_cons (pe_callB (call_lenK (K := K) rfl) (by rfl) T.n_len PySem.boot_len (pa_cons (pv 0) pa_nil)) pa_nil)) (pg_name (i := 3) sc_come.nd rfl (Or.inl rfl)) (pss_cons (ps_set (i := 4) sc_come.nd rfl (Or.inl rfl) (pe_lst pa_nil))
      (pss_cons (ps_set (i := 5) sc_come.nd rfl (Or.inl rfl) (pv 3))
      (pss_cons (ps_while PassesOwn.never (pt_not (pt_val (pe_ix (ix_listK (K := K) rfl) (pv 1) (pv 5) (fun _ _ => rfl)))) (pss_cons (ps_if (pt_cmpR op_eq (pe_callB (call_lenK (K := K) rfl) (by rfl) T.n_len PySem.boot_len (pa_cons (pv 4) pa_nil)) (pe_callB (call_lenK (K := K) rfl) (by rfl) T.n_len PySem.boot_len (pa_cons (pv 0) pa_nil)) (nomark _)) (pss_one (ps_ret pe_bl)) pss_nil)
      (pss_cons (ps_expr (pe_bm PySem.F.plainAttrs_list PySem.F.slot_list_append PySem.F.type_list_append mt_append (pv 4) (pa_cons (pv 5) pa_nil)))
      (pss_one (ps_set (i := 5) sc_come.nd rfl (Or.inl rfl) (pe_ix (ix_tupK (K := K) rfl) (pv 0) (pv 5) (fun _ _ => rfl)))))))
      (pss_one (ps_for PassesOwn.never rfl (pi_list (pv 4)) (pg_name (i := 6) sc_come.nd rfl (Or.inl rfl)) (pss_one (ps_asg pe_bl (pg_sub (pv 1) (pv 6) set_list)))))))))
      (pss_one (ps_ret pe_bl)))), ?_⟩
    -- sure = [parent is None for parent in parents]
    refine ⟨_, rfl, a, rfl, ⟨_, SqT.of hA⟩, fun D hD => ?_⟩
    refine lc_tup (xs := ps.map ov) (fun i H' => L2.Same H H' ∧ H' D = some (.lst (((ps.take i).map Option.isNone).map V.bl))) ⟨same_upd hD, by rw [upd_same]; rfl⟩ (fun i H' _ p => SqT.of (p.1 _ _ hA)) ?_ ?_
    · rintro i x H' hx ⟨sm, hd⟩
      rw [List.getElem?_map] at hx
      cases ho : ps[i]? with
      | none => rw [ho] at hx; cases hx
      | some o =>
        rw [ho] at hx
        have ex : x = ov o := (Option.some.inj hx).symm
        subst ex
        have hi := (List.getElem?_eq_some_iff.mp ho).1
        refine ⟨rfl, _, rfl, rfl, _, hd, ?_, Same.upd sm hD, ?_⟩
        · rw [List.length_map, List.length_map, List.length_take]
          exact smalls (by omega)
        · rw [upd_same, List.take_add_one, ho]
          cases o <;> simp [ov]
    rintro H1 ⟨s1, hd1⟩
    rw [List.length_map, List.take_length] at hd1
    have hA1 := s1 _ _ hA
    -- for house in range(len(parents))
    refine ⟨_, rfl, a, _, rfl, .inr (SqT.of hA1), _, rfl, by omega, by rw [List.length_map]; omega, ?_⟩
    rw [List.length_map, Int.toNat_natCast]
    refine for_range (lo := 0) (n := ps.length) (fun i σ H' => ∃ (v2 v3 v4 v5 v6 : Option V) (bs : List Bool), σ = [some (.ref a), some (.ref D), v2, v3, v4, v5, v6] ∧ L2.Same H H' ∧ H' D = some (.lst (bs.map V.bl)) ∧ bs.length = ps.length ∧ ∀ h : Nat, ps[h]? = some none → bs[h]? = some true)
      ⟨none, none, none, none, none, ps.map Option.isNone, rfl, s1, hd1, List.length_map _, fun h e => by rw [List.getElem?_map, e]; rfl⟩ ?_ ?_
    · rintro h σ H2 hh ⟨v2, v3, v4, v5, v6, bs, rfl, s2, hd2, hb, hr0⟩
      have hA2 := s2 _ _ hA
      obtain ⟨ch, cz⟩ := TR h hh
      obtain ⟨rest, eh⟩ := ch.head
      rw [Int.zero_add]
      -- line = []; at = house
      refine ⟨Nat.zero_le _, fun l hl => ⟨_, rfl, ?_⟩⟩
      have nDl : D ≠ l := ne_of_none hd2 hl
      refine ⟨fun m σ H' => ∃ (j x : Nat), σ = [some (.ref a), some (.ref D), v2, some (nv h), some (.ref l), some (nv x), v6] ∧ (up ps h)[j]? = some x ∧ m = (up ps h).length - j ∧ H' l = some (.lst (((up ps h).take j).map nv)) ∧ L2.Same H2 H',
        ⟨_, 0, h, rfl, by rw [eh]; rfl, rfl, upd_same, same_upd hl⟩, ?_⟩
      rintro m σ H3 ⟨j, x, rfl, hx, rfl, hL, s3⟩
      have hj := (List.getElem?_eq_some_iff.mp hx).1
      have hxl : x < ps.length := ch.lt x (List.mem_of_getElem? hx)
      have hd3 := s3 _ _ hd2
      have hA3 := s3 _ _ hA2
      have hxb : x < bs.length := by omega
      have hbx : bs[x]? = some bs[x] := List.getElem?_eq_getElem hxb
      generalize bs[x] = b0 at hbx
      have hv : (bs.map V.bl)[x]? = some (.bl b0) := by rw [List.getElem?_map, hbx]; rfl
      refine ⟨_, rfl, _, rfl, D, _, _, _, rfl, rfl, SqL.of hd3, atI_nat hv, b0, rfl, iteB (fun nb => ?_) (fun nb => ?_)⟩
      · -- a step up
        have eb : b0 = false := by cases b0 <;> simp_all
        subst eb
        rcases ch.next hx with ⟨e0, _⟩ | ⟨y, e0, e1⟩
        · rw [hr0 x e0] at hbx; cases hbx
        · refine ⟨_, fun σ' H' n => n, ?_⟩
          refine ⟨_, rfl, l, _, rfl, .inl (SqL.of hL), _, rfl, a, _, rfl, .inr (SqT.of hA3), rfl, _, rfl, iteB (fun e => ?_) (fun _ => ?_)⟩
          · exfalso
            have e2 := of_decide_eq_true e
            have e3 : ((((up ps h).take j).map nv).length : Int) = ((ps.map ov).length : Int) := V.int.inj e2
            rw [List.length_map, List.length_map, List.length_take] at e3
            omega
          · refine ⟨_, rfl, .inl ⟨rfl, _, SqL.of hL⟩, _, rfl, l, _, _, rfl, rfl, hL, ?_, ?_⟩
            · rw [List.length_map, List.length_take]
              exact smalls (by omega)
            · have hvp : (ps.map ov)[x]? = some (nv y) := by rw [List.getElem?_map, e0]; rfl
              have nal : a ≠ l := ne_of_none hA2 hl
              refine ⟨_, rfl, _, rfl, a, _, _, _, rfl, rfl, SqT.of (by rw [upd_ne nal]; exact hA3), atI_nat hvp, _, Nat.sub_lt_sub_left hj (Nat.lt_succ_self j), j + 1, y, rfl, e1, rfl, ?_, Same.upd s3 hl⟩
              rw [upd_same, List.take_add_one, hx, List.map_append]
              rfl
      · -- for passed in line: sure[passed] = True
        refine ⟨_, rfl, l, rfl, ⟨_, SqL.of hL⟩, ?_⟩
        refine for_list (K := K) (a := l) (xs := ((up ps h).take j).map nv) (fun i σ H' => ∃ (v6 : Option V) (bs : List Bool), σ = [some (.ref a), some (.ref D), v2, some (nv h), some (.ref l), some (nv x), v6] ∧ L2.Same H H' ∧ H' l = some (.lst (((up ps h).take j).map nv)) ∧ H' D = some (.lst (bs.map V.bl)) ∧ bs.length = ps.length ∧ ∀ h : Nat, ps[h]? = some none → bs[h]? = some true)
          ⟨v6, bs, rfl, s2.trans s3, hL, hd3, hb, hr0⟩ (fun i σ H' _ ⟨_, _, _, _, q, _⟩ => SqL.of q) ?_ ?_
        · rintro i y σ H4 hy ⟨v6, bs, rfl, s4, hL4, hd4, hb4, hr4⟩
          rw [List.getElem?_map] at hy
          cases hy2 : ((up ps h).take j)[i]? with
          | none => rw [hy2] at hy; cases hy
          | some z =>
            rw [hy2] at hy
            have ez : y = nv z := (Option.some.inj hy).symm
            subst ez
            have hzl : z < ps.length := ch.lt z (List.mem_of_mem_take (List.mem_of_getElem? hy2))
            refine ⟨_, rfl, _, rfl, D, _, _, _, rfl, rfl, hd4, ixN_nat (by rw [List.length_map]; omega), ?_⟩
            refine ⟨_, bs.set z true, rfl, Same.upd s4 hD, by rw [upd_ne nDl.symm]; exact hL4, by rw [upd_same, List.map_set], by rw [List.length_set]; exact hb4, fun g e => ?_⟩
            by_cases eg : z = g
            · subst eg
              rw [List.getElem?_set_self (by omega)]
            · rw [List.getElem?_set_ne eg]
              exact hr4 g e
        · rintro σ H4 ⟨v6, bs, rfl, s4, hL4, hd4, hb4, hr4⟩
          exact ⟨_, _, _, _, _, bs, rfl, s4, hd4, hb4, hr4⟩
    · rintro σ H2 ⟨v2, v3, v4, v5, v6, bs, rfl, s2, _⟩
      exact k _ s2

end
end W2
namespace W2
open PySem PySem.Spec PyProof.Rows L2
section
variable {P : Program} {w : World} {K : PySem.W.Frag} {mg : Str → Option Value} {base : Heap} {f_init : Addr} {C : Addr}
theorem ok_lhand (D : Def K mg "_law_hand" s_lhand ["script"]) (T : Txt K mg)  : Cal P w K mg base 1 "_law_hand" ["script"] (spHand K) := by
  refine D.cal sc_lhand (fun vs H Q E h => ?_) (fun f cdv A outer s H vs Q E hr h => ?_)
  · obtain ⟨s0, ns, rfl, _⟩ := h
    rfl
  · obtain ⟨s0, ns, rfl, hS, hz, k⟩ := h
    refine ⟨_, (pss_cons (ps_setLc (i := 1) (own := [("cell", 2)]) (g := gName 2) (tt := tYes) (by rfl) sc_lhand.nd rfl rfl (sw_true rfl rfl rfl (by decide +kernel)) (pi_list (pe_slice sl_list (pv 0) po_none (po_some pe_int))) (blkOk_by (own := [("cell", 2)]) (N := ["script", "cells", "cell"]) (sc := defScope s_lhand) (by decide +kernel)) (fun _ _ _ _ _ => pg_name (i := 2) sc_lhand.nd rfl (Or.inl rfl)) (fun _ _ _ _ _ => pts_nil) (fun _ _ _ _ _ => (pe_callB call_abs (by rfl) T.n_abs (by decide +kernel) (pa_cons (pe_callTy call_int1 (by rfl) T.n_int (by decide +kernel) (pa_cons (pv 2) pa_nil)) pa_nil))))
      (pss_one (ps_ret (pe_lst (pa_cons (pv 1) (pa_cons pe_int (pa_cons pe_int (pa_cons (pe_op op_add pe_int (pe_callB (call_lenK (K := K) rfl) (by rfl) T.n_len PySem.boot_len (pa_cons (pv 1) pa_nil))) (pa_cons pe_int pa_nil))))))))), ?_⟩
    unfold tNoPart
    refine ⟨_, rfl, 63, rfl, ?_⟩
    show rSlL K (V.ref s0) none (some 63) H _
    refine ⟨s0, _, rfl, hS, fun c hc => ?_⟩
    have e1 : cutV (ns.map V.int) none (some 63) = ns.map V.int := by
      have := cut_le (ns.map V.int) 63 (by rw [List.length_map]; exact hz)
      exact this
    rw [e1]
    have s1 := same_upd (o := .lst (ns.map V.int)) hc
    have ec : (L2.upd H c (.lst (ns.map V.int))) c = some (.lst (ns.map V.int)) := upd_same
    generalize L2.upd H c (.lst (ns.map V.int)) = H1 at s1 ec
    refine ⟨c, rfl, ⟨_, SqL.of ec⟩, fun D hD => ?_⟩
    refine lc_list (xs := ns.map V.int) (fun i H' => L2.Same H1 H' ∧ H' D = some (.lst (((ns.take i).map ab).map V.int))) ⟨same_upd hD, by rw [upd_same]; rfl⟩ (fun i H' _ p => SqL.of (p.1 _ _ ec)) ?_ ?_
    · rintro i x H' hx ⟨sm, hd⟩
      rw [List.getElem?_map] at hx
      cases ho : ns[i]? with
      | none => rw [ho] at hx; cases hx
      | some o =>
        rw [ho] at hx
        have ex : x = .int o := (Option.some.inj hx).symm
        subst ex
        have hi := (List.getElem?_eq_some_iff.mp ho).1
        refine ⟨rfl, _, rfl, .inl ⟨o, rfl, o, rfl, _, hd, ?_, Same.upd sm hD, ?_⟩⟩
        · rw [List.length_map, List.length_map, List.length_take]
          exact smalls (by omega)
        · rw [upd_same, List.take_add_one, ho, List.map_append, List.map_append]
          rfl
    rintro H2 ⟨s2, hd2⟩
    rw [List.length_map, List.take_length] at hd2
    refine ⟨_, rfl, _, rfl, D, _, rfl, .inl (SqL.of hd2), _, _, rfl, rfl, small (by show 5 ≤ 100000; decide), fun p hp => ?_⟩
    have npD : p ≠ D := fun z => by rw [z, hd2] at hp; cases hp
    have hp0 : H p = none := s1.free (s2.free hp)
    refine k _ p D ((s1.trans s2).trans (same_upd hp)) hp0 ⟨ns.map ab, 0, 0, _, 0, upd_same, by rw [upd_ne npD.symm]; exact hd2, by decide, by decide, ?_, ?_⟩
    · rw [List.length_map, List.length_map]; omega
    · rw [List.length_map, List.length_map]; omega

end
end W2
namespace W2
open PySem PySem.Spec PyProof.Rows L2
section
variable {P : Program} {w : World} {K : PySem.W.Frag} {mg : Str → Option Value} {base : Heap} {f_init : Addr} {C : Addr}
theorem ok_take (D : Def K mg "_law_draw" s_take ["hand", "many"]) (T : Txt K mg)  : Cal P w K mg base 1 "_law_draw" ["hand", "many"] spTake := by
  refine D.cal sc_take (fun vs H Q E h => ?_) (fun f cdv A outer s H vs Q E hr h => ?_)
  · obtain ⟨h, l, n, rfl, _⟩ := h
    rfl
  · obtain ⟨h, l, n, rfl, HH, n0, n1, k⟩ := h
    refine ⟨_, (C8.pss_cut (ps_if (PW.pt (pw_and (pt_cmpR op_eq (pe_ix (ix_listK (K := K) rfl) (pv 0) pe_int (fun _ _ => rfl)) pe_int (nomark _)) (pw_and1 (pt_cmpR op_lt (pe_ix (ix_listK (K := K) rfl) (pv 0) pe_int (fun _ _ => rfl)) (pe_callB (call_lenK (K := K) rfl) (by rfl) T.n_len PySem.boot_len (pa_cons (pe_ix (ix_listK (K := K) rfl) (pv 0) pe_int (fun _ _ => rfl)) pa_nil)) (nomark _))))) (pss_cons (ps_set (i := 2) sc_take.nd rfl (Or.inl rfl) (pe_ix (ix_listK (K := K) rfl) (pe_ix (ix_listK (K := K) rfl) (pv 0) pe_int (fun _ _ => rfl)) (pe_ix (ix_listK (K := K) rfl) (pv 0) pe_int (fun _ _ => rfl)) (fun _ _ => rfl)))
      (pss_cons (ps_asg (pe_op op_add (pe_ix (ix_listK (K := K) rfl) (pv 0) pe_int (fun _ _ => rfl)) pe_int) (pg_sub (pv 0) pe_int set_list))
      (pss_cons (ps_asg (pe_op op_mod (pe_callTy call_int1 (by rfl) T.n_int (by decide +kernel) (pa_cons (pe_op op_add (pe_op op_add (pe_op op_mul (pe_ix (ix_listK (K := K) rfl) (pv 0) pe_int (fun _ _ => rfl)) pe_int) (pv 2)) pe_int) pa_nil)) pe_int) (pg_sub (pv 0) pe_int set_list))
      (pss_one (ps_if (pt_cmpR op_ge (pv 2) (pe_op op_pow pe_int pe_int) (nomark _)) (pss_one (ps_asg (pv 2) (pg_sub (pv 0) pe_int set_list))) pss_nil))))) pss_nil)
      (pss_cons (ps_if (pt_cmpR op_gt (pe_ix (ix_listK (K := K) rfl) (pv 0) pe_int (fun _ _ => rfl)) pe_int (nomark _)) (pss_cons (ps_set (i := 3) sc_take.nd rfl (Or.inl rfl) (pe_op op_mod (pe_callTy call_int1 (by rfl) T.n_int (by decide +kernel) (pa_cons (pe_ix (ix_listK (K := K) rfl) (pv 0) pe_int (fun _ _ => rfl)) pa_nil)) (pv 1)))
      (pss_cons (ps_asg (pe_op op_fdivW (pe_ix (ix_listK (K := K) rfl) (pv 0) pe_int (fun _ _ => rfl)) (pv 1)) (pg_sub (pv 0) pe_int set_list))
      (pss_one (ps_ret (pv 3))))) pss_nil)
      (pss_cons (ps_asg (pe_op op_add (pe_ix (ix_listK (K := K) rfl) (pv 0) pe_int (fun _ _ => rfl)) pe_int) (pg_sub (pv 0) pe_int set_list))
      (pss_cons (ps_set (i := 4) sc_take.nd rfl (Or.inl rfl) (pe_op op_mod (pe_callTy call_int1 (by rfl) T.n_int (by decide +kernel) (pa_cons (pe_op op_mul (pe_callTy call_int1 (by rfl) T.n_int (by decide +kernel) (pa_cons (pe_op op_add (pe_ix (ix_listK (K := K) rfl) (pv 0) pe_int (fun _ _ => rfl)) (pe_op op_mul pe_int (pe_ix (ix_listK (K := K) rfl) (pv 0) pe_int (fun _ _ => rfl)))) pa_nil)) pe_int) pa_nil)) pe_int))
      (pss_cons (ps_set (i := 4) sc_take.nd rfl (Or.inl rfl) (pe_op op_mod (pe_callTy call_int1 (by rfl) T.n_int (by decide +kernel) (pa_cons (pe_op op_mul (pv 4) (pe_op op_add (pe_op op_fdivW (pv 4) pe_int) pe_int)) pa_nil)) pe_int))
      (pss_cons (ps_set (i := 4) sc_take.nd rfl (Or.inl rfl) (pe_op op_mod (pe_callTy call_int1 (by rfl) T.n_int (by decide +kernel) (pa_cons (pe_op op_mul (pv 4) (pe_op op_add (pe_op op_fdivW (pv 4) pe_int) pe_int)) pa_nil)) pe_int))
      (pss_one (ps_ret (pe_op op_mod (pe_callTy call_int1 (by rfl) T.n_int (by decide +kernel) (pa_cons (pe_op op_fdivW (pv 4) pe_int) pa_nil)) (pv 1)))))))))), ?_⟩
    obtain ⟨ns, i, b, sd, c, X⟩ := HH
    have hO := X.o
    have nl : l ≠ h := by
      intro z
      subst z
      have e := hO.symm.trans X.n
      cases ns with
      | nil => cases e
      | cons z r => cases e
    have i0 := X.i0
    have b0 := X.b0
    have s0 := X.s0
    have s1 := X.s1
    -- the first if
    refine ⟨fun σ H' => ∃ (v2 : Option V) (j : Int) (b' s' : Int), σ = [some (.ref h), some (.int n), v2, none, none] ∧ Bt h H H' ∧ HandAt H' h l ns j b' s' c, ?_, ?_⟩
    · refine ⟨_, rfl, h, _, _, _, rfl, rfl, SqL.of hO, rfl, rfl, _, rfl, ?_⟩
      refine iteB (fun _ => ?_) (fun _ => ⟨_, _, _, _, rfl, Bt.refl h H, X⟩)
      refine ⟨_, rfl, h, _, _, _, rfl, rfl, SqL.of hO, rfl, _, rfl, h, _, _, _, rfl, rfl, SqL.of hO, rfl, l, _, rfl, .inl (SqL.of X.n), _, _, rfl, rfl, _, rfl, ?_⟩
      refine iteB (fun lt => ?_) (fun _ => ⟨_, _, _, _, rfl, Bt.refl h H, X⟩)
      have lt' : i < ((ns.map V.int).length : Int) := of_decide_eq_true lt
      rw [List.length_map] at lt'
      have hj : i.toNat < ns.length := by omega
      have hz : (ns.map V.int)[i.toNat]? = some (.int ns[i.toNat]) := by rw [List.getElem?_map, List.getElem?_eq_getElem hj]; rfl
      generalize ns[i.toNat] = z at hz
      have hat : atI (ns.map V.int) i = some (.int z) := at_of (by omega) hz
      -- cell = hand[0][hand[1]]
      refine ⟨_, rfl, h, _, _, _, rfl, rfl, SqL.of hO, rfl, _, rfl, h, _, _, _, rfl, rfl, SqL.of hO, rfl, l, _, _, _, rfl, rfl, SqL.of X.n, hat, ?_⟩
      -- hand[1] = hand[1] + 1
      refine ⟨_, rfl, h, _, _, _, rfl, rfl, SqL.of hO, rfl, _, _, rfl, rfl, _, rfl, h, _, _, _, rfl, rfl, hO, rfl, ?_⟩
      generalize hH2 : L2.upd H h _ = H2
      have t2 : Bt h H H2 := by rw [← hH2]; exact (Bt.refl h H).upd
      have hO2 : H2 h = some (.lst [.ref l, .int (i + 1), .int b, .int sd, .int c]) := by rw [← hH2]; exact upd_same
      have hn2 : H2 l = some (.lst (ns.map V.int)) := t2 _ _ nl X.n
      -- hand[3] = int(hand[3] * 69621 + cell.. + 11) % 2147483629
      refine ⟨_, rfl, h, _, _, _, rfl, rfl, SqL.of hO2, rfl, _, _, rfl, rfl, .inl ⟨by omega, by omega⟩, _, rfl, _, _, rfl, rfl, _, _, rfl, rfl, .inl ⟨_, rfl, _, _, rfl, rfl, (show (0 : Int) < 2147483629 by decide), _, rfl, h, _, _, _, rfl, rfl, hO2, rfl, ?_⟩⟩
      generalize hw : ((sd * 69621 + z + 11) % 2147483629 : Int) = sd'
      have w0 : 0 ≤ sd' := by rw [← hw]; exact Int.emod_nonneg _ (by decide)
      have w1 : sd' < 2147483647 := by rw [← hw]; exact Int.lt_trans (Int.emod_lt_of_pos _ (by decide)) (by decide)
      generalize hH3 : L2.upd H2 h _ = H3
      have t3 : Bt h H H3 := by rw [← hH3]; exact t2.upd
      have hO3 : H3 h = some (.lst [.ref l, .int (i + 1), .int b, .int sd', .int c]) := by rw [← hH3, ← hw]; exact upd_same
      have hn3 : H3 l = some (.lst (ns.map V.int)) := t3 _ _ nl X.n
      -- if cell >= 10 ** 18
      refine ⟨_, rfl, 10, 18, rfl, rfl, ⟨by decide, by decide, by decide⟩, _, _, rfl, rfl, _, rfl, ?_⟩
      refine iteB (fun ge => ?_) (fun _ => ⟨_, _, _, _, rfl, t3, hO3, hn3, by omega, b0, w0, w1⟩)
      have ge' : (10 : Int) ^ (18 : Int).toNat ≤ z := of_decide_eq_true ge
      have z0 : 0 ≤ z := Int.le_trans (by decide) ge'
      refine ⟨_, rfl, _, rfl, h, _, _, _, rfl, rfl, hO3, rfl, ?_⟩
      exact ⟨_, i + 1, z, sd', rfl, t3.upd, upd_same, by rw [upd_ne nl]; exact hn3, by omega, z0, w0, w1⟩
    · rintro σ H2 ⟨v2, j, b', s', rfl, t2, Y⟩
      have hO2 := Y.o
      -- if hand[2] > 0
      refine ⟨_, rfl, h, _, _, _, rfl, rfl, SqL.of hO2, rfl, _, _, rfl, rfl, _, rfl, ?_⟩
      refine iteB (fun _ => ?_) (fun _ => ?_)
      · refine ⟨_, rfl, h, _, _, _, rfl, rfl, SqL.of hO2, rfl, .inl ⟨_, rfl, _, rfl, _, _, rfl, rfl, n0, ?_⟩⟩
        refine ⟨_, rfl, h, _, _, _, rfl, rfl, SqL.of hO2, rfl, _, rfl, _, _, rfl, rfl, wide_div n0 (b := 30) (by omega) (by decide) (by decide), _, rfl, h, _, _, _, rfl, rfl, hO2, rfl, ?_⟩
        refine ⟨_, rfl, k _ _ t2.upd ⟨ns, j, b' / n, s', c, upd_same, by rw [upd_ne nl]; exact Y.n, Y.i0, Int.ediv_nonneg Y.b0 (by omega), Y.s0, Y.s1⟩ (Int.emod_nonneg _ (by omega)) (Int.emod_lt_of_pos _ n0)⟩
      · have s0 := Y.s0
        have s1 := Y.s1
        -- hand[4] = hand[4] + 1
        refine ⟨_, rfl, h, _, _, _, rfl, rfl, SqL.of hO2, rfl, _, _, rfl, rfl, _, rfl, h, _, _, _, rfl, rfl, hO2, rfl, ?_⟩
        generalize hH3 : L2.upd H2 h _ = H3
        have t3 : Bt h H H3 := by rw [← hH3]; exact t2.upd
        have hO3 : H3 h = some (.lst [.ref l, .int j, .int b', .int s', .int (c + 1)]) := by rw [← hH3]; exact upd_same
        have hn3 : H3 l = some (.lst (ns.map V.int)) := t3 _ _ nl X.n
        -- number = int(int(hand[3] + 7919 * hand[4]) * 48271) % 2147483647
        refine ⟨_, rfl, h, _, _, _, rfl, rfl, SqL.of hO3, rfl, _, rfl, h, _, _, _, rfl, rfl, SqL.of hO3, rfl, _, _, rfl, rfl, .inl ⟨by decide, by decide⟩, _, _, rfl, rfl, .inl ⟨_, rfl, _, _, rfl, rfl, .inr ⟨by decide, by decide⟩, .inl ⟨_, rfl, _, _, rfl, rfl, M31, ?_⟩⟩⟩
        generalize hz : ((s' + 7919 * (c + 1)) * 48271 % 2147483647 : Int) = z
        have z0 : 0 ≤ z := by rw [← hz]; exact Int.emod_nonneg _ (by decide)
        have z1 : z < 2147483647 := by rw [← hz]; exact Int.emod_lt_of_pos _ (by decide)
        show _
        refine ⟨.int z, (by rw [← hz]; rfl), .int z, (by rw [← hz]; rfl), _, _, rfl, rfl, wide_div (by decide) (b := 30) (by decide) (by decide) (by decide), _, _, rfl, rfl, _, _, rfl, rfl, .inl ⟨by omega, by omega⟩, .inl ⟨_, rfl, _, _, rfl, rfl, M31, ?_⟩⟩
        generalize hu : (z * (z / 1009 + 69621) % 2147483647 : Int) = u
        have u0 : 0 ≤ u := by rw [← hu]; exact Int.emod_nonneg _ (by decide)
        have u1 : u < 2147483647 := by rw [← hu]; exact Int.emod_lt_of_pos _ (by decide)
        show _
        refine ⟨.int u, (by rw [← hu]; rfl), .int u, (by rw [← hu]; rfl), _, _, rfl, rfl, wide_div (by decide) (b := 30) (by decide) (by decide) (by decide), _, _, rfl, rfl, _, _, rfl, rfl, .inl ⟨by omega, by omega⟩, .inl ⟨_, rfl, _, _, rfl, rfl, M30, ?_⟩⟩
        refine ⟨_, rfl, _, _, rfl, rfl, wide_div (by decide) (b := 30) (by decide) (by decide) (by decide), .inl ⟨_, rfl, _, rfl, _, _, rfl, rfl, n0, ?_⟩⟩
        exact k _ _ t3 ⟨ns, j, b', s', c + 1, hO3, hn3, Y.i0, Y.b0, s0, s1⟩ (Int.emod_nonneg _ (by omega)) (Int.emod_lt_of_pos _ n0)

end
end W2
namespace W2
open PySem PySem.Spec PyProof.Rows L2
section
variable {P : Program} {w : World} {K : PySem.W.Frag} {mg : Str → Option Value} {base : Heap} {f_init : Addr} {C : Addr}
theorem ok_flag (D : Def K mg "_law_flag" s_flag ["told", "due"]) (T : Txt K mg)  : Cal P w K mg base 1 "_law_flag" ["told", "due"] spFlag := by
  refine D.cal sc_flag (fun vs H Q E h => ?_) (fun f cdv A outer s H vs Q E hr h => ?_)
  · obtain ⟨a, b, rfl, _⟩ := h
    rfl
  · obtain ⟨a, b, rfl, k⟩ := h
    refine ⟨_, (pss_one (ps_ret (pe_and (pe_callB (call_isiK1 (K := K) rfl) (by rfl) T.n_isinstance (by decide +kernel) (pa_cons (pv 0) (pa_cons (pe_bltn (v := .ty "bool") (by rfl) T.n_bool (by decide +kernel) rfl) pa_nil))) (pe_one (pe_cmpR op_eq (pv 0) (pv 1) (nomark _)))))), ?_⟩
    refine ⟨_, rfl, _, _, _, _, true, rfl, .ty _, .base (.bl a), kit_ty (by decide +kernel), true, rfl, iteT ?_⟩
    refine ⟨_, rfl, _, rfl, rfl, ?_⟩
    have e : decide (V.bl a = V.bl b) = decide (a = b) := by cases a <;> cases b <;> rfl
    rw [e]
    exact k _ (L2.Same.refl _)

end
end W2
namespace W2
open PySem PySem.Spec PyProof.Rows L2
section
variable {P : Program} {w : World} {K : PySem.W.Frag} {mg : Str → Option Value} {base : Heap} {f_init : Addr} {C : Addr}
theorem ok_deep (D : Def K mg "_law_deep" s_deep ["kind"]) (T : Txt K mg)  : Cal P w K mg base 1 "_law_deep" ["kind"] spDeep := by
  refine D.cal sc_deep (fun vs H Q E h => ?_) (fun f cdv A outer s H vs Q E hr h => ?_)
  · obtain ⟨k, rfl, _⟩ := h
    rfl
  · obtain ⟨k0, rfl, k⟩ := h
    refine ⟨_, (pss_cons (ps_set (i := 1) sc_deep.nd rfl (Or.inl rfl) pe_non)
      (pss_cons (ps_for PassesOwn.never rfl (pi_range1 rfl T.n_range (pa_cons pe_int pa_nil)) (pg_name (i := 2) sc_deep.nd rfl (Or.inl rfl)) (pss_one (ps_set (i := 1) sc_deep.nd rfl (Or.inl rfl) (pe_ifExp (pt_cmpR op_eq (pv 0) pe_int (nomark _)) (pe_lst (pa_cons (pv 1) pa_nil)) (pe_tup (pa_cons (pv 1) pa_nil))))))
      (pss_one (ps_ret (pv 1))))), ?_⟩
    refine ⟨_, rfl, by decide, by decide, ?_⟩
    refine for_range (lo := 0) (n := 36) (fun i σ H' => ∃ (x : V) (v2 : Option V), σ = [some (.int k0), some x, v2] ∧ L2.Same H H' ∧ ∀ C h o, H h = some o → Thing C h H' x) ⟨.non, none, rfl, L2.Same.refl _, fun C h o _ => .flat .non (fun b z => nomatch z)⟩ ?_ ?_
    · rintro i σ H1 hi ⟨x, v2, rfl, s1, th⟩
      refine ⟨_, rfl, rfl, _, rfl, iteB (fun e => ?_) (fun e => ?_)⟩
      · refine ⟨_, rfl, small (by show 1 ≤ 100000; decide), fun t ht => ⟨_, _, rfl, Same.new s1 ht, fun C h o ho => ?_⟩⟩
        exact .lst (ne_of_none (s1 _ _ ho) ht).symm upd_same
      · refine ⟨_, rfl, small (by show 1 ≤ 100000; decide), fun t ht => ⟨_, _, rfl, Same.new s1 ht, fun C h o ho => ?_⟩⟩
        refine .tup upd_same fun y hy => ?_
        simp only [List.mem_cons, List.not_mem_nil, or_false] at hy
        subst hy
        exact ((th C h o ho).same (same_upd ht)).any
    · rintro σ H1 ⟨x, v2, rfl, s1, th⟩
      exact ⟨_, rfl, k _ _ s1 th⟩

end
end W2
namespace W2
open PySem PySem.Spec PyProof.Rows L2
section
variable {P : Program} {w : World} {K : PySem.W.Frag} {mg : Str → Option Value} {base : Heap} {f_init : Addr} {C : Addr}
theorem ok_lrank (D : Def K mg "_law_rank" s_lrank ["number"]) (T : Txt K mg)  : Cal P w K mg base 1 "_law_rank" ["number"] spRank := by
  refine D.cal sc_lrank (fun vs H Q E h => ?_) (fun f cdv A outer s H vs Q E hr h => ?_)
  · obtain ⟨n, rfl, _⟩ := h
    rfl
  · obtain ⟨n, rfl, n1, n64, k⟩ := h
    refine ⟨_, (pss_cons (ps_set (i := 1) sc_lrank.nd rfl (Or.inl rfl) pe_int)
      (pss_cons (ps_for PassesOwn.never rfl (pi_range1 rfl T.n_range (pa_cons pe_int pa_nil)) (pg_name (i := 2) sc_lrank.nd rfl (Or.inl rfl)) (pss_one (ps_if (pt_cmpR op_gt (pv 0) pe_int (nomark _)) (pss_one (ps_par (i := 1) (j := 0) (by rfl) sc_lrank.nd rfl rfl (by decide) rfl rfl (pa_cons (pe_op op_add (pv 1) pe_int) (pa_cons (pe_op op_fdivW (pv 0) pe_int) pa_nil)) (by rfl))) pss_nil)))
      (pss_one (ps_ret (pv 1))))), ?_⟩
    refine ⟨_, rfl, by decide, by decide, ?_⟩
    refine for_range (lo := 0) (n := 80) (fun i σ H' => ∃ (m g : Nat) (v2 : Option V), σ = [some (nv m), some (nv g), v2] ∧ L2.Same H H' ∧ 1 ≤ m ∧ (m + i ≤ 65 ∨ m = 1) ∧ ((g + m.log2 : Nat) : Int) = lg n) ⟨n.natAbs, 0, none, by rw [show nv n.natAbs = V.int n from by show V.int _ = _; congr 1; omega]; rfl, L2.Same.refl _, by omega, by omega, by unfold lg; rw [Nat.zero_add]⟩ ?_ ?_
    · rintro i σ H1 hi ⟨m, g, v2, rfl, s1, m1, mi, e⟩
      refine ⟨_, rfl, _, _, rfl, rfl, _, rfl, iteB (fun gt => ?_) (fun gt => ?_)⟩
      · have gt2 := of_decide_eq_true gt
        refine ⟨_, rfl, _, _, rfl, rfl, _, rfl, _, _, rfl, rfl, wide_div (by decide) (b := 30) (by decide) (by decide) (by decide), _, _, rfl, m / 2, g + 1, some (.int (0 + (i : Int))), ?_, s1, by omega, by omega, ?_⟩
        · have e1 : ((g : Int) + 1) = ((g + 1 : Nat) : Int) := by omega
          have e2 : ((m : Int) / 2) = ((m / 2 : Nat) : Int) := by omega
          show _ = [some (V.int ((m / 2 : Nat) : Int)), some (V.int ((g + 1 : Nat) : Int)), _]
          rw [← e1, ← e2]
          rfl
        · rw [← e]
          have : m.log2 = (m / 2).log2 + 1 := by rw [Nat.log2_def, if_pos (by omega)]
          omega
      · have gt2 := of_decide_eq_false gt
        exact ⟨m, g, _, rfl, s1, m1, by omega, e⟩
    · rintro σ H1 ⟨m, g, v2, rfl, s1, m1, mi, e⟩
      have em : m = 1 := by omega
      subst em
      refine ⟨_, rfl, ?_⟩
      have e2 : ((g : Nat) : Int) = lg n := by rw [← e]; rfl
      show Q (.int ((g : Nat) : Int)) H1
      rw [e2]
      exact k _ s1

end
end W2
namespace W2
open PySem PySem.Spec PyProof.Rows L2
section
variable {P : Program} {w : World} {K : PySem.W.Frag} {mg : Str → Option Value} {base : Heap} {f_init : Addr} {C : Addr}
theorem ok_between (D : Def K mg "is_between" s_between ["least", "most", "thing"]) (T : Txt K mg) (C_isint : Cal P w K mg base 1 "is_integer" ["thing"] (spIsInt C)) : Cal P w K mg base 2 "is_between" ["least", "most", "thing"] (spBetween C) := by
  refine D.cal sc_between (fun vs H Q E h => ?_) (fun f cdv A outer s H vs Q E hr h => ?_)
  · obtain ⟨h, a, b, x, rfl, _⟩ := h
    rfl
  · obtain ⟨h, a, b, x, rfl, an, k⟩ := h
    refine ⟨_, (pss_one (ps_ret (pe_and (pcal C_isint hr (by decide) rfl (pa_cons (pv 2) pa_nil)) (pe_one (pe_chain op_le op_le (pv 0) (pv 2) (pv 1)))))), ?_⟩
    refine ⟨_, rfl, h, x, rfl, an, fun H1 s1 => ⟨_, rfl, iteB (fun e => ?_) (fun e => ?_)⟩⟩
    · obtain ⟨i, rfl⟩ := isI_of e
      have r := k _ s1
      refine ⟨_, rfl, _, rfl, _, _, rfl, rfl, _, rfl, iteB (fun e1 => ⟨_, rfl, _, _, rfl, rfl, ?_⟩) (fun e1 => ?_)⟩
      · have r : Q (.bl (decide (a ≤ i) && decide (i ≤ b))) H1 := r
        rw [e1, Bool.true_and] at r
        exact r
      · have r : Q (.bl (decide (a ≤ i) && decide (i ≤ b))) H1 := r
        rw [e1, Bool.false_and] at r
        exact r
    · have r := k _ s1
      have e2 : wiV a b x = false := by cases x <;> first | rfl | cases e
      rw [e2] at r
      exact r

end
end W2
namespace W2
open PySem PySem.Spec PyProof.Rows L2
section
variable {P : Program} {w : World} {K : PySem.W.Frag} {mg : Str → Option Value} {base : Heap} {f_init : Addr} {C : Addr}
theorem ok_isnum (D : Def K mg "is_number" s_isnum ["thing"]) (T : Txt K mg) (C_isint : Cal P w K mg base 1 "is_integer" ["thing"] (spIsInt C)) : Cal P w K mg base 2 "is_number" ["thing"] (spIsNum C) := by
  refine D.cal sc_isnum (fun vs H Q E h => ?_) (fun f cdv A outer s H vs Q E hr h => ?_)
  · obtain ⟨h, x, rfl, _⟩ := h
    rfl
  · obtain ⟨h, x, rfl, an, k⟩ := h
    refine ⟨_, (pss_one (ps_ret (pe_and (pcal C_isint hr (by decide) rfl (pa_cons (pv 0) pa_nil)) (pe_one (pe_cmpR op_ge (pv 0) pe_int (nomark _)))))), ?_⟩
    refine ⟨_, rfl, h, x, rfl, an, fun H1 s1 => ⟨_, rfl, iteB (fun e => ?_) (fun e => ?_)⟩⟩
    · obtain ⟨i, rfl⟩ := isI_of e
      exact ⟨_, rfl, _, _, rfl, rfl, k _ s1⟩
    · have r := k _ s1
      have e2 : numV x = false := by cases x <;> first | rfl | cases e
      rw [e2] at r
      exact r

end
end W2
namespace W2
open PySem PySem.Spec PyProof.Rows L2
section
variable {P : Program} {w : World} {K : PySem.W.Frag} {mg : Str → Option Value} {base : Heap} {f_init : Addr} {C : Addr}
theorem ok_arewor (D : Def K mg "_are_worths" s_arewor ["thing", "houses"]) (T : Txt K mg) (C_isint : Cal P w K mg base 1 "is_integer" ["thing"] (spIsInt C)) (FC : ForC K mg C f_init) : Cal P w K mg base 2 "_are_worths" ["thing", "houses"] spAreWT := by
  refine D.cal sc_arewor (fun vs H Q E h => ?_) (fun f cdv A outer s H vs Q E hr h => ?_)
  · obtain ⟨a, ws, rfl, _⟩ := h
    rfl
  · obtain ⟨a, ws, rfl, hA, hz, k⟩ := h
    refine ⟨_, (pss_cons (ps_if (PW.pt (pw_or (pt_not (pt_val (pe_callB (call_isiK1 (K := K) rfl) (by rfl) T.n_isinstance (by decide +kernel) (pa_cons (pv 0) (pa_cons (pe_bltn (v := .ty "tuple") (by rfl) T.n_tuple (by decide +kernel) rfl) pa_nil))))) (pw_or1 (pt_cmpR op_ne (pe_callB (call_lenK (K := K) rfl) (by rfl) T.n_len PySem.boot_len (pa_cons (pv 0) pa_nil)) (pv 1) (nomark _))))) (pss_one (ps_ret pe_bl)) pss_nil)
      (pss_one (ps_ret (pe_callB (cr_all rfl) (by rfl) T.n_all (by decide +kernel) (pa_cons (pe_lc (own := [("worth", 2)]) (g := gName 2) (tt := tYes) (by rfl) sc_arewor.nd (pi_tup (pv 0)) (blkOk_by (own := [("worth", 2)]) (N := ["thing", "houses", "worth"]) (sc := defScope s_arewor) (by decide +kernel)) (fun _ _ _ _ _ => pg_name (i := 2) sc_arewor.nd rfl (Or.inl rfl)) (fun _ _ _ _ _ => pts_nil) (fun _ _ _ _ _ => (pcal C_isint hr (by decide) rfl (pa_cons (pv 2) pa_nil)))) pa_nil))))), ?_⟩
    refine ⟨_, rfl, _, _, _, _, true, rfl, .ty _, .base (.tup hA), kit_ty (by decide +kernel), true, rfl, iteF ?_⟩
    refine ⟨_, rfl, a, _, rfl, .inr (SqT.of hA), _, rfl, rfl, _, rfl, ?_⟩
    rw [List.length_map, decide_eq_true rfl]
    refine iteF ?_
    refine ⟨_, rfl, a, rfl, ⟨_, SqT.of hA⟩, fun D hD => ?_⟩
    refine lc_tup (xs := ws.map V.int) (fun i H' => L2.Same H H' ∧ H' D = some (.lst ((List.replicate i true).map V.bl))) ⟨same_upd hD, by rw [upd_same]; rfl⟩ (fun i H' _ p => SqT.of (p.1 _ _ hA)) ?_ ?_
    · rintro i x H' hx ⟨sm, hd⟩
      rw [List.getElem?_map] at hx
      cases ho : ws[i]? with
      | none => rw [ho] at hx; cases hx
      | some o =>
        rw [ho] at hx
        have ex : x = .int o := (Option.some.inj hx).symm
        subst ex
        have hi := (List.getElem?_eq_some_iff.mp ho).1
        refine ⟨rfl, _, rfl, D, _, rfl, .int o, fun H2 s2 => ⟨_, s2 _ _ hd, by rw [List.length_map, List.length_replicate]; exact smalls (by omega), Same.upd (sm.trans s2) hD, by rw [upd_same, List.replicate_succ', List.map_append]; rfl⟩⟩
    rintro H1 ⟨s1, hd1⟩
    refine ⟨D, _, rfl, SqL.of hd1, ?_⟩
    have e : ((List.replicate (ws.map V.int).length true).all id) = true := by simp
    rw [e]
    exact k _ s1

end
end W2
namespace W2
open PySem PySem.Spec PyProof.Rows L2
section
variable {P : Program} {w : World} {K : PySem.W.Frag} {mg : Str → Option Value} {base : Heap} {f_init : Addr} {C : Addr}
theorem ok_rank (D : Def K mg "rank" s_rank ["number"]) (T : Txt K mg) (C_isint : Cal P w K mg base 1 "is_integer" ["thing"] (spIsInt C)) : Cal P w K mg base 2 "rank" ["number"] spRank := by
  refine D.cal sc_rank (fun vs H Q E h => ?_) (fun f cdv A outer s H vs Q E hr h => ?_)
  · obtain ⟨n, rfl, _⟩ := h
    rfl
  · obtain ⟨n, rfl, n1, n64, k⟩ := h
    refine ⟨_, (pss_cons (ps_if (PW.pt (pw_or (pt_not (pt_val (pcal C_isint hr (by decide) rfl (pa_cons (pv 0) pa_nil)))) (pw_or1 (pt_cmpR op_lt (pv 0) pe_int (nomark _))))) pss_never pss_nil)
      (pss_one (ps_ret (pe_op op_sub (pe_bits (pv 0)) pe_int)))), ?_⟩
    refine ⟨_, rfl, f, _, rfl, .int _, fun H1 s1 => ⟨true, rfl, iteF ?_⟩⟩
    refine ⟨_, rfl, _, _, rfl, rfl, _, rfl, ?_⟩
    rw [decide_eq_false (show ¬ n < 1 by omega)]
    refine iteF ?_
    refine ⟨_, rfl, n, rfl, _, _, rfl, rfl, ?_⟩
    have e : ((Builtin.Int.intBits n : Nat) : Int) - 1 = lg n := by
      unfold Builtin.Int.intBits lg
      rw [if_neg (by simp; omega)]
      omega
    show Q (.int (((Builtin.Int.intBits n : Nat) : Int) - 1)) H1
    rw [e]
    exact k _ s1

end
end W2
namespace W2
open PySem PySem.Spec PyProof.Rows L2
section
variable {P : Program} {w : World} {K : PySem.W.Frag} {mg : Str → Option Value} {base : Heap} {f_init : Addr} {C : Addr}
theorem ok_pick (D : Def K mg "_law_some" s_pick ["hand", "things"]) (T : Txt K mg) (C_take : Cal P w K mg base 1 "_law_draw" ["hand", "many"] spTake) : Cal P w K mg base 2 "_law_some" ["hand", "things"] spPick := by
  refine D.cal sc_pick (fun vs H Q E h => ?_) (fun f cdv A outer s H vs Q E hr h => ?_)
  · obtain ⟨h, l, t, xs, rfl, _⟩ := h
    rfl
  · obtain ⟨h, l, t, xs, rfl, HH, ht, nth, h0, hz, k⟩ := h
    refine ⟨_, (pss_one (ps_ret (pe_ix (ix_listK (K := K) rfl) (pv 1) (pcal C_take hr (by decide) rfl (pa_cons (pv 0) (pa_cons (pe_callB (call_lenK (K := K) rfl) (by rfl) T.n_len PySem.boot_len (pa_cons (pv 1) pa_nil)) pa_nil))) (fun _ _ => rfl)))), ?_⟩
    refine ⟨_, rfl, _, rfl, _, rfl, t, _, rfl, .inl (SqL.of ht), h, l, _, rfl, HH, by omega, by omega, fun H1 r b1 hh1 r0 r1 => ?_⟩
    have hr : r.toNat < xs.length := by omega
    have hat : atI xs r = some xs[r.toNat] := at_of (by omega) (List.getElem?_eq_getElem hr)
    exact ⟨t, _, _, _, rfl, rfl, SqL.of (b1 _ _ nth ht), hat, k _ _ b1 hh1 (List.getElem_mem hr)⟩

end
end W2
namespace W2
open PySem PySem.Spec PyProof.Rows L2
section
variable {P : Program} {w : World} {K : PySem.W.Frag} {mg : Str → Option Value} {base : Heap} {f_init : Addr} {C : Addr}
theorem ok_lpaper (D : Def K mg "_law_is_paper" s_lpaper ["many", "thing"]) (T : Txt K mg) (C_lrank : Cal P w K mg base 1 "_law_rank" ["number"] spRank) (FC : ForC K mg C f_init) : Cal P w K mg base 2 "_law_is_paper" ["many", "thing"] (spPaper C) := by
  refine D.cal sc_lpaper (fun vs H Q E h => ?_) (fun f cdv A outer s H vs Q E hr h => ?_)
  · obtain ⟨h, n, x, rfl, _⟩ := h
    rfl
  · obtain ⟨h, n, x, rfl, th, n1, n64, kY, kN⟩ := h
    refine ⟨_, (pss_cons (ps_if (PW.pt (pw_or (pt_not (pt_val (pe_callB (call_isiK1 (K := K) rfl) (by rfl) T.n_isinstance (by decide +kernel) (pa_cons (pv 1) (pa_cons (pe_bltn (v := .ty "tuple") (by rfl) T.n_tuple (by decide +kernel) rfl) pa_nil))))) (pw_or (pt_cmpR op_ne (pe_callB (call_lenK (K := K) rfl) (by rfl) T.n_len PySem.boot_len (pa_cons (pv 1) pa_nil)) pe_int (nomark _)) (pw_or1 (pt_val (pe_callB (cr_any rfl) (by rfl) T.n_any (by decide +kernel) (pa_cons (pe_lc (own := [("one", 2)]) (g := gName 2) (tt := tYes) (by rfl) sc_lpaper.nd (pi_tup (pv 1)) (blkOk_by (own := [("one", 2)]) (N := ["many", "thing", "one"]) (sc := defScope s_lpaper) (by decide +kernel)) (fun _ _ _ _ _ => pg_name (i := 2) sc_lpaper.nd rfl (Or.inl rfl)) (fun _ _ _ _ _ => pts_nil) (fun _ _ _ _ _ => (pe_callB (call_isiK1 (K := K) rfl) (by rfl) T.n_isinstance (by decide +kernel) (pa_cons (pv 2) (pa_cons (pe_bltn (v := .ty "bool") (by rfl) T.n_bool (by decide +kernel) rfl) pa_nil))))) pa_nil))))))) (pss_one (ps_ret pe_bl)) pss_nil)
      (pss_cons (ps_if (PW.pt (pw_or (pt_not (pt_val (pe_callB (cr_all rfl) (by rfl) T.n_all (by decide +kernel) (pa_cons (pe_lc (own := [("one", 2)]) (g := gName 2) (tt := tYes) (by rfl) sc_lpaper.nd (pi_tup (pv 1)) (blkOk_by (own := [("one", 2)]) (N := ["many", "thing", "one"]) (sc := defScope s_lpaper) (by decide +kernel)) (fun _ _ _ _ _ => pg_name (i := 2) sc_lpaper.nd rfl (Or.inl rfl)) (fun _ _ _ _ _ => pts_nil) (fun _ _ _ _ _ => (pe_callB (call_isiK1 (K := K) rfl) (by rfl) T.n_isinstance (by decide +kernel) (pa_cons (pv 2) (pa_cons (pe_bltn (v := .ty "int") (by rfl) T.n_int (by decide +kernel) rfl) pa_nil))))) pa_nil)))) (pw_or (pt_cmpR op_lt (pe_ix (ix_tupK (K := K) rfl) (pv 1) pe_int (fun _ _ => rfl)) pe_int (nomark _)) (pw_or (pt_cmpR op_lt (pe_ix (ix_tupK (K := K) rfl) (pv 1) pe_int (fun _ _ => rfl)) pe_int (nomark _)) (pw_or1 (pt_cmpR op_ne (pe_ix (ix_tupK (K := K) rfl) (pv 1) pe_int (fun _ _ => rfl)) (pe_op op_fdivW (pe_ix (ix_tupK (K := K) rfl) (pv 1) pe_int (fun _ _ => rfl)) pe_int) (nomark _))))))) (pss_one (ps_ret pe_bl)) pss_nil)
      (pss_one (ps_ret (pe_cmpR op_le (pe_op op_add (pe_op op_add (pe_op op_add (pe_ix (ix_tupK (K := K) rfl) (pv 1) pe_int (fun _ _ => rfl)) (pe_ix (ix_tupK (K := K) rfl) (pv 1) pe_int (fun _ _ => rfl))) (pe_ix (ix_tupK (K := K) rfl) (pv 1) pe_int (fun _ _ => rfl))) (pe_op op_mul pe_int (pe_ix (ix_tupK (K := K) rfl) (pv 1) pe_int (fun _ _ => rfl)))) (pe_op op_add (pe_op op_mul pe_int (pcal C_lrank hr (by decide) rfl (pa_cons (pv 0) pa_nil))) pe_int) (nomark _)))))), ?_⟩
    obtain ⟨t, b, ty, kt, hb1, hb0⟩ := any_tup FC.own th.any
    refine ⟨_, rfl, _, _, _, _, b, rfl, .ty _, ty, kt, b, rfl, ?_⟩
    cases b with
    | false => exact iteT (iteT (kN (fun ⟨a, f, m, l, c, e, e2⟩ => hb0 rfl a _ e e2) _ (L2.Same.refl _)))
    | true =>
      obtain ⟨a, xs, rfl, hA⟩ := hb1 rfl
      refine iteF ⟨_, rfl, a, _, rfl, .inr (SqT.of hA), rfl, _, rfl, iteB (fun e1 => iteT ?_) (fun e1 => ?_)⟩
      · refine kN (fun ⟨a', f, m, l, c, e, e2⟩ => ?_) _ (L2.Same.refl _)
        cases e
        rw [hA] at e2
        cases e2
        exact absurd e1 (by simp [quad])
      have l4 : xs.length = 4 := by
        have e5 : decide (V.int ((xs.length : Nat) : Int) = V.int 4) = true := by simpa using e1
        have e6 := V.int.inj (of_decide_eq_true e5)
        omega
      have ax : ∀ x ∈ xs, Any C h H x := th.items a _ rfl hA
      -- any(isinstance(one, bool))
      refine ⟨_, rfl, a, rfl, ⟨_, SqT.of hA⟩, fun D hD => ?_⟩
      refine lc_tup (xs := xs) (fun i H' => L2.Same H H' ∧ H' D = some (.lst (((xs.take i).map isB).map V.bl))) ⟨same_upd hD, by rw [upd_same]; rfl⟩ (fun i H' _ p => SqT.of (p.1 _ _ hA)) ?_ ?_
      · rintro i x H' hx ⟨sm, hd⟩
        have hi := (List.getElem?_eq_some_iff.mp hx).1
        obtain ⟨t2, ty2, kI, kB⟩ := any_kit FC.own ((ax x (List.mem_of_getElem? hx)).same sm)
        refine ⟨rfl, _, rfl, _, _, _, _, _, rfl, .ty _, ty2, kB, _, hd, by rw [List.length_map, List.length_map, List.length_take]; exact smalls (by omega), Same.upd sm hD, by rw [upd_same, List.take_add_one, hx, List.map_append, List.map_append]; rfl⟩
      rintro H1 ⟨s1, hd1⟩
      rw [List.take_length] at hd1
      refine ⟨D, _, rfl, SqL.of hd1, _, rfl, iteB (fun e2 => ?_) (fun e2 => ?_)⟩
      · refine kN (fun ⟨a', f, m, l, c, e, e3⟩ => ?_) _ s1
        cases e
        rw [hA] at e3
        cases e3
        exact absurd e2 (by simp [quad, isB])
      -- all(isinstance(one, int))
      have hA1 := s1 _ _ hA
      refine ⟨_, rfl, a, rfl, ⟨_, SqT.of hA1⟩, fun D2 hD2 => ?_⟩
      refine lc_tup (xs := xs) (fun i H' => L2.Same H1 H' ∧ H' D2 = some (.lst (((xs.take i).map fun x => isI x || isB x).map V.bl))) ⟨same_upd hD2, by rw [upd_same]; rfl⟩ (fun i H' _ p => SqT.of (p.1 _ _ hA1)) ?_ ?_
      · rintro i x H' hx ⟨sm, hd⟩
        have hi := (List.getElem?_eq_some_iff.mp hx).1
        obtain ⟨t2, ty2, kI, kB⟩ := any_kit FC.own ((ax x (List.mem_of_getElem? hx)).same (s1.trans sm))
        refine ⟨rfl, _, rfl, _, _, _, _, _, rfl, .ty _, ty2, kI, _, hd, by rw [List.length_map, List.length_map, List.length_take]; exact smalls (by omega), Same.upd sm hD2, by rw [upd_same, List.take_add_one, hx, List.map_append, List.map_append]; rfl⟩
      rintro H2 ⟨s2, hd2⟩
      rw [List.take_length] at hd2
      have s12 := s1.trans s2
      have hA2 := s2 _ _ hA1
      obtain ⟨p, q, r, u, rfl⟩ := four l4
      refine ⟨D2, _, rfl, SqL.of hd2, _, rfl, iteB (fun e3 => ?_) (fun e3 => ?_)⟩
      · refine iteT (kN (fun ⟨a', f, m, l, c, e, e4⟩ => ?_) _ s12)
        cases e
        rw [hA] at e4
        cases e4
        exact absurd e3 (by simp [isI])
      have hI : ∃ f m l c, p = .int f ∧ q = .int m ∧ r = .int l ∧ u = .int c := by
        simp only [List.map_cons, List.map_nil, List.all_cons, List.all_nil, List.any_cons, List.any_nil, id, Bool.not_eq_false', Bool.and_eq_true, Bool.or_eq_false_iff, Bool.or_eq_true] at e2 e3
        obtain ⟨b1, b2, b3, b4, _⟩ := e2
        obtain ⟨i1, i2, i3, i4, _⟩ := e3
        rw [b1] at i1; rw [b2] at i2; rw [b3] at i3; rw [b4] at i4
        obtain ⟨f, rfl⟩ := isI_of (i1.resolve_right (by simp))
        obtain ⟨m, rfl⟩ := isI_of (i2.resolve_right (by simp))
        obtain ⟨l, rfl⟩ := isI_of (i3.resolve_right (by simp))
        obtain ⟨c, rfl⟩ := isI_of (i4.resolve_right (by simp))
        exact ⟨f, m, l, c, rfl, rfl, rfl, rfl⟩
      obtain ⟨fi, mi, li, ci, rfl, rfl, rfl, rfl⟩ := hI
      have kY' := kY a fi mi li ci rfl hA
      refine ⟨_, rfl, a, _, _, _, rfl, rfl, SqT.of hA2, rfl, _, _, rfl, rfl, _, rfl, iteB (fun e4 => iteT ?_) (fun e4 => ?_)⟩
      · have e4 := of_decide_eq_true e4
        have r := kY' _ s12
        have e5 : pj n fi mi li ci = false := by
          simp only [pj, Bool.and_eq_false_iff, decide_eq_false_iff_not]
          omega
        rw [e5] at r
        exact r
      have e4 := of_decide_eq_false e4
      refine ⟨_, rfl, a, _, _, _, rfl, rfl, SqT.of hA2, rfl, _, _, rfl, rfl, _, rfl, iteB (fun e5 => iteT ?_) (fun e5 => ?_)⟩
      · have e5 := of_decide_eq_true e5
        have r := kY' _ s12
        have e6 : pj n fi mi li ci = false := by
          simp only [pj, Bool.and_eq_false_iff, decide_eq_false_iff_not]
          omega
        rw [e6] at r
        exact r
      have e5 := of_decide_eq_false e5
      refine ⟨_, rfl, a, _, _, _, rfl, rfl, SqT.of hA2, rfl, _, rfl, a, _, _, _, rfl, rfl, SqT.of hA2, rfl, _, _, rfl, rfl, wide_div (by decide) (b := 30) (by decide) (by decide) (by decide), rfl, _, rfl, iteB (fun e6 => ?_) (fun e6 => ?_)⟩
      · have e6 : ¬ li = mi / 2 := fun z => by
          have e7 : (!decide (V.int li = V.int (mi / 2))) = true := e6
          rw [z, decide_eq_true rfl] at e7
          cases e7
        have r := kY' _ s12
        have e7 : pj n fi mi li ci = false := by
          simp only [pj, Bool.and_eq_false_iff, decide_eq_false_iff_not]
          omega
        rw [e7] at r
        exact r
      have e6 : li = mi / 2 := by
        have e7 : (!decide (V.int li = V.int (mi / 2))) = false := e6
        have e8 : decide (V.int li = V.int (mi / 2)) = true := by simpa using e7
        exact V.int.inj (of_decide_eq_true e8)
      refine ⟨_, rfl, a, _, _, _, rfl, rfl, SqT.of hA2, rfl, _, rfl, a, _, _, _, rfl, rfl, SqT.of hA2, rfl, _, _, rfl, rfl, _, rfl, a, _, _, _, rfl, rfl, SqT.of hA2, rfl, _, _, rfl, rfl, _, rfl, a, _, _, _, rfl, rfl, SqT.of hA2, rfl, _, _, rfl, rfl, .inl ⟨by decide, by decide⟩, _, _, rfl, rfl, ?_⟩
      refine ⟨_, rfl, n, rfl, n1, n64, fun H3 s3 => ⟨_, _, rfl, rfl, .inl ⟨by decide, by decide⟩, _, _, rfl, rfl, _, _, rfl, rfl, ?_⟩⟩
      have r := kY' _ (s12.trans s3)
      have e7 : pj n fi mi li ci = decide (fi + mi + li + 5 * ci ≤ 30 * lg n + 7) := by
        rw [Bool.eq_iff_iff]
        simp only [pj, Bool.and_eq_true, decide_eq_true_iff]
        omega
      rw [e7] at r
      exact r

end
end W2
namespace W2
open PySem PySem.Spec PyProof.Rows L2
section
variable {P : Program} {w : World} {K : PySem.W.Frag} {mg : Str → Option Value} {base : Heap} {f_init : Addr} {C : Addr}
theorem ok_ishouse (D : Def K mg "is_house" s_ishouse ["many", "thing"]) (T : Txt K mg) (C_between : Cal P w K mg base 2 "is_between" ["least", "most", "thing"] (spBetween C)) : Cal P w K mg base 3 "is_house" ["many", "thing"] (spIsHouse C) := by
  refine D.cal sc_ishouse (fun vs H Q E h => ?_) (fun f cdv A outer s H vs Q E hr h => ?_)
  · obtain ⟨h, n, x, rfl, _⟩ := h
    rfl
  · obtain ⟨h, n, x, rfl, an, k⟩ := h
    refine ⟨_, (pss_one (ps_ret (pcal C_between hr (by decide) rfl (pa_cons pe_int (pa_cons (pe_op op_sub (pv 0) pe_int) (pa_cons (pv 1) pa_nil)))))), ?_⟩
    exact ⟨_, rfl, _, _, rfl, rfl, _, rfl, h, 0, n - 1, x, rfl, an, k⟩

end
end W2
namespace W2
open PySem PySem.Spec PyProof.Rows L2
section
variable {P : Program} {w : World} {K : PySem.W.Frag} {mg : Str → Option Value} {base : Heap} {f_init : Addr} {C : Addr}
theorem ok_ismany (D : Def K mg "is_many" s_ismany ["thing"]) (T : Txt K mg) (C_between : Cal P w K mg base 2 "is_between" ["least", "most", "thing"] (spBetween C)) : Cal P w K mg base 3 "is_many" ["thing"] (spIsMany C) := by
  obtain ⟨tk_MOST_HOUSES, h_MOST_HOUSES⟩ := T.c_MOST_HOUSES
  refine D.cal sc_ismany (fun vs H Q E h => ?_) (fun f cdv A outer s H vs Q E hr h => ?_)
  · obtain ⟨h, x, rfl, _⟩ := h
    rfl
  · obtain ⟨h, x, rfl, an, k⟩ := h
    refine ⟨_, (pss_one (ps_ret (pcal C_between hr (by decide) rfl (pa_cons pe_int (pa_cons (pe_glob (v := .int 64) rfl h_MOST_HOUSES ⟨_, rfl⟩) (pa_cons (pv 0) pa_nil)))))), ?_⟩
    exact ⟨_, rfl, h, 1, 64, x, rfl, an, k⟩

end
end W2
namespace W2
open PySem PySem.Spec PyProof.Rows L2
section
variable {P : Program} {w : World} {K : PySem.W.Frag} {mg : Str → Option Value} {base : Heap} {f_init : Addr} {C : Addr}
theorem ok_mostfor (D : Def K mg "most_for_reaching" s_mostfor ["many"]) (T : Txt K mg) (C_rank : Cal P w K mg base 2 "rank" ["number"] spRank) : Cal P w K mg base 3 "most_for_reaching" ["many"] spMost := by
  refine D.cal sc_mostfor (fun vs H Q E h => ?_) (fun f cdv A outer s H vs Q E hr h => ?_)
  · obtain ⟨n, rfl, _⟩ := h
    rfl
  · obtain ⟨n, rfl, n1, n64, k⟩ := h
    refine ⟨_, (pss_one (ps_ret (pe_op op_add (pe_op op_mul pe_int (pcal C_rank hr (by decide) rfl (pa_cons (pv 0) pa_nil))) pe_int))), ?_⟩
    exact ⟨_, rfl, n, rfl, n1, n64, fun H1 s1 => ⟨_, _, rfl, rfl, .inl ⟨by decide, by decide⟩, _, _, rfl, rfl, k _ s1⟩⟩

end
end W2
namespace W2
open PySem PySem.Spec PyProof.Rows L2
section
variable {P : Program} {w : World} {K : PySem.W.Frag} {mg : Str → Option Value} {base : Heap} {f_init : Addr} {C : Addr}
theorem ok_spaper (D : Def K mg "_law_some_paper" s_spaper ["hand", "many"]) (T : Txt K mg) (C_pick : Cal P w K mg base 2 "_law_some" ["hand", "things"] spPick) (C_take : Cal P w K mg base 1 "_law_draw" ["hand", "many"] spTake) (C_lrank : Cal P w K mg base 1 "_law_rank" ["number"] spRank) : Cal P w K mg base 3 "_law_some_paper" ["hand", "many"] spSome := by
  refine D.cal sc_spaper (fun vs H Q E h => ?_) (fun f cdv A outer s H vs Q E hr h => ?_)
  · obtain ⟨h, l, n, rfl, _⟩ := h
    rfl
  · obtain ⟨h, l, n, rfl, HH, n1, n64, k⟩ := h
    refine ⟨_, (pss_cons (ps_set (i := 2) sc_spaper.nd rfl (Or.inl rfl) (pcal C_pick hr (by decide) rfl (pa_cons (pv 0) (pa_cons (pe_lst (pa_cons pe_int (pa_cons pe_int (pa_cons (pe_un un_neg pe_int) (pa_cons (pe_un un_neg pe_int) (pa_cons (pcal C_take hr (by decide) rfl (pa_cons (pv 0) (pa_cons pe_int pa_nil))) (pa_cons (pe_un un_neg (pcal C_take hr (by decide) rfl (pa_cons (pv 0) (pa_cons pe_int pa_nil)))) (pa_cons (pe_un un_neg (pe_op op_pow pe_int pe_int)) pa_nil)))))))) pa_nil))))
      (pss_cons (ps_set (i := 3) sc_spaper.nd rfl (Or.inl rfl) (pe_op op_add pe_int (pcal C_take hr (by decide) rfl (pa_cons (pv 0) (pa_cons pe_int pa_nil)))))
      (pss_cons (ps_set (i := 4) sc_spaper.nd rfl (Or.inl rfl) (pe_op op_sub (pe_op op_sub (pe_op op_sub (pe_op op_add (pe_op op_mul pe_int (pcal C_lrank hr (by decide) rfl (pa_cons (pv 1) pa_nil))) pe_int) (pe_op op_mul pe_int (pv 2))) (pv 3)) (pe_op op_fdivW (pv 3) pe_int)))
      (pss_cons (ps_set (i := 5) sc_spaper.nd rfl (Or.inl rfl) (pe_callB (call_max2 rfl) (by rfl) T.n_max (by decide +kernel) (pa_cons pe_int (pa_cons (pe_op op_add (pv 4) (pcal C_pick hr (by decide) rfl (pa_cons (pv 0) (pa_cons (pe_lst (pa_cons pe_int (pa_cons pe_int (pa_cons (pe_un un_neg pe_int) (pa_cons (pe_un un_neg pe_int) (pa_cons pe_int (pa_cons pe_int pa_nil))))))) pa_nil)))) pa_nil))))
      (pss_one (ps_ret (pe_tup (pa_cons (pv 5) (pa_cons (pv 3) (pa_cons (pe_op op_fdivW (pv 3) pe_int) (pa_cons (pv 2) pa_nil))))))))))), ?_⟩
    refine ⟨_, rfl, 1, rfl, 3, rfl, _, rfl, h, l, 30, rfl, HH, by decide, by decide, fun H1 r1 b1 hh1 _ _ => ?_⟩
    refine ⟨_, rfl, h, l, 60, rfl, hh1, by decide, by decide, fun H2 r2 b2 hh2 _ _ => ⟨r2, rfl, 10, 18, rfl, rfl, ⟨by decide, by decide, by decide⟩, _, rfl, ?_⟩⟩
    refine ⟨small (by show 7 ≤ 100000; decide), fun t ht => ?_⟩
    refine ⟨h, l, t, _, rfl, hh2.upd ht, upd_same, hh2.nn ht, by simp, by simp, fun H3 x b3 hh3 hx => ?_⟩
    have bb : Bt h H H3 := ((b1.trans b2).trans (Bt.of (same_upd ht))).trans b3
    obtain ⟨c, rfl⟩ : ∃ c, x = V.int c := by
      simp only [List.mem_cons, List.not_mem_nil, or_false] at hx
      rcases hx with rfl | rfl | rfl | rfl | rfl | rfl | rfl <;> exact ⟨_, rfl⟩
    refine ⟨_, rfl, h, l, 64, rfl, hh3, by decide, by decide, fun H4 r4 b4 hh4 r40 r41 => ⟨_, _, rfl, rfl, ?_⟩⟩
    refine ⟨_, rfl, n, rfl, n1, n64, fun H5 s5 => ⟨_, _, rfl, rfl, .inl ⟨by decide, by decide⟩, _, _, rfl, rfl, _, rfl, _, _, rfl, rfl, .inl ⟨by decide, by decide⟩, _, _, rfl, rfl, _, rfl, _, _, rfl, rfl, _, rfl, _, _, rfl, rfl, wide_div (by decide) (b := 30) (by decide) (by decide) (by decide), _, _, rfl, rfl, ?_⟩⟩
    refine ⟨_, rfl, _, rfl, 1, rfl, 5, rfl, small (by show 6 ≤ 100000; decide), fun t2 h2 => ?_⟩
    have hh5 := hh4.same s5
    refine ⟨h, l, t2, _, rfl, hh5.upd h2, upd_same, hh5.nn h2, by simp, by simp, fun H6 y b6 hh6 hy => ?_⟩
    have bb6 : Bt h H H6 := ((bb.trans b4).trans ((Bt.of s5).trans (Bt.of (same_upd h2)))).trans b6
    obtain ⟨d, rfl⟩ : ∃ c, y = V.int c := by
      simp only [List.mem_cons, List.not_mem_nil, or_false] at hy
      rcases hy with rfl | rfl | rfl | rfl | rfl | rfl <;> exact ⟨_, rfl⟩
    refine ⟨_, _, rfl, rfl, _, _, rfl, ?_⟩
    refine ⟨_, rfl, _, rfl, _, rfl, _, _, rfl, rfl, wide_div (by decide) (b := 30) (by decide) (by decide) (by decide), _, rfl, small (by show 4 ≤ 100000; decide), fun t3 h3 => ?_⟩
    exact k _ t3 _ _ _ _ (bb6.new h3) (hh6.upd h3) upd_same

end
end W2
namespace W2
open PySem PySem.Spec PyProof.Rows L2
section
variable {P : Program} {w : World} {K : PySem.W.Frag} {mg : Str → Option Value} {base : Heap} {f_init : Addr} {C : Addr}
theorem ok_bent (D : Def K mg "_law_bent" s_bent ["hand", "paper", "strange"]) (T : Txt K mg) (C_take : Cal P w K mg base 1 "_law_draw" ["hand", "many"] spTake) (C_deep : Cal P w K mg base 1 "_law_deep" ["kind"] spDeep) (C_pick : Cal P w K mg base 2 "_law_some" ["hand", "things"] spPick) : Cal P w K mg base 3 "_law_bent" ["hand", "paper", "strange"] (spBent C) := by
  refine D.cal sc_bent (fun vs H Q E h => ?_) (fun f cdv A outer s H vs Q E hr h => ?_)
  · obtain ⟨h, l, p, f, m, l', c, x, rfl, _⟩ := h
    rfl
  · obtain ⟨h, l, p, fi, m, l', c, x, rfl, HH, hP, tx, k⟩ := h
    refine ⟨_, (pss_cons (ps_set (i := 3) sc_bent.nd rfl (Or.inl rfl) (pcal C_take hr (by decide) rfl (pa_cons (pv 0) (pa_cons pe_int pa_nil))))
      (pss_cons (ps_set (i := 4) sc_bent.nd rfl (Or.inl rfl) (pe_lst (pa_cons (pe_op op_add (pe_ix (ix_tupK (K := K) rfl) (pv 1) (pv 3) (fun _ _ => rfl)) pe_int) (pa_cons (pe_op op_sub (pe_ix (ix_tupK (K := K) rfl) (pv 1) (pv 3) (fun _ _ => rfl)) pe_int) (pa_cons (pe_un un_neg pe_int) (pa_cons pe_int (pa_cons pe_bl (pa_cons pe_bl (pa_cons pe_non (pa_cons pe_str (pa_cons (pe_tup (pa_cons pe_int pa_nil)) (pa_cons (pe_lst (pa_cons pe_int pa_nil)) (pa_cons (pe_dnewK) (pa_cons (pcal C_deep hr (by decide) rfl (pa_cons pe_int pa_nil)) (pa_cons (pcal C_deep hr (by decide) rfl (pa_cons pe_int pa_nil)) pa_nil)))))))))))))))
      (pss_cons (ps_expr (pe_bm PySem.F.plainAttrs_list PySem.F.slot_list_append PySem.F.type_list_append mt_append (pv 4) (pa_cons (pv 2) pa_nil)))
      (pss_cons (ps_set (i := 5) sc_bent.nd rfl (Or.inl rfl) (pe_op op_catA (pe_op op_catA (pe_slice sl_tup (pv 1) po_none (po_some (pv 3))) (pe_tup (pa_cons (pcal C_pick hr (by decide) rfl (pa_cons (pv 0) (pa_cons (pv 4) pa_nil))) pa_nil))) (pe_slice sl_tup (pv 1) (po_some (pe_op op_add (pv 3) pe_int)) po_none)))
      (pss_cons (ps_set (i := 6) sc_bent.nd rfl (Or.inl rfl) (pe_op op_cat (pe_op op_rep (pe_lst (pa_cons (pv 5) pa_nil)) pe_int) (pe_lst (pa_cons (pe_callTy call_list_of (by rfl) T.n_list (by decide +kernel) (pa_cons (pv 1) pa_nil)) (pa_cons (pe_slice sl_tup (pv 1) po_none (po_some pe_int)) (pa_cons (pe_op op_catA (pv 1) (pe_tup (pa_cons pe_int pa_nil))) (pa_cons pe_non (pa_cons pe_int (pa_cons (pe_tup pa_nil) (pa_cons (pe_dnewK) (pa_cons pe_str (pa_cons (pcal C_deep hr (by decide) rfl (pa_cons pe_int pa_nil)) pa_nil))))))))))))
      (pss_one (ps_ret (pcal C_pick hr (by decide) rfl (pa_cons (pv 0) (pa_cons (pe_op op_cat (pv 6) (pe_lst (pa_cons (pv 2) pa_nil))) pa_nil)))))))))), ?_⟩
    obtain ⟨lh, eh⟩ := HH.lst
    have nph : p ≠ h := ne_of hP eh (fun z => nomatch z)
    refine ⟨_, rfl, h, l, 4, rfl, HH, by decide, by decide, fun H1 r b1 hh1 r0 r1 => ?_⟩
    obtain ⟨at_, rfl⟩ : ∃ n : Nat, r = (n : Int) := ⟨r.toNat, by omega⟩
    have hat : at_ < 4 := by omega
    have hP1 := b1 _ _ nph hP
    obtain ⟨lh1, eh1⟩ := hh1.lst
    obtain ⟨z, hz⟩ : ∃ z : Int, (quad fi m l' c)[at_]? = some (V.int z) := by
      match at_, hat with
      | 0, _ => exact ⟨_, rfl⟩
      | 1, _ => exact ⟨_, rfl⟩
      | 2, _ => exact ⟨_, rfl⟩
      | 3, _ => exact ⟨_, rfl⟩
    -- odd
    refine ⟨_, rfl, _, rfl, p, _, _, _, rfl, rfl, SqT.of hP1, atI_nat hz, _, _, rfl, rfl, _, rfl, _, rfl, p, _, _, _, rfl, rfl, SqT.of hP1, atI_nat hz, _, _, rfl, rfl, 1, rfl, ?_⟩
    refine ⟨small (by show 1 ≤ 100000; decide), fun t1 h1 => ?_⟩
    have s2 := same_upd (o := .tup [V.int 1]) h1
    have e1 : (L2.upd H1 t1 (.tup [V.int 1])) t1 = some (.tup [V.int 1]) := upd_same
    generalize L2.upd H1 t1 (.tup [V.int 1]) = H2 at s2 e1
    refine ⟨small (by show 1 ≤ 100000; decide), fun t2 h2 => ?_⟩
    have s3 := same_upd (o := .lst [V.int 1]) h2
    have e2 : (L2.upd H2 t2 (.lst [V.int 1])) t2 = some (.lst [V.int 1]) := upd_same
    have n2 : t2 ≠ h := (ne_of_none (s2 _ _ eh1) h2).symm
    generalize L2.upd H2 t2 (.lst [V.int 1]) = H3 at s3 e2
    refine fun t3 h3 => ?_
    have s4 := same_upd (o := .dK []) h3
    have e3 : (L2.upd H3 t3 (.dK [])) t3 = some (.dK []) := upd_same
    have n3 : t3 ≠ h := (ne_of_none ((s2.trans s3) _ _ eh1) h3).symm
    generalize L2.upd H3 t3 (.dK []) = H4 at s4 e3
    have s14 := s2.trans (s3.trans s4)
    refine ⟨0, rfl, fun H5 d1 s5 td1 => ⟨1, rfl, fun H6 d2 s6 td2 => ⟨small (by show 13 ≤ 100000; decide), fun t ht => ?_⟩⟩⟩
    have s16 := (s14.trans s5).trans s6
    have T1 : Thing C h H5 d1 := td1 C h _ (s14 _ _ eh1)
    have T2 : Thing C h H6 d2 := td2 C h _ ((s14.trans s5) _ _ eh1)
    have nth : t ≠ h := (ne_of_none (s16 _ _ eh1) ht).symm
    -- odd.append(strange)
    refine ⟨_, rfl, .inl ⟨rfl, _, SqL.of upd_same⟩, _, rfl, t, _, _, rfl, rfl, upd_same, smalls (by show 13 < 100000; decide), ?_⟩
    generalize hod : ([V.int (z + 1), V.int (z - 1), V.int (-1), V.int 0, V.bl true, V.bl false, V.non, V.str "1", V.ref t1, V.ref t2, V.ref t3, d1, d2] ++ [x]) = od
    generalize hH7 : L2.upd (L2.upd H6 t _) t _ = H7
    have e7 : H7 t = some (.lst od) := by rw [← hH7, ← hod]; exact upd_same
    have s7 : L2.Same H6 H7 := by rw [← hH7]; exact Same.upd (same_upd ht) ht
    have s17 := s16.trans s7
    have hh7 := hh1.same s17
    have Aod : ∀ y ∈ od, Any C h H7 y := by
      intro y hy
      rw [← hod] at hy
      simp only [List.mem_append, List.mem_cons, List.not_mem_nil, or_false] at hy
      rcases hy with (rfl | rfl | rfl | rfl | rfl | rfl | rfl | rfl | rfl | rfl | rfl | rfl | rfl) | rfl
      · exact .int _
      · exact .int _
      · exact .int _
      · exact .int _
      · exact .bl _
      · exact .bl _
      · exact .non
      · exact .str _
      · exact .tup ((s3.trans (s4.trans (s5.trans (s6.trans s7)))) _ _ e1)
      · exact .lst n2 ((s4.trans (s5.trans (s6.trans s7))) _ _ e2)
      · exact .dic n3 ((s5.trans (s6.trans s7)) _ _ e3)
      · exact (T1.same (s6.trans s7)).any
      · exact (T2.same s7).any
      · exact ((tx.go HH b1).same s17).any
    have lod : od.length = 14 := by rw [← hod]; rfl
    have hP7 := s17 _ _ hP1
    have b17 : Bt h H H7 := b1.trans (Bt.of s17)
    obtain ⟨lh7, eh7⟩ := hh7.lst
    clear hH7 hod
    -- bent
    refine ⟨_, rfl, _, rfl, ?_⟩
    unfold tNoPart
    refine ⟨at_, rfl, ?_⟩
    show rSlT K (V.ref p) none (some (at_ : Int)) H7 _
    refine slT_of hP7 (six_to 4 at_ hat) fun t0 h0 => ?_
    have s8 := same_upd (o := .tup (cutV (quad fi m l' c) none (some (at_ : Int)))) h0
    have e0 : (L2.upd H7 t0 (.tup (cutV (quad fi m l' c) none (some (at_ : Int))))) t0 = some (.tup ((quad fi m l' c).take at_)) := by
      rw [upd_same, cut_to _ _ (by show at_ ≤ 4; omega)]
    generalize L2.upd H7 t0 (.tup (cutV (quad fi m l' c) none (some (at_ : Int)))) = H8 at s8 e0
    have hh8 := hh7.same s8
    have n0h : t0 ≠ h := ne_of e0 (s8 _ _ eh7) (fun z => nomatch z)
    refine ⟨_, rfl, _, rfl, h, l, t, od, rfl, hh8, s8 _ _ e7, nth, by omega, by omega, fun H9 y b9 hh9 hy => ?_⟩
    have Ay : Any C h H9 y := ((Aod y hy).same s8).bt (s8 _ _ eh7) b9
    refine ⟨small (by show 1 ≤ 100000; decide), fun t12 h12 => ?_⟩
    have s12 := same_upd (o := .tup [y]) h12
    refine catA_of (s12 _ _ (b9 _ _ n0h e0)) upd_same (by rw [List.length_take]; show min _ 4 + 1 ≤ 100000; omega) fun t13 H13 s13 e13 => ?_
    have z13 := s12.trans s13
    refine ⟨_, rfl, _, rfl, _, _, rfl, rfl, _, rfl, ?_⟩
    have hP9 := b9 _ _ nph (s8 _ _ hP7)
    show rSlT K (V.ref p) (some ((at_ : Int) + 1)) none H13 _
    refine slT_of (z13 _ _ hP9) (six_from 4 at_ hat) fun t14 h14 => ?_
    have s14' := same_upd (o := .tup (cutV (quad fi m l' c) (some ((at_ : Int) + 1)) none)) h14
    have e14 : (L2.upd H13 t14 (.tup (cutV (quad fi m l' c) (some ((at_ : Int) + 1)) none))) t14 = some (.tup ((quad fi m l' c).drop (at_ + 1))) := by
      rw [upd_same, show cutV (quad fi m l' c) (some ((at_ : Int) + 1)) none = (quad fi m l' c).drop (at_ + 1) from cut_from _ (at_ + 1) (by show at_ + 1 ≤ 4; omega)]
    generalize L2.upd H13 t14 (.tup (cutV (quad fi m l' c) (some ((at_ : Int) + 1)) none)) = H14 at s14' e14
    refine catA_of (s14' _ _ e13) e14 (by rw [List.length_append, List.length_take, List.length_drop]; show min _ 4 + 1 + (4 - _) ≤ 100000; omega) fun t15 H15 s15 e15 => ?_
    have z15 := z13.trans (s14'.trans s15)
    have hh15 := hh9.same z15
    have b15 : Bt h H H15 := (b17.trans (Bt.of s8)).trans (b9.trans (Bt.of z15))
    have TB : Thing C h H15 (.ref t15) := by
      refine .tup e15 fun v hv => ?_
      rcases List.mem_append.mp hv with hv | hv
      · rcases List.mem_append.mp hv with hv | hv
        · have hv2 := List.mem_of_mem_take hv
          simp only [quad, List.mem_cons, List.not_mem_nil, or_false] at hv2
          rcases hv2 with rfl | rfl | rfl | rfl <;> exact .int _
        · have ev : v = y := by simpa using hv
          rw [ev]
          exact Ay.same z15
      · have hv2 := List.mem_of_mem_drop hv
        simp only [quad, List.mem_cons, List.not_mem_nil, or_false] at hv2
        rcases hv2 with rfl | rfl | rfl | rfl <;> exact .int _
    have hP15 := z15 _ _ hP9
    have X15 : Thing C h H15 x := tx.go HH b15
    clear e15 e14 e13 e0
    -- things
    obtain ⟨lh15, eh15⟩ := hh15.lst
    refine ⟨_, rfl, small (by show 1 ≤ 100000; decide), fun w1 g1 => ⟨w1, 8, [V.ref t15], rfl, rfl, upd_same, by decide, by decide, small (by show 8 ≤ 100000; decide), fun w2 g2 => ?_⟩⟩
    have u2 : L2.Same H15 (L2.upd (L2.upd H15 w1 (.lst [V.ref t15])) w2 (.lst (List.replicate (Int.toNat 8) [V.ref t15]).flatten)) := (same_upd g1).trans (same_upd g2)
    have ew2 : (L2.upd (L2.upd H15 w1 (.lst [V.ref t15])) w2 (.lst (List.replicate (Int.toNat 8) [V.ref t15]).flatten)) w2 = some (.lst (List.replicate (Int.toNat 8) [V.ref t15]).flatten) := upd_same
    generalize L2.upd (L2.upd H15 w1 (.lst [V.ref t15])) w2 (.lst (List.replicate (Int.toNat 8) [V.ref t15]).flatten) = H16 at u2 ew2
    -- list(paper)
    refine ⟨_, rfl, p, _, rfl, .inr (SqT.of (u2 _ _ hP15)), fun w3 g3 => ?_⟩
    have u3 := same_upd (o := .lst (quad fi m l' c)) g3
    have ew3 : (L2.upd H16 w3 (.lst (quad fi m l' c))) w3 = some (.lst (quad fi m l' c)) := upd_same
    have nw3 : w3 ≠ h := (ne_of_none (u2 _ _ eh15) g3).symm
    generalize L2.upd H16 w3 (.lst (quad fi m l' c)) = H17 at u3 ew3
    -- paper[:3]
    refine ⟨_, rfl, 3, rfl, ?_⟩
    show rSlT K (V.ref p) none (some (3 : Int)) H17 _
    refine slT_of ((u2.trans u3) _ _ hP15) (six_to 4 3 (by decide)) fun w4 g4 => ?_
    have u4 := same_upd (o := .tup (cutV (quad fi m l' c) none (some (3 : Int)))) g4
    have ew4 : (L2.upd H17 w4 (.tup (cutV (quad fi m l' c) none (some (3 : Int))))) w4 = some (.tup ((quad fi m l' c).take 3)) := by
      rw [upd_same, show cutV (quad fi m l' c) none (some (3 : Int)) = (quad fi m l' c).take 3 from cut_to _ 3 (by show 3 ≤ 4; decide)]
    generalize L2.upd H17 w4 (.tup (cutV (quad fi m l' c) none (some (3 : Int)))) = H18 at u4 ew4
    -- paper + (0,)
    refine ⟨_, rfl, t1_ok fun H19 w5 u5 ew5 => catA_of ((u2.trans (u3.trans (u4.trans u5))) _ _ hP15) ew5 (by show 4 + 1 ≤ 100000; decide) fun w6 H20 u6 ew6 => ?_⟩
    refine ⟨small (by show 0 ≤ 100000; decide), fun w7 g7 => ?_⟩
    have u7 := same_upd (o := .tup []) g7
    have ew7 : (L2.upd H20 w7 (.tup [])) w7 = some (.tup []) := upd_same
    generalize L2.upd H20 w7 (.tup []) = H21 at u7 ew7
    refine fun w8 g8 => ?_
    have u8 := same_upd (o := .dK []) g8
    have ew8 : (L2.upd H21 w8 (.dK [])) w8 = some (.dK []) := upd_same
    have u21 := u2.trans (u3.trans (u4.trans (u5.trans (u6.trans u7))))
    have nw8 : w8 ≠ h := (ne_of_none (u21 _ _ eh15) g8).symm
    generalize L2.upd H21 w8 (.dK []) = H22 at u8 ew8
    refine ⟨1, rfl, fun H23 d3 u9 td3 => ⟨small (by show 9 ≤ 100000; decide), fun w9 g9 => ?_⟩⟩
    have T3 : Thing C h H23 d3 := td3 C h _ ((u21.trans u8) _ _ eh15)
    have u10 := same_upd (o := .lst [V.ref w3, V.ref w4, V.ref w6, V.non, V.int 0, V.ref w7, V.ref w8, V.str "paper", d3]) g9
    have ew9 : (L2.upd H23 w9 (.lst [V.ref w3, V.ref w4, V.ref w6, V.non, V.int 0, V.ref w7, V.ref w8, V.str "paper", d3])) w9 = some (.lst [V.ref w3, V.ref w4, V.ref w6, V.non, V.int 0, V.ref w7, V.ref w8, V.str "paper", d3]) := upd_same
    generalize L2.upd H23 w9 (.lst [V.ref w3, V.ref w4, V.ref w6, V.non, V.int 0, V.ref w7, V.ref w8, V.str "paper", d3]) = H24 at u10 ew9
    have v3 := u4.trans (u5.trans (u6.trans (u7.trans (u8.trans (u9.trans u10)))))
    have v2 := u3.trans v3
    refine ⟨w2, w9, _, _, rfl, rfl, v2 _ _ ew2, ew9, small (by show 8 + 9 ≤ 100000; decide), fun wa ga => ?_⟩
    have ua := same_upd (o := .lst ((List.replicate (Int.toNat 8) [V.ref t15]).flatten ++ [V.ref w3, V.ref w4, V.ref w6, V.non, V.int 0, V.ref w7, V.ref w8, V.str "paper", d3])) ga
    have ewa : (L2.upd H24 wa (.lst ((List.replicate (Int.toNat 8) [V.ref t15]).flatten ++ [V.ref w3, V.ref w4, V.ref w6, V.non, V.int 0, V.ref w7, V.ref w8, V.str "paper", d3]))) wa = some (.lst ((List.replicate (Int.toNat 8) [V.ref t15]).flatten ++ [V.ref w3, V.ref w4, V.ref w6, V.non, V.int 0, V.ref w7, V.ref w8, V.str "paper", d3])) := upd_same
    generalize L2.upd H24 wa (.lst ((List.replicate (Int.toNat 8) [V.ref t15]).flatten ++ [V.ref w3, V.ref w4, V.ref w6, V.non, V.int 0, V.ref w7, V.ref w8, V.str "paper", d3])) = H25 at ua ewa
    have u25 := u2.trans (v2.trans ua)
    have hh25 := hh15.same u25
    -- things + [strange]
    refine ⟨_, rfl, _, rfl, _, rfl, small (by show 1 ≤ 100000; decide), fun wb gb => ⟨wa, wb, _, _, rfl, rfl, (same_upd gb) _ _ ewa, upd_same, small (by show 17 + 1 ≤ 100000; decide), fun wc gc => ?_⟩⟩
    have uc := (same_upd (o := .lst [x]) gb).trans (same_upd (o := .lst ((List.replicate (Int.toNat 8) [V.ref t15]).flatten ++ [V.ref w3, V.ref w4, V.ref w6, V.non, V.int 0, V.ref w7, V.ref w8, V.str "paper", d3] ++ [x])) gc)
    have hhc := hh25.same uc
    have nwc : wc ≠ h := (hh25.same (same_upd (o := .lst [x]) gb)).nn gc
    refine ⟨h, l, wc, _, rfl, hhc, upd_same, nwc, by simp, by simp, fun H26 y26 b26 hh26 hy26 => ?_⟩
    have bc : Bt h H _ := (b15.trans (Bt.of (u25.trans uc))).trans b26
    refine k _ _ bc hh26 ?_
    refine Thing.go (l := l) ?_ hhc b26
    have q4 := u5.trans (u6.trans (u7.trans (u8.trans (u9.trans u10))))
    have q6 := u7.trans (u8.trans (u9.trans u10))
    simp only [List.mem_append, List.mem_flatten, List.mem_replicate, List.mem_cons, List.not_mem_nil, or_false] at hy26
    rcases hy26 with (hy26 | rfl | rfl | rfl | rfl | rfl | rfl | rfl | rfl | rfl) | rfl
    · obtain ⟨L, ⟨_, rfl⟩, hL⟩ := hy26
      have ey : y26 = V.ref t15 := by simpa using hL
      rw [ey]
      exact TB.same (u25.trans uc)
    · exact .lst nw3 ((v3.trans (ua.trans uc)) _ _ ew3)
    · refine .tup ((q4.trans (ua.trans uc)) _ _ ew4) fun v hv => ?_
      have hv2 := List.mem_of_mem_take hv
      simp only [quad, List.mem_cons, List.not_mem_nil, or_false] at hv2
      rcases hv2 with rfl | rfl | rfl | rfl <;> exact .int _
    · refine .tup ((q6.trans (ua.trans uc)) _ _ ew6) fun v hv => ?_
      rcases List.mem_append.mp hv with hv2 | hv2
      · simp only [quad, List.mem_cons, List.not_mem_nil, or_false] at hv2
        rcases hv2 with rfl | rfl | rfl | rfl <;> exact .int _
      · have ev : v = V.int 0 := by simpa using hv2
        rw [ev]
        exact .int _
    · exact .flat .non (fun b z => nomatch z)
    · exact .flat (.int _) (fun b z => nomatch z)
    · exact .tup ((u8.trans (u9.trans (u10.trans (ua.trans uc)))) _ _ ew7) (fun y hy => nomatch hy)
    · exact .dic nw8 ((u9.trans (u10.trans (ua.trans uc))) _ _ ew8)
    · exact .flat (.str _) (fun b z => nomatch z)
    · exact T3.same (u10.trans (ua.trans uc))
    · exact X15.same (u25.trans uc)

end
end W2
namespace W2
open PySem PySem.Spec PyProof.Rows L2
section
variable {P : Program} {w : World} {K : PySem.W.Frag} {mg : Str → Option Value} {base : Heap} {f_init : Addr} {C : Addr}
theorem ok_arepar (D : Def K mg "_are_parents" s_arepar ["thing"]) (T : Txt K mg) (C_ismany : Cal P w K mg base 3 "is_many" ["thing"] (spIsMany C)) (C_ishouse : Cal P w K mg base 3 "is_house" ["many", "thing"] (spIsHouse C)) (C_come : Cal P w K mg base 1 "come_to_roots" ["parents"] spComeT) (FC : ForC K mg C f_init) : Cal P w K mg base 4 "_are_parents" ["thing"] spArePT := by
  refine D.cal sc_arepar (fun vs H Q E h => ?_) (fun f cdv A outer s H vs Q E hr h => ?_)
  · obtain ⟨a, ps, rfl, _⟩ := h
    rfl
  · obtain ⟨a, ps, rfl, hA, TR, h1, hz, k⟩ := h
    refine ⟨_, (pss_cons (ps_if (PW.pt (pw_or (pt_not (pt_val (pe_callB (call_isiK1 (K := K) rfl) (by rfl) T.n_isinstance (by decide +kernel) (pa_cons (pv 0) (pa_cons (pe_bltn (v := .ty "tuple") (by rfl) T.n_tuple (by decide +kernel) rfl) pa_nil))))) (pw_or1 (pt_not (pt_val (pcal C_ismany hr (by decide) rfl (pa_cons (pe_callB (call_lenK (K := K) rfl) (by rfl) T.n_len PySem.boot_len (pa_cons (pv 0) pa_nil)) pa_nil))))))) (pss_one (ps_ret pe_bl)) pss_nil)
      (pss_cons (ps_if (pt_not (pt_val (pe_callB (cr_all rfl) (by rfl) T.n_all (by decide +kernel) (pa_cons (pe_lc (own := [("parent", 1)]) (g := gName 1) (tt := tYes) (by rfl) sc_arepar.nd (pi_tup (pv 0)) (blkOk_by (own := [("parent", 1)]) (N := ["thing", "parent"]) (sc := defScope s_arepar) (by decide +kernel)) (fun _ _ _ _ _ => pg_name (i := 1) sc_arepar.nd rfl (Or.inl rfl)) (fun _ _ _ _ _ => pts_nil) (fun _ _ _ _ _ => (pe_or (pe_cmpR op_isN (pv 1) pe_non (nomark _)) (pe_one (pcal C_ishouse hr (by decide) rfl (pa_cons (pe_callB (call_lenK (K := K) rfl) (by rfl) T.n_len PySem.boot_len (pa_cons (pv 0) pa_nil)) (pa_cons (pv 1) pa_nil))))))) pa_nil)))) (pss_one (ps_ret pe_bl)) pss_nil)
      (pss_one (ps_ret (pcal C_come hr (by decide) rfl (pa_cons (pv 0) pa_nil)))))), ?_⟩
    have lz : (ps.map ov).length = ps.length := List.length_map _
    refine ⟨_, rfl, _, _, _, _, true, rfl, .ty _, .base (.tup hA), kit_ty (by decide +kernel), true, rfl, iteF ?_⟩
    refine ⟨_, rfl, a, _, rfl, .inr (SqT.of hA), a, _, rfl, .int _, fun H0 s0 => ⟨true, by rw [show wiV 1 64 (.int ((ps.map ov).length : Int)) = true from wiT (by omega) (by omega)], iteF ?_⟩⟩
    refine ⟨_, rfl, a, rfl, ⟨_, SqT.of (s0 _ _ hA)⟩, fun D hD => ?_⟩
    refine lc_tup (xs := ps.map ov) (fun i H' => L2.Same H H' ∧ H' D = some (.lst ((List.replicate i true).map V.bl))) ⟨s0.trans (same_upd hD), by rw [upd_same]; rfl⟩ (fun i H' _ p => SqT.of (p.1 _ _ hA)) ?_ ?_
    · rintro i x H' hx ⟨sm, hd⟩
      rw [List.getElem?_map] at hx
      cases ho : ps[i]? with
      | none => rw [ho] at hx; cases hx
      | some o =>
        rw [ho] at hx
        have ex : x = ov o := (Option.some.inj hx).symm
        subst ex
        have hi := (List.getElem?_eq_some_iff.mp ho).1
        have hD0 : H D = none := s0.free hD
        have fin : ∀ H2, L2.Same H' H2 → ∃ acc, H2 D = some (.lst acc) ∧ acc.length < sizeLine ∧ L2.Same H (L2.upd H2 D (.lst (acc ++ [V.bl true]))) ∧ (L2.upd H2 D (.lst (acc ++ [V.bl true]))) D = some (.lst ((List.replicate (i + 1) true).map V.bl)) := fun H2 s2 =>
          ⟨_, s2 _ _ hd, by rw [List.length_map, List.length_replicate]; exact smalls (by omega), Same.upd (sm.trans s2) hD0, by rw [upd_same, List.replicate_succ', List.map_append]; rfl⟩
        refine ⟨rfl, _, rfl, rfl, _, rfl, ?_⟩
        cases o with
        | none => exact iteT (fin _ (L2.Same.refl _))
        | some p =>
          have hp := (TR i hi).1.par_lt ho
          refine iteF ⟨_, rfl, a, _, rfl, .inr (SqT.of (sm _ _ hA)), _, rfl, a, _, _, rfl, .int _, fun H2 s2 => ?_⟩
          rw [show wiV 0 (((ps.map ov).length : Int) - 1) (ov (some p)) = true from wiT (by omega) (by omega)]
          exact fin _ s2
    rintro H1 ⟨s1, hd1⟩
    refine ⟨D, _, rfl, SqL.of hd1, true, ?_, iteF ?_⟩
    · simp
    · exact ⟨_, rfl, a, ps, rfl, s1 _ _ hA, TR, hz, fun H2 s2 => k _ (s1.trans s2)⟩

end
end W2
namespace W2
open PySem PySem.Spec PyProof.Rows L2
section
variable {P : Program} {w : World} {K : PySem.W.Frag} {mg : Str → Option Value} {base : Heap} {f_init : Addr} {C : Addr}
theorem ok_ispaper (D : Def K mg "is_paper" s_ispaper ["many", "thing"]) (T : Txt K mg) (C_ismany : Cal P w K mg base 3 "is_many" ["thing"] (spIsMany C)) (C_isnum : Cal P w K mg base 2 "is_number" ["thing"] (spIsNum C)) (C_isint : Cal P w K mg base 1 "is_integer" ["thing"] (spIsInt C)) (C_mostfor : Cal P w K mg base 3 "most_for_reaching" ["many"] spMost) (FC : ForC K mg C f_init) : Cal P w K mg base 4 "is_paper" ["many", "thing"] (spPaper C) := by
  refine D.cal sc_ispaper (fun vs H Q E h => ?_) (fun f cdv A outer s H vs Q E hr h => ?_)
  · obtain ⟨h, n, x, rfl, _⟩ := h
    rfl
  · obtain ⟨h, n, x, rfl, th, n1, n64, kY, kN⟩ := h
    refine ⟨_, (pss_cons (ps_if (pt_not (pt_val (pcal C_ismany hr (by decide) rfl (pa_cons (pv 0) pa_nil)))) pss_never pss_nil)
      (pss_cons (ps_if (PW.pt (pw_or (pt_not (pt_val (pe_callB (call_isiK1 (K := K) rfl) (by rfl) T.n_isinstance (by decide +kernel) (pa_cons (pv 1) (pa_cons (pe_bltn (v := .ty "tuple") (by rfl) T.n_tuple (by decide +kernel) rfl) pa_nil))))) (pw_or1 (pt_cmpR op_ne (pe_callB (call_lenK (K := K) rfl) (by rfl) T.n_len PySem.boot_len (pa_cons (pv 1) pa_nil)) pe_int (nomark _))))) (pss_one (ps_ret pe_bl)) pss_nil)
      (pss_cons (ps_asg (pv 1) (pg_tup rfl (pgs_cons (pg_name (i := 2) sc_ispaper.nd rfl (Or.inl rfl)) (pgs_cons (pg_name (i := 3) sc_ispaper.nd rfl (Or.inl rfl)) (pgs_cons (pg_name (i := 4) sc_ispaper.nd rfl (Or.inl rfl)) (pgs_cons (pg_name (i := 5) sc_ispaper.nd rfl (Or.inl rfl)) pgs_nil))))))
      (pss_cons (ps_if (pt_not (pt_val (pe_callB (cr_all rfl) (by rfl) T.n_all (by decide +kernel) (pa_cons (pe_lst (pa_cons (pcal C_isnum hr (by decide) rfl (pa_cons (pv 2) pa_nil)) (pa_cons (pcal C_isnum hr (by decide) rfl (pa_cons (pv 3) pa_nil)) (pa_cons (pcal C_isnum hr (by decide) rfl (pa_cons (pv 4) pa_nil)) (pa_cons (pcal C_isint hr (by decide) rfl (pa_cons (pv 5) pa_nil)) pa_nil))))) pa_nil)))) (pss_one (ps_ret pe_bl)) pss_nil)
      (pss_one (ps_ret (pe_and (pe_cmpR op_ge (pv 3) pe_int (nomark _)) (pe_and (pe_cmpR op_eq (pv 4) (pe_op op_fdivW (pv 3) pe_int) (nomark _)) (pe_one (pe_cmpR op_le (pe_op op_add (pe_op op_add (pe_op op_add (pv 2) (pv 3)) (pv 4)) (pe_op op_mul pe_int (pv 5))) (pcal C_mostfor hr (by decide) rfl (pa_cons (pv 0) pa_nil)) (nomark _))))))))))), ?_⟩
    refine ⟨_, rfl, h, _, rfl, .int _, fun H1 s1 => ⟨true, by rw [wi64 n1 n64], iteF ?_⟩⟩
    have th1 := th.same s1
    obtain ⟨t, b, ty, kt, hb1, hb0⟩ := any_tup FC.own th1.any
    refine ⟨_, rfl, _, _, _, _, b, rfl, .ty _, ty, kt, b, rfl, ?_⟩
    cases b with
    | false => exact iteT (iteT (kN (fun ⟨a, f, m, l, c, e, e2⟩ => hb0 rfl a _ e (s1 _ _ e2)) _ s1))
    | true =>
      obtain ⟨a, xs, rfl, hA1⟩ := hb1 rfl
      have hA : H a = some (.tup xs) := th.any.tup_back (fun c o _ q => s1 c o q) (fun ys q => s1 _ _ q) hA1
      refine iteF ⟨_, rfl, a, _, rfl, .inr (SqT.of hA1), rfl, _, rfl, iteB (fun e1 => ?_) (fun e1 => ?_)⟩
      · refine kN (fun ⟨a', f, m, l, c, e, e2⟩ => ?_) _ s1
        cases e
        rw [hA] at e2
        cases e2
        exact absurd e1 (by simp [quad])
      · have l4 : xs.length = 4 := by
          have e5 : decide (V.int ((xs.length : Nat) : Int) = V.int 4) = true := by simpa using e1
          have e6 := V.int.inj (of_decide_eq_true e5)
          omega
        obtain ⟨p, q, r, u, rfl⟩ := four l4
        have ap := th1.items a _ rfl hA1 p (by simp)
        have aq := th1.items a _ rfl hA1 q (by simp)
        have ar := th1.items a _ rfl hA1 r (by simp)
        have au := th1.items a _ rfl hA1 u (by simp)
        refine ⟨_, rfl, a, _, rfl, SqT.of hA1, rfl, _, _, rfl, _, _, rfl, _, _, rfl, _, _, rfl, rfl, ?_⟩
        refine ⟨_, rfl, h, p, rfl, ap, fun H2 s2 => ⟨_, rfl, h, q, rfl, aq.same s2, fun H3 s3 => ⟨_, rfl, h, r, rfl, ar.same (s2.trans s3), fun H4 s4 => ⟨_, rfl, h, u, rfl, au.same ((s2.trans s3).trans s4), fun H5 s5 => ⟨small (by show 4 ≤ 100000; decide), fun tl htl => ⟨tl, [numV p, numV q, numV r, isI u], rfl, SqL.of upd_same, ?_⟩⟩⟩⟩⟩⟩
        have s0 : L2.Same H (L2.upd H5 tl (.lst [V.bl (numV p), V.bl (numV q), V.bl (numV r), V.bl (isI u)])) := s1.trans (s2.trans (s3.trans (s4.trans (s5.trans (same_upd htl)))))
        generalize L2.upd H5 tl (.lst [V.bl (numV p), V.bl (numV q), V.bl (numV r), V.bl (isI u)]) = H6 at s0
        by_cases hI : ∃ f m l c, p = .int f ∧ q = .int m ∧ r = .int l ∧ u = .int c
        · obtain ⟨fi, mi, li, ci, rfl, rfl, rfl, rfl⟩ := hI
          have kY' := kY a fi mi li ci rfl hA
          have eb : [numV (.int fi), numV (.int mi), numV (.int li), isI (.int ci)].all id = (decide (0 ≤ fi) && (decide (0 ≤ mi) && (decide (0 ≤ li) && true))) := by simp [numV, isI]
          rw [eb]
          refine ⟨_, rfl, iteB (fun e2 => ?_) (fun e2 => ?_)⟩
          · have r := kY' _ s0
            have e3 : pj n fi mi li ci = false := by
              simp only [Bool.not_eq_true', Bool.and_eq_false_iff, Bool.and_true, decide_eq_false_iff_not] at e2
              simp only [pj, Bool.and_eq_false_iff, decide_eq_false_iff_not]
              omega
            rw [e3] at r
            exact r
          · simp only [Bool.not_eq_false', Bool.and_eq_true, decide_eq_true_iff] at e2
            refine ⟨_, rfl, _, _, rfl, rfl, _, rfl, iteB (fun e3 => ?_) (fun e3 => ?_)⟩
            · have e3 := of_decide_eq_true e3
              refine ⟨_, rfl, _, rfl, _, _, rfl, rfl, wide_div (by decide) (b := 30) (by decide) (by decide) (by decide), rfl, _, rfl, iteB (fun e4 => ?_) (fun e4 => ?_)⟩
              · have e4 := V.int.inj (of_decide_eq_true e4)
                refine ⟨_, rfl, _, rfl, _, _, rfl, rfl, _, rfl, _, _, rfl, rfl, _, rfl, _, _, rfl, rfl, .inl ⟨by decide, by decide⟩, _, _, rfl, rfl, _, rfl, n, rfl, n1, n64, fun H7 s7 => ⟨_, _, rfl, rfl, ?_⟩⟩
                have r := kY' _ (s0.trans s7)
                have e5 : pj n fi mi li ci = decide (fi + mi + li + 5 * ci ≤ 30 * lg n + 7) := by
                  rw [Bool.eq_iff_iff]
                  simp only [pj, Bool.and_eq_true, decide_eq_true_iff]
                  omega
                rw [e5] at r
                exact r
              · have e4 : ¬ li = mi / 2 := fun z => absurd (by rw [z]) (of_decide_eq_false e4)
                have r := kY' _ s0
                have e5 : pj n fi mi li ci = false := by
                  simp only [pj, Bool.and_eq_false_iff, decide_eq_false_iff_not]
                  omega
                rw [e5] at r
                exact r
            · have e3 := of_decide_eq_false e3
              have r := kY' _ s0
              have e5 : pj n fi mi li ci = false := by
                simp only [pj, Bool.and_eq_false_iff, decide_eq_false_iff_not]
                omega
              rw [e5] at r
              exact r
        · have eb : [numV p, numV q, numV r, isI u].all id = false := by
            cases e : [numV p, numV q, numV r, isI u].all id with
            | false => rfl
            | true =>
              exfalso
              simp only [List.all_cons, List.all_nil, id, Bool.and_eq_true] at e
              obtain ⟨e1, e2, e3, e4, _⟩ := e
              refine hI ?_
              cases p with
              | int f =>
                cases q with
                | int m =>
                  cases r with
                  | int l => obtain ⟨c, rfl⟩ := isI_of e4; exact ⟨f, m, l, c, rfl, rfl, rfl, rfl⟩
                  | _ => cases e3
                | _ => cases e2
              | _ => cases e1
          rw [eb]
          refine ⟨false, rfl, iteT (kN (fun ⟨a', f, m, l, c, e, e2⟩ => ?_) _ s0)⟩
          cases e
          rw [hA] at e2
          cases e2
          exact hI ⟨_, _, _, _, rfl, rfl, rfl, rfl⟩

end
end W2
namespace W2
open PySem PySem.Spec PyProof.Rows L2
section
variable {P : Program} {w : World} {K : PySem.W.Frag} {mg : Str → Option Value} {base : Heap} {f_init : Addr} {C : Addr}
theorem ok_init {fd : FuncData} (F : Fun K "__init__" "Forest.__init__" s_init f_init fd) (T : Txt K mg) (C_arepar : Cal P w K mg base 4 "_are_parents" ["thing"] spArePT) (C_arewor : Cal P w K mg base 2 "_are_worths" ["thing", "houses"] spAreWT) (FC : ForC K mg C f_init) : FnOk P w K mg base CX0 5 f_init fd ["self", "parents", "worths"] (spInitT C) := by
  refine F.ok sc_init (fun vs H Q E h => ?_) (fun cdv A outer s H vs Q E hr h => ?_)
  · obtain ⟨x, dx, a, b, ps, ws, rfl, _⟩ := h
    rfl
  · obtain ⟨x, dx, a, b, ps, ws, rfl, hx, ha, hb, TR, h1, hz, hw, k⟩ := h
    refine ⟨_, (pss_cons (ps_if (pt_not (pt_val (pcal C_arepar hr (by decide) rfl (pa_cons (pv 1) pa_nil)))) pss_never pss_nil)
      (pss_cons (ps_if (pt_not (pt_val (pcal C_arewor hr (by decide) rfl (pa_cons (pv 2) (pa_cons (pe_callB (call_lenK (K := K) rfl) (by rfl) T.n_len PySem.boot_len (pa_cons (pv 1) pa_nil)) pa_nil))))) pss_never pss_nil)
      (pss_cons (ps_fld (pv 0) (pv 1) rfl)
      (pss_one (ps_fld (pv 0) (pv 2) rfl))))), ?_⟩
    refine ⟨_, rfl, a, ps, rfl, ha, TR, h1, hz, fun H1 s1 => ⟨true, rfl, iteF ?_⟩⟩
    refine ⟨_, rfl, _, rfl, a, _, rfl, .inr (SqT.of (s1 _ _ ha)), b, ws, by rw [List.length_map, hw]; rfl, s1 _ _ hb, by omega, fun H2 s2 => ⟨true, rfl, iteF ?_⟩⟩
    have s := s1.trans s2
    refine ⟨_, rfl, _, rfl, x, C, dx, _, rfl, s _ _ hx, FC.own.cl, FC.nP, by decide, ?_⟩
    refine ⟨_, rfl, _, rfl, x, C, dx, _, rfl, upd_same, FC.own.cl, FC.nW, by show 1 < 1000; decide, ?_⟩
    exact k _ (fun c o n e => by rw [upd_ne n, upd_ne n]; exact s _ _ e) upd_same

end
end W2
namespace W2
open PySem PySem.Spec PyProof.Rows L2
section
variable {P : Program} {w : World} {K : PySem.W.Frag} {mg : Str → Option Value} {base : Heap} {f_init : Addr} {C : Addr}
theorem ok_law {f0 : Addr} {fd0 : FuncData} (F : Fun K "law" "law" s_law f0 fd0) (T : Txt K mg) (C_lhand : Cal P w K mg base 1 "_law_hand" ["script"] (spHand K)) (C_pick : Cal P w K mg base 2 "_law_some" ["hand", "things"] spPick) (C_take : Cal P w K mg base 1 "_law_draw" ["hand", "many"] spTake) (C_spaper : Cal P w K mg base 3 "_law_some_paper" ["hand", "many"] spSome) (C_flag : Cal P w K mg base 1 "_law_flag" ["told", "due"] spFlag) (C_ispaper : Cal P w K mg base 4 "is_paper" ["many", "thing"] (spPaper C)) (C_lpaper : Cal P w K mg base 2 "_law_is_paper" ["many", "thing"] (spPaper C)) (C_bent : Cal P w K mg base 3 "_law_bent" ["hand", "paper", "strange"] (spBent C)) (FC : ForC K mg C f_init) {fd_init : FuncData} (F_init : FnOk P w K mg base CX0 5 f_init fd_init ["self", "parents", "worths"] (spInitT C)) (B_init : Binds K fd_init ["self", "parents", "worths"] []) : FnOk P w K mg base CX0 12 f0 fd0 ["script"] (spLaw K) := by
  refine F.ok sc_law (fun vs H Q E h => ?_) (fun cdv A outer s H vs Q E hr h => ?_)
  · obtain ⟨a, ns, rfl, _⟩ := h
    rfl
  · obtain ⟨sa, ns, rfl, hS, hlen, k⟩ := h
    refine ⟨_, (pss_cons (ps_set (i := 1) sc_law.nd rfl (Or.inl rfl) (pcal C_lhand hr (by decide) rfl (pa_cons (pv 0) pa_nil)))
      (pss_cons (ps_for PassesOwn.never rfl (pi_range1 rfl T.n_range (pa_cons pe_int pa_nil)) (pg_name (i := 2) sc_law.nd rfl (Or.inl rfl)) (pss_cons (ps_set (i := 3) sc_law.nd rfl (Or.inl rfl) (pcal C_pick hr (by decide) rfl (pa_cons (pv 1) (pa_cons (pe_lst (pa_cons pe_int (pa_cons pe_int (pa_cons pe_int (pa_cons pe_int (pa_cons pe_int (pa_cons pe_int (pa_cons (pe_op op_add pe_int (pcal C_take hr (by decide) rfl (pa_cons (pv 1) (pa_cons pe_int pa_nil)))) pa_nil)))))))) pa_nil))))
      (pss_cons (ps_set (i := 4) sc_law.nd rfl (Or.inl rfl) (pcal C_spaper hr (by decide) rfl (pa_cons (pv 1) (pa_cons (pv 3) pa_nil))))
      (pss_cons (ps_if (pt_not (pt_val (pcal C_flag hr (by decide) rfl (pa_cons (pcal C_ispaper hr (by decide) rfl (pa_cons (pv 3) (pa_cons (pv 4) pa_nil))) (pa_cons (pcal C_lpaper hr (by decide) rfl (pa_cons (pv 3) (pa_cons (pv 4) pa_nil))) pa_nil))))) (pss_one (ps_ret pe_bl)) pss_nil)
      (pss_one (ps_for PassesOwn.never rfl (pi_range1 rfl T.n_range (pa_cons pe_int pa_nil)) (pg_name (i := 5) sc_law.nd rfl (Or.inl rfl)) (pss_cons (ps_set (i := 6) sc_law.nd rfl (Or.inl rfl) (pcal C_bent hr (by decide) rfl (pa_cons (pv 1) (pa_cons (pv 4) (pa_cons (pe_make FC.M F_init (hr.mono (by decide)) rfl FC.mgC B_init .nil pass0 (pa_cons (pe_tup (pa_cons pe_non pa_nil)) (pa_cons (pe_tup (pa_cons pe_int pa_nil)) pa_nil))) pa_nil)))))
      (pss_one (ps_if (pt_not (pt_val (pcal C_flag hr (by decide) rfl (pa_cons (pcal C_ispaper hr (by decide) rfl (pa_cons (pv 3) (pa_cons (pv 6) pa_nil))) (pa_cons (pcal C_lpaper hr (by decide) rfl (pa_cons (pv 3) (pa_cons (pv 6) pa_nil))) pa_nil))))) (pss_one (ps_ret pe_bl)) pss_nil)))))))))
      (pss_one (ps_ret pe_bl)))), ?_⟩
    refine ⟨_, rfl, sa, ns, rfl, hS, hlen, fun H1 h l s1 hh0 hand1 => ?_⟩
    refine ⟨_, rfl, by decide, by decide, ?_⟩
    refine for_range (lo := 0) (n := 8) (fun i σ H' => ∃ v2 v3 v4 v5 v6 : Option V, σ = [some (.ref sa), some (.ref h), v2, v3, v4, v5, v6] ∧ Hand H' h l) ⟨_, _, _, _, _, rfl, hand1⟩ ?_ ?_
    · rintro i σ H2 hi ⟨v2, v3, v4, v5, v6, rfl, hh2⟩
      refine ⟨_, rfl, _, rfl, h, l, 64, rfl, hh2, by decide, by decide, fun H3 r3 b3 hh3 r30 r31 => ⟨_, _, rfl, rfl, small (by show 7 ≤ 100000; decide), fun t ht => ?_⟩⟩
      refine ⟨h, l, t, _, rfl, hh3.upd ht, upd_same, hh3.nn ht, by simp, by simp, fun H4 x b4 hh4 hx => ?_⟩
      obtain ⟨n, rfl, n1, n64⟩ : ∃ n : Int, x = V.int n ∧ 1 ≤ n ∧ n ≤ 64 := by
        simp only [List.mem_cons, List.not_mem_nil, or_false] at hx
        rcases hx with rfl | rfl | rfl | rfl | rfl | rfl | rfl
        all_goals exact ⟨_, rfl, by omega, by omega⟩
      refine ⟨_, rfl, _, rfl, h, l, n, rfl, hh4, n1, n64, fun H5 p f m l' c b5 hh5 eP => ?_⟩
      have tp : Thing C h H5 (.ref p) := thing_quad eP
      -- the paper itself
      refine ⟨_, rfl, _, rfl, h, n, _, rfl, tp, n1, n64, ?_, fun no => absurd ⟨p, f, m, l', c, rfl, eP⟩ no⟩
      intro a f1 m1 l1 c1 e1 e2 H6 s6
      refine ⟨_, rfl, _, rfl, h, n, _, rfl, tp.same s6, n1, n64, ?_, fun no => absurd ⟨p, f, m, l', c, rfl, s6 _ _ eP⟩ no⟩
      intro a' f2 m2 l2 c2 e3 e4 H7 s7
      cases e1
      cases e3
      rw [s6 _ _ e2] at e4
      have e5 := HO.tup.inj (Option.some.inj e4)
      simp only [quad, List.cons.injEq, V.int.injEq, and_true] at e5
      obtain ⟨rfl, rfl, rfl, rfl⟩ := e5
      refine ⟨_, _, rfl, fun H8 s8 => ⟨true, by rw [decide_eq_true rfl], iteF ?_⟩⟩
      have hh8 := ((hh5.same s6).same s7).same s8
      have eP8 := s8 _ _ (s7 _ _ (s6 _ _ eP))
      refine ⟨_, rfl, by decide, by decide, ?_⟩
      refine for_range (lo := 0) (n := 4) (fun j σ H' => ∃ v5 v6 : Option V, σ = [some (.ref sa), some (.ref h), some (.int (0 + (i : Int))), some (.int n), some (.ref p), v5, v6] ∧ Hand H' h l ∧ H' p = some (.tup (quad f m l' c))) ⟨_, _, rfl, hh8, eP8⟩ ?_ ?_
      · rintro j σ H9 hj ⟨v5, v6, rfl, hh9, eP9⟩
        obtain ⟨lh9, eh9⟩ := hh9.lst
        have nph : p ≠ h := ne_of eP9 eh9 (fun z => nomatch z)
        refine ⟨_, rfl, _, rfl, small (by show 1 ≤ 100000; decide), fun y1 g1 => ⟨small (by show 1 ≤ 100000; decide), fun y2 g2 => fun x dx hx hdx ne => ?_⟩⟩
        have u1 := same_upd (o := .tup [V.non]) g1
        have u2 := same_upd (o := .tup [V.int 0]) g2
        have ey1 : (L2.upd (L2.upd H9 y1 (.tup [V.non])) y2 (.tup [V.int 0])) y1 = some (.tup [V.non]) := u2 _ _ upd_same
        have ey2 : (L2.upd (L2.upd H9 y1 (.tup [V.non])) y2 (.tup [V.int 0])) y2 = some (.tup [V.int 0]) := upd_same
        have u12 := u1.trans u2
        generalize L2.upd (L2.upd H9 y1 (.tup [V.non])) y2 (.tup [V.int 0]) = H10 at ey1 ey2 u12 hx hdx
        clear u1 u2
        have ud := same_upd (o := .own x) hdx
        have hx1 : (L2.upd H10 dx (.own x)) x = none := by rw [upd_ne ne.symm]; exact hx
        have ux := same_upd (o := .ins C dx []) hx1
        refine ⟨x, dx, y1, y2, [none], [0], rfl, upd_same, (ud.trans ux) _ _ ey1, (ud.trans ux) _ _ ey2, tree_one, by decide, by decide, rfl, fun H11 b11 e11 => ⟨rfl, ?_⟩⟩
        have s11 : L2.Same H9 H11 := fun b o e => b11 _ _ (ne_of_none (u12 _ _ e) hx) ((ud.trans ux) _ _ (u12 _ _ e))
        have hh11 := hh9.same s11
        have nxh : x ≠ h := (ne_of_none (u12 _ _ eh9) hx).symm
        refine ⟨h, l, p, f, m, l', c, _, rfl, hh11, s11 _ _ eP9, .ins nxh e11, fun H12 y b12 hh12 ty => ?_⟩
        have eP12 := b12 _ _ nph (s11 _ _ eP9)
        by_cases q : ∃ a f m l c, y = .ref a ∧ H12 a = some (.tup (quad f m l c))
        · obtain ⟨a, f3, m3, l3, c3, rfl, eA⟩ := q
          refine ⟨_, rfl, _, rfl, h, n, _, rfl, ty, n1, n64, ?_, fun no => absurd ⟨a, f3, m3, l3, c3, rfl, eA⟩ no⟩
          intro a1 f1 m1 l1 c1 e1 e2 H13 s13
          refine ⟨_, rfl, _, rfl, h, n, _, rfl, ty.same s13, n1, n64, ?_, fun no => absurd ⟨a, f3, m3, l3, c3, rfl, s13 _ _ eA⟩ no⟩
          intro a' f2 m2 l2 c2 e3 e4 H14 s14
          cases e1
          cases e3
          rw [s13 _ _ e2] at e4
          have e5 := HO.tup.inj (Option.some.inj e4)
          simp only [quad, List.cons.injEq, V.int.injEq, and_true] at e5
          obtain ⟨rfl, rfl, rfl, rfl⟩ := e5
          refine ⟨_, _, rfl, fun H15 s15 => ⟨true, by rw [decide_eq_true rfl], iteF ?_⟩⟩
          exact ⟨_, _, rfl, ((hh12.same s13).same s14).same s15, s15 _ _ (s14 _ _ (s13 _ _ eP12))⟩
        · refine ⟨_, rfl, _, rfl, h, n, _, rfl, ty, n1, n64, fun a f m l c e1 e2 => absurd ⟨a, f, m, l, c, e1, e2⟩ q, fun _ H13 s13 => ?_⟩
          have q13 : ¬ ∃ a f m l c, y = .ref a ∧ H13 a = some (.tup (quad f m l c)) := fun ⟨a, f, m, l, c, e1, e2⟩ => by
            subst e1
            exact q ⟨a, f, m, l, c, rfl, ty.any.tup_back (fun c o _ q => s13 c o q) (fun ys q => s13 _ _ q) e2⟩
          refine ⟨_, rfl, _, rfl, h, n, _, rfl, ty.same s13, n1, n64, fun a f m l c e1 e2 => absurd ⟨a, f, m, l, c, e1, e2⟩ q13, fun _ H14 s14 => ?_⟩
          refine ⟨_, _, rfl, fun H15 s15 => ⟨true, by rw [decide_eq_true rfl], iteF ?_⟩⟩
          exact ⟨_, _, rfl, ((hh12.same s13).same s14).same s15, s15 _ _ (s14 _ _ (s13 _ _ eP12))⟩
      · rintro σ H9 ⟨v5, v6, rfl, hh9, eP9⟩
        exact ⟨_, _, _, _, _, rfl, hh9⟩
    · rintro σ H2 ⟨v2, v3, v4, v5, v6, rfl, hh2⟩
      exact k _

end
end W2
namespace W2
open PySem PySem.Spec PyProof.Rows L2
theorem def_mk {K : PySem.W.Frag} {h : Heap} {mg : Str → Option Value} (X : K.In h) (G : h.Ns mainGlobals mg) {x : Str} {st : Stmt} {ps : List Str} {f : Addr} {oc : Value} {od an : Option Addr} {osl : Array (Option Value)} {kV doc pm cdv ct : Value}
    (a : PySem.W.nsIn K mainGlobals x = some (some (.ref f))) (l : K.lookup f = some ⟨oc, od, .func (PySem.W.fnOf x x (defArgs st) (defBody st) (defScope st) .none kV doc pm an cdv ct), osl⟩) (c : PySem.W.codeIn K cdv x = true) (k : PySem.W.keepIn K (.ref f) = true)
    (b : ∀ (kV doc pm : Value) (an : Option Addr) (cdv ct : Value) (us : List Value), us.length = ps.length → bindArgs (PySem.W.fnOf x x (defArgs st) (defBody st) (defScope st) .none kV doc pm an cdv ct) ⟨us, []⟩ = pure (ps.zip us)) : Def K mg x st ps :=
  ⟨f, _, fun_mk (st := st) l c k, PySem.W.mg_of X G a, (fun_mk (st := st) l c k).binds b⟩
theorem txt_mk {K : PySem.W.Frag} {h : Heap} {mg : Str → Option Value} (X : K.In h) (G : h.Ns mainGlobals mg) {t_MOST_HOUSES : Tok} (n_len : PySem.W.nsIn K mainGlobals "len" = some none) (n_isinstance : PySem.W.nsIn K mainGlobals "isinstance" = some none) (n_int : PySem.W.nsIn K mainGlobals "int" = some none) (n_bool : PySem.W.nsIn K mainGlobals "bool" = some none) (n_tuple : PySem.W.nsIn K mainGlobals "tuple" = some none) (n_list : PySem.W.nsIn K mainGlobals "list" = some none) (n_range : PySem.W.nsIn K mainGlobals "range" = some none) (n_max : PySem.W.nsIn K mainGlobals "max" = some none) (n_all : PySem.W.nsIn K mainGlobals "all" = some none) (n_any : PySem.W.nsIn K mainGlobals "any" = some none) (n_abs : PySem.W.nsIn K mainGlobals "abs" = some none) (g_MOST_HOUSES : PySem.W.nsIn K mainGlobals "MOST_HOUSES" = some (some (.int 64 t_MOST_HOUSES))) : Txt K mg :=
  ⟨PySem.W.mg_none_of X G n_len, PySem.W.mg_none_of X G n_isinstance, PySem.W.mg_none_of X G n_int, PySem.W.mg_none_of X G n_bool, PySem.W.mg_none_of X G n_tuple, PySem.W.mg_none_of X G n_list, PySem.W.mg_none_of X G n_range, PySem.W.mg_none_of X G n_max, PySem.W.mg_none_of X G n_all, PySem.W.mg_none_of X G n_any, PySem.W.mg_none_of X G n_abs, ⟨t_MOST_HOUSES, PySem.W.mg_of X G g_MOST_HOUSES⟩⟩
section
variable {P : Program} {w : World} {K : PySem.W.Frag} {mg : Str → Option Value} {base : Heap} {f_init : Addr} {C : Addr}

theorem ok_all (T : Txt K mg) (FC : ForC K mg C f_init) {fd_init : FuncData} (FN_init : Fun K "__init__" "Forest.__init__" s_init f_init fd_init) (B_init : Binds K fd_init ["self", "parents", "worths"] []) {f0 : Addr} {fd0 : FuncData} (FL : Fun K "law" "law" s_law f0 fd0) (D_isint : Def K mg "is_integer" s_isint ["thing"]) (D_between : Def K mg "is_between" s_between ["least", "most", "thing"]) (D_isnum : Def K mg "is_number" s_isnum ["thing"]) (D_ishouse : Def K mg "is_house" s_ishouse ["many", "thing"]) (D_ismany : Def K mg "is_many" s_ismany ["thing"]) (D_arepar : Def K mg "_are_parents" s_arepar ["thing"]) (D_come : Def K mg "come_to_roots" s_come ["parents"]) (D_arewor : Def K mg "_are_worths" s_arewor ["thing", "houses"]) (D_rank : Def K mg "rank" s_rank ["number"]) (D_ispaper : Def K mg "is_paper" s_ispaper ["many", "thing"]) (D_mostfor : Def K mg "most_for_reaching" s_mostfor ["many"]) (D_lhand : Def K mg "_law_hand" s_lhand ["script"]) (D_take : Def K mg "_law_draw" s_take ["hand", "many"]) (D_pick : Def K mg "_law_some" s_pick ["hand", "things"]) (D_flag : Def K mg "_law_flag" s_flag ["told", "due"]) (D_deep : Def K mg "_law_deep" s_deep ["kind"]) (D_lrank : Def K mg "_law_rank" s_lrank ["number"]) (D_lpaper : Def K mg "_law_is_paper" s_lpaper ["many", "thing"]) (D_spaper : Def K mg "_law_some_paper" s_spaper ["hand", "many"]) (D_bent : Def K mg "_law_bent" s_bent ["hand", "paper", "strange"]) : FnOk P w K mg base CX0 12 f0 fd0 ["script"] (spLaw K) := by
  have C_isint : Cal P w K mg base 1 "is_integer" ["thing"] (spIsInt C) := ok_isint D_isint T FC
  have C_come : Cal P w K mg base 1 "come_to_roots" ["parents"] spComeT := ok_come D_come T
  have C_lhand : Cal P w K mg base 1 "_law_hand" ["script"] (spHand K) := ok_lhand D_lhand T
  have C_take : Cal P w K mg base 1 "_law_draw" ["hand", "many"] spTake := ok_take D_take T
  have C_flag : Cal P w K mg base 1 "_law_flag" ["told", "due"] spFlag := ok_flag D_flag T
  have C_deep : Cal P w K mg base 1 "_law_deep" ["kind"] spDeep := ok_deep D_deep T
  have C_lrank : Cal P w K mg base 1 "_law_rank" ["number"] spRank := ok_lrank D_lrank T
  have C_between : Cal P w K mg base 2 "is_between" ["least", "most", "thing"] (spBetween C) := ok_between D_between T C_isint
  have C_isnum : Cal P w K mg base 2 "is_number" ["thing"] (spIsNum C) := ok_isnum D_isnum T C_isint
  have C_arewor : Cal P w K mg base 2 "_are_worths" ["thing", "houses"] spAreWT := ok_arewor D_arewor T C_isint FC
  have C_rank : Cal P w K mg base 2 "rank" ["number"] spRank := ok_rank D_rank T C_isint
  have C_pick : Cal P w K mg base 2 "_law_some" ["hand", "things"] spPick := ok_pick D_pick T C_take
  have C_lpaper : Cal P w K mg base 2 "_law_is_paper" ["many", "thing"] (spPaper C) := ok_lpaper D_lpaper T C_lrank FC
  have C_ishouse : Cal P w K mg base 3 "is_house" ["many", "thing"] (spIsHouse C) := ok_ishouse D_ishouse T C_between
  have C_ismany : Cal P w K mg base 3 "is_many" ["thing"] (spIsMany C) := ok_ismany D_ismany T C_between
  have C_mostfor : Cal P w K mg base 3 "most_for_reaching" ["many"] spMost := ok_mostfor D_mostfor T C_rank
  have C_spaper : Cal P w K mg base 3 "_law_some_paper" ["hand", "many"] spSome := ok_spaper D_spaper T C_pick C_take C_lrank
  have C_bent : Cal P w K mg base 3 "_law_bent" ["hand", "paper", "strange"] (spBent C) := ok_bent D_bent T C_take C_deep C_pick
  have C_arepar : Cal P w K mg base 4 "_are_parents" ["thing"] spArePT := ok_arepar D_arepar T C_ismany C_ishouse C_come FC
  have C_ispaper : Cal P w K mg base 4 "is_paper" ["many", "thing"] (spPaper C) := ok_ispaper D_ispaper T C_ismany C_isnum C_isint C_mostfor FC
  have F_init : FnOk P w K mg base CX0 5 f_init fd_init ["self", "parents", "worths"] (spInitT C) := ok_init FN_init T C_arepar C_arewor FC
  exact ok_law FL T C_lhand C_pick C_take C_spaper C_flag C_ispaper C_lpaper C_bent FC F_init B_init
end
theorem walk {l : PySem.W.OpenLaw} {q : Program} {loose : List Str} {XP : (Str → Option Value) → Heap → Prop} {YP : World → Heap → Prop} {d : DefRec} {K : Params → PySem.W.Frag} (hn : l.most = some 63) (hdf : d.params.defaults = [])
    (hY : ∀ (w : World) (h : Heap), YP w h → (K w.params).In h)
    (F : ∀ (w : World) (mg : Str → Option Value) (fa : Addr) (h : Heap), (K w.params).In h → h.Ns mainGlobals mg → mg d.name = some (.ref fa) →
      ∃ fd : FuncData, (∀ (s : Shared) (u : Value), BindsTo s fd ⟨[u], []⟩ [("script", u)]) ∧ ∀ base : Heap, (K w.params).In base → base.Ns mainGlobals mg → FnOk l.prog w (K w.params) mg base CX0 12 fa fd ["script"] (spLaw (K w.params))) :
    PySem.W.WalkO q loose XP YP l.row.toRowW d [] (fun f vs => PySem.call f vs) :=
  L2.walk_of (n := 63) (k := 12) (x := "script") (CX := fun _ => CX0) (sp := fun w => spLaw (K w.params)) hn (by decide) hdf ⟨rfl, by decide, by decide⟩ hY F (fun _ _ a ns hl _ hS => ⟨a, ns, rfl, hS, hl, fun _ => rfl⟩) fun _ _ _ _ _ z => z
theorem all_mk {P : Program} {w : World} {K : PySem.W.Frag} {h : Heap} {mg : Str → Option Value} {fa f_isint f_between f_isnum f_ishouse f_ismany f_init f_arepar f_come f_arewor f_rank f_ispaper f_mostfor f_lhand f_take f_pick f_flag f_deep f_lrank f_lpaper f_spaper f_bent f_law C : Addr} (X : K.In h) (G : h.Ns mainGlobals mg) (hfa : mg "law" = some (.ref fa))
    {od_isint an_isint : Option Addr} {sl_isint : Array (Option Value)} {oc_isint kV_isint dc_isint pm_isint cd_isint ct_isint : Value} (a_isint : PySem.W.nsIn K mainGlobals "is_integer" = some (some (.ref f_isint)))
    (l_isint : K.lookup f_isint = some ⟨oc_isint, od_isint, .func (PySem.W.fnOf "is_integer" "is_integer" (defArgs s_isint) (defBody s_isint) (defScope s_isint) .none kV_isint dc_isint pm_isint an_isint cd_isint ct_isint), sl_isint⟩) (c_isint : PySem.W.codeIn K cd_isint "is_integer" = true) (k_isint : PySem.W.keepIn K (.ref f_isint) = true)
    {od_between an_between : Option Addr} {sl_between : Array (Option Value)} {oc_between kV_between dc_between pm_between cd_between ct_between : Value} (a_between : PySem.W.nsIn K mainGlobals "is_between" = some (some (.ref f_between)))
    (l_between : K.lookup f_between = some ⟨oc_between, od_between, .func (PySem.W.fnOf "is_between" "is_between" (defArgs s_between) (defBody s_between) (defScope s_between) .none kV_between dc_between pm_between an_between cd_between ct_between), sl_between⟩) (c_between : PySem.W.codeIn K cd_between "is_between" = true) (k_between : PySem.W.keepIn K (.ref f_between) = true)
    {od_isnum an_isnum : Option Addr} {sl_isnum : Array (Option Value)} {oc_isnum kV_isnum dc_isnum pm_isnum cd_isnum ct_isnum : Value} (a_isnum : PySem.W.nsIn K mainGlobals "is_number" = some (some (.ref f_isnum)))
    (l_isnum : K.lookup f_isnum = some ⟨oc_isnum, od_isnum, .func (PySem.W.fnOf "is_number" "is_number" (defArgs s_isnum) (defBody s_isnum) (defScope s_isnum) .none kV_isnum dc_isnum pm_isnum an_isnum cd_isnum ct_isnum), sl_isnum⟩) (c_isnum : PySem.W.codeIn K cd_isnum "is_number" = true) (k_isnum : PySem.W.keepIn K (.ref f_isnum) = true)
    {od_ishouse an_ishouse : Option Addr} {sl_ishouse : Array (Option Value)} {oc_ishouse kV_ishouse dc_ishouse pm_ishouse cd_ishouse ct_ishouse : Value} (a_ishouse : PySem.W.nsIn K mainGlobals "is_house" = some (some (.ref f_ishouse)))
    (l_ishouse : K.lookup f_ishouse = some ⟨oc_ishouse, od_ishouse, .func (PySem.W.fnOf "is_house" "is_house" (defArgs s_ishouse) (defBody s_ishouse) (defScope s_ishouse) .none kV_ishouse dc_ishouse pm_ishouse an_ishouse cd_ishouse ct_ishouse), sl_ishouse⟩) (c_ishouse : PySem.W.codeIn K cd_ishouse "is_house" = true) (k_ishouse : PySem.W.keepIn K (.ref f_ishouse) = true)
    {od_ismany an_ismany : Option Addr} {sl_ismany : Array (Option Value)} {oc_ismany kV_ismany dc_ismany pm_ismany cd_ismany ct_ismany : Value} (a_ismany : PySem.W.nsIn K mainGlobals "is_many" = some (some (.ref f_ismany)))
    (l_ismany : K.lookup f_ismany = some ⟨oc_ismany, od_ismany, .func (PySem.W.fnOf "is_many" "is_many" (defArgs s_ismany) (defBody s_ismany) (defScope s_ismany) .none kV_ismany dc_ismany pm_ismany an_ismany cd_ismany ct_ismany), sl_ismany⟩) (c_ismany : PySem.W.codeIn K cd_ismany "is_many" = true) (k_ismany : PySem.W.keepIn K (.ref f_ismany) = true)
    {od_init an_init : Option Addr} {sl_init : Array (Option Value)} {oc_init kV_init dc_init pm_init cd_init ct_init : Value} (a_init : PySem.W.findIn K (.ref C) "__init__" = some (some (.ref f_init)))
    (l_init : K.lookup f_init = some ⟨oc_init, od_init, .func (PySem.W.fnOf "__init__" "Forest.__init__" (defArgs s_init) (defBody s_init) (defScope s_init) .none kV_init dc_init pm_init an_init cd_init ct_init), sl_init⟩) (c_init : PySem.W.codeIn K cd_init "Forest.__init__" = true) (k_init : PySem.W.keepIn K (.ref f_init) = true)
    {od_arepar an_arepar : Option Addr} {sl_arepar : Array (Option Value)} {oc_arepar kV_arepar dc_arepar pm_arepar cd_arepar ct_arepar : Value} (a_arepar : PySem.W.nsIn K mainGlobals "_are_parents" = some (some (.ref f_arepar)))
    (l_arepar : K.lookup f_arepar = some ⟨oc_arepar, od_arepar, .func (PySem.W.fnOf "_are_parents" "_are_parents" (defArgs s_arepar) (defBody s_arepar) (defScope s_arepar) .none kV_arepar dc_arepar pm_arepar an_arepar cd_arepar ct_arepar), sl_arepar⟩) (c_arepar : PySem.W.codeIn K cd_arepar "_are_parents" = true) (k_arepar : PySem.W.keepIn K (.ref f_arepar) = true)
    {od_come an_come : Option Addr} {sl_come : Array (Option Value)} {oc_come kV_come dc_come pm_come cd_come ct_come : Value} (a_come : PySem.W.nsIn K mainGlobals "come_to_roots" = some (some (.ref f_come)))
    (l_come : K.lookup f_come = some ⟨oc_come, od_come, .func (PySem.W.fnOf "come_to_roots" "come_to_roots" (defArgs s_come) (defBody s_come) (defScope s_come) .none kV_come dc_come pm_come an_come cd_come ct_come), sl_come⟩) (c_come : PySem.W.codeIn K cd_come "come_to_roots" = true) (k_come : PySem.W.keepIn K (.ref f_come) = true)
    {od_arewor an_arewor : Option Addr} {sl_arewor : Array (Option Value)} {oc_arewor kV_arewor dc_arewor pm_arewor cd_arewor ct_arewor : Value} (a_arewor : PySem.W.nsIn K mainGlobals "_are_worths" = some (some (.ref f_arewor)))
    (l_arewor : K.lookup f_arewor = some ⟨oc_arewor, od_arewor, .func (PySem.W.fnOf "_are_worths" "_are_worths" (defArgs s_arewor) (defBody s_arewor) (defScope s_arewor) .none kV_arewor dc_arewor pm_arewor an_arewor cd_arewor ct_arewor), sl_arewor⟩) (c_arewor : PySem.W.codeIn K cd_arewor "_are_worths" = true) (k_arewor : PySem.W.keepIn K (.ref f_arewor) = true)
    {od_rank an_rank : Option Addr} {sl_rank : Array (Option Value)} {oc_rank kV_rank dc_rank pm_rank cd_rank ct_rank : Value} (a_rank : PySem.W.nsIn K mainGlobals "rank" = some (some (.ref f_rank)))
    (l_rank : K.lookup f_rank = some ⟨oc_rank, od_rank, .func (PySem.W.fnOf "rank" "rank" (defArgs s_rank) (defBody s_rank) (defScope s_rank) .none kV_rank dc_rank pm_rank an_rank cd_rank ct_rank), sl_rank⟩) (c_rank : PySem.W.codeIn K cd_rank "rank" = true) (k_rank : PySem.W.keepIn K (.ref f_rank) = true)
    {od_ispaper an_ispaper : Option Addr} {sl_ispaper : Array (Option Value)} {oc_ispaper kV_ispaper dc_ispaper pm_ispaper cd_ispaper ct_ispaper : Value} (a_ispaper : PySem.W.nsIn K mainGlobals "is_paper" = some (some (.ref f_ispaper)))
    (l_ispaper : K.lookup f_ispaper = some ⟨oc_ispaper, od_ispaper, .func (PySem.W.fnOf "is_paper" "is_paper" (defArgs s_ispaper) (defBody s_ispaper) (defScope s_ispaper) .none kV_ispaper dc_ispaper pm_ispaper an_ispaper cd_ispaper ct_ispaper), sl_ispaper⟩) (c_ispaper : PySem.W.codeIn K cd_ispaper "is_paper" = true) (k_ispaper : PySem.W.keepIn K (.ref f_ispaper) = true)
    {od_mostfor an_mostfor : Option Addr} {sl_mostfor : Array (Option Value)} {oc_mostfor kV_mostfor dc_mostfor pm_mostfor cd_mostfor ct_mostfor : Value} (a_mostfor : PySem.W.nsIn K mainGlobals "most_for_reaching" = some (some (.ref f_mostfor)))
    (l_mostfor : K.lookup f_mostfor = some ⟨oc_mostfor, od_mostfor, .func (PySem.W.fnOf "most_for_reaching" "most_for_reaching" (defArgs s_mostfor) (defBody s_mostfor) (defScope s_mostfor) .none kV_mostfor dc_mostfor pm_mostfor an_mostfor cd_mostfor ct_mostfor), sl_mostfor⟩) (c_mostfor : PySem.W.codeIn K cd_mostfor "most_for_reaching" = true) (k_mostfor : PySem.W.keepIn K (.ref f_mostfor) = true)
    {od_lhand an_lhand : Option Addr} {sl_lhand : Array (Option Value)} {oc_lhand kV_lhand dc_lhand pm_lhand cd_lhand ct_lhand : Value} (a_lhand : PySem.W.nsIn K mainGlobals "_law_hand" = some (some (.ref f_lhand)))
    (l_lhand : K.lookup f_lhand = some ⟨oc_lhand, od_lhand, .func (PySem.W.fnOf "_law_hand" "_law_hand" (defArgs s_lhand) (defBody s_lhand) (defScope s_lhand) .none kV_lhand dc_lhand pm_lhand an_lhand cd_lhand ct_lhand), sl_lhand⟩) (c_lhand : PySem.W.codeIn K cd_lhand "_law_hand" = true) (k_lhand : PySem.W.keepIn K (.ref f_lhand) = true)
    {od_take an_take : Option Addr} {sl_take : Array (Option Value)} {oc_take kV_take dc_take pm_take cd_take ct_take : Value} (a_take : PySem.W.nsIn K mainGlobals "_law_draw" = some (some (.ref f_take)))
    (l_take : K.lookup f_take = some ⟨oc_take, od_take, .func (PySem.W.fnOf "_law_draw" "_law_draw" (defArgs s_take) (defBody s_take) (defScope s_take) .none kV_take dc_take pm_take an_take cd_take ct_take), sl_take⟩) (c_take : PySem.W.codeIn K cd_take "_law_draw" = true) (k_take : PySem.W.keepIn K (.ref f_take) = true)
    {od_pick an_pick : Option Addr} {sl_pick : Array (Option Value)} {oc_pick kV_pick dc_pick pm_pick cd_pick ct_pick : Value} (a_pick : PySem.W.nsIn K mainGlobals "_law_some" = some (some (.ref f_pick)))
    (l_pick : K.lookup f_pick = some ⟨oc_pick, od_pick, .func (PySem.W.fnOf "_law_some" "_law_some" (defArgs s_pick) (defBody s_pick) (defScope s_pick) .none kV_pick dc_pick pm_pick an_pick cd_pick ct_pick), sl_pick⟩) (c_pick : PySem.W.codeIn K cd_pick "_law_some" = true) (k_pick : PySem.W.keepIn K (.ref f_pick) = true)
    {od_flag an_flag : Option Addr} {sl_flag : Array (Option Value)} {oc_flag kV_flag dc_flag pm_flag cd_flag ct_flag : Value} (a_flag : PySem.W.nsIn K mainGlobals "_law_flag" = some (some (.ref f_flag)))
    (l_flag : K.lookup f_flag = some ⟨oc_flag, od_flag, .func (PySem.W.fnOf "_law_flag" "_law_flag" (defArgs s_flag) (defBody s_flag) (defScope s_flag) .none kV_flag dc_flag pm_flag an_flag cd_flag ct_flag), sl_flag⟩) (c_flag : PySem.W.codeIn K cd_flag "_law_flag" = true) (k_flag : PySem.W.keepIn K (.ref f_flag) = true)
    {od_deep an_deep : Option Addr} {sl_deep : Array (Option Value)} {oc_deep kV_deep dc_deep pm_deep cd_deep ct_deep : Value} (a_deep : PySem.W.nsIn K mainGlobals "_law_deep" = some (some (.ref f_deep)))
    (l_deep : K.lookup f_deep = some ⟨oc_deep, od_deep, .func (PySem.W.fnOf "_law_deep" "_law_deep" (defArgs s_deep) (defBody s_deep) (defScope s_deep) .none kV_deep dc_deep pm_deep an_deep cd_deep ct_deep), sl_deep⟩) (c_deep : PySem.W.codeIn K cd_deep "_law_deep" = true) (k_deep : PySem.W.keepIn K (.ref f_deep) = true)
    {od_lrank an_lrank : Option Addr} {sl_lrank : Array (Option Value)} {oc_lrank kV_lrank dc_lrank pm_lrank cd_lrank ct_lrank : Value} (a_lrank : PySem.W.nsIn K mainGlobals "_law_rank" = some (some (.ref f_lrank)))
    (l_lrank : K.lookup f_lrank = some ⟨oc_lrank, od_lrank, .func (PySem.W.fnOf "_law_rank" "_law_rank" (defArgs s_lrank) (defBody s_lrank) (defScope s_lrank) .none kV_lrank dc_lrank pm_lrank an_lrank cd_lrank ct_lrank), sl_lrank⟩) (c_lrank : PySem.W.codeIn K cd_lrank "_law_rank" = true) (k_lrank : PySem.W.keepIn K (.ref f_lrank) = true)
    {od_lpaper an_lpaper : Option Addr} {sl_lpaper : Array (Option Value)} {oc_lpaper kV_lpaper dc_lpaper pm_lpaper cd_lpaper ct_lpaper : Value} (a_lpaper : PySem.W.nsIn K mainGlobals "_law_is_paper" = some (some (.ref f_lpaper)))
    (l_lpaper : K.lookup f_lpaper = some ⟨oc_lpaper, od_lpaper, .func (PySem.W.fnOf "_law_is_paper" "_law_is_paper" (defArgs s_lpaper) (defBody s_lpaper) (defScope s_lpaper) .none kV_lpaper dc_lpaper pm_lpaper an_lpaper cd_lpaper ct_lpaper), sl_lpaper⟩) (c_lpaper : PySem.W.codeIn K cd_lpaper "_law_is_paper" = true) (k_lpaper : PySem.W.keepIn K (.ref f_lpaper) = true)
    {od_spaper an_spaper : Option Addr} {sl_spaper : Array (Option Value)} {oc_spaper kV_spaper dc_spaper pm_spaper cd_spaper ct_spaper : Value} (a_spaper : PySem.W.nsIn K mainGlobals "_law_some_paper" = some (some (.ref f_spaper)))
    (l_spaper : K.lookup f_spaper = some ⟨oc_spaper, od_spaper, .func (PySem.W.fnOf "_law_some_paper" "_law_some_paper" (defArgs s_spaper) (defBody s_spaper) (defScope s_spaper) .none kV_spaper dc_spaper pm_spaper an_spaper cd_spaper ct_spaper), sl_spaper⟩) (c_spaper : PySem.W.codeIn K cd_spaper "_law_some_paper" = true) (k_spaper : PySem.W.keepIn K (.ref f_spaper) = true)
    {od_bent an_bent : Option Addr} {sl_bent : Array (Option Value)} {oc_bent kV_bent dc_bent pm_bent cd_bent ct_bent : Value} (a_bent : PySem.W.nsIn K mainGlobals "_law_bent" = some (some (.ref f_bent)))
    (l_bent : K.lookup f_bent = some ⟨oc_bent, od_bent, .func (PySem.W.fnOf "_law_bent" "_law_bent" (defArgs s_bent) (defBody s_bent) (defScope s_bent) .none kV_bent dc_bent pm_bent an_bent cd_bent ct_bent), sl_bent⟩) (c_bent : PySem.W.codeIn K cd_bent "_law_bent" = true) (k_bent : PySem.W.keepIn K (.ref f_bent) = true)
    {od_law an_law : Option Addr} {sl_law : Array (Option Value)} {oc_law kV_law dc_law pm_law cd_law ct_law : Value} (a_law : PySem.W.nsIn K mainGlobals "law" = some (some (.ref f_law)))
    (l_law : K.lookup f_law = some ⟨oc_law, od_law, .func (PySem.W.fnOf "law" "law" (defArgs s_law) (defBody s_law) (defScope s_law) .none kV_law dc_law pm_law an_law cd_law ct_law), sl_law⟩) (c_law : PySem.W.codeIn K cd_law "law" = true) (k_law : PySem.W.keepIn K (.ref f_law) = true)
     (aC : PySem.W.nsIn K mainGlobals "Forest" = some (some (.ref C))) (iI : PySem.W.isFn K (.ref f_init) = true) (pg : PySem.W.plainGet K C Str.empty = true) (hd : PySem.W.hasDictIn K C = true) (po : PySem.W.plainOver K C = true) (sa : PySem.W.findIn K (.ref C) "__setattr__" = some (some (.builtin "object.__setattr__"))) (mk : PySem.W.makesIn K C = true) (kc : PySem.W.keepIn K (.ref C) = true) (nP : PySem.W.findIn K (.ref C) "parents" = some none) (nW : PySem.W.findIn K (.ref C) "worths" = some none) (ow_ha : PySem.W.findIn K (.ref C) "__class__" = some (some (.builtin "object.__class__"))) (ow_hn : PySem.W.specialIn K (.builtin "object.__class__") "__get__" = some (some (.builtin "getset_descriptor.__get__"))) (ow_htk : PySem.W.takesIn K (.builtin "object.__class__") = some true) (ow_hm : PySem.W.mroIn K C (.type "object") = some true) (ow_kI : PySem.W.kitOne K (.ref C) (.type "int") = some false) (ow_kB : PySem.W.kitOne K (.ref C) (.type "bool") = some false) (ow_kT : PySem.W.kitOne K (.ref C) (.type "tuple") = some false) (ow_kL : PySem.W.kitOne K (.ref C) (.type "list") = some false) (ow_kS : PySem.W.kitOne K (.ref C) (.type "str") = some false) (ow_kC : PySem.W.kitOne K (.ref C) (.ref C) = some true) (ow_tC : PySem.W.kitOne K (.type "tuple") (.ref C) = some false) (ow_nC : PySem.W.notFirst K C (.ref C) = true) (ow_nT : PySem.W.notFirst K C (.type "tuple") = true)
    {t_MOST_HOUSES : Tok} (n_len : PySem.W.nsIn K mainGlobals "len" = some none) (n_isinstance : PySem.W.nsIn K mainGlobals "isinstance" = some none) (n_int : PySem.W.nsIn K mainGlobals "int" = some none) (n_bool : PySem.W.nsIn K mainGlobals "bool" = some none) (n_tuple : PySem.W.nsIn K mainGlobals "tuple" = some none) (n_list : PySem.W.nsIn K mainGlobals "list" = some none) (n_range : PySem.W.nsIn K mainGlobals "range" = some none) (n_max : PySem.W.nsIn K mainGlobals "max" = some none) (n_all : PySem.W.nsIn K mainGlobals "all" = some none) (n_any : PySem.W.nsIn K mainGlobals "any" = some none) (n_abs : PySem.W.nsIn K mainGlobals "abs" = some none) (g_MOST_HOUSES : PySem.W.nsIn K mainGlobals "MOST_HOUSES" = some (some (.int 64 t_MOST_HOUSES))) :
    ∃ fd : FuncData, (∀ (s : Shared) (v : Value), BindsTo s fd ⟨[v], []⟩ [("script", v)]) ∧ ∀ base : Heap, K.In base → base.Ns mainGlobals mg → FnOk P w K mg base CX0 12 fa fd ["script"] (spLaw K) := by
  have D_isint := def_mk (st := s_isint) (ps := ["thing"]) X G a_isint l_isint c_isint k_isint fun _ _ _ _ _ _ us hl => match us, hl with | [_], _ => rfl
  have D_between := def_mk (st := s_between) (ps := ["least", "most", "thing"]) X G a_between l_between c_between k_between fun _ _ _ _ _ _ us hl => match us, hl with | [_, _, _], _ => rfl
  have D_isnum := def_mk (st := s_isnum) (ps := ["thing"]) X G a_isnum l_isnum c_isnum k_isnum fun _ _ _ _ _ _ us hl => match us, hl with | [_], _ => rfl
  have D_ishouse := def_mk (st := s_ishouse) (ps := ["many", "thing"]) X G a_ishouse l_ishouse c_ishouse k_ishouse fun _ _ _ _ _ _ us hl => match us, hl with | [_, _], _ => rfl
  have D_ismany := def_mk (st := s_ismany) (ps := ["thing"]) X G a_ismany l_ismany c_ismany k_ismany fun _ _ _ _ _ _ us hl => match us, hl with | [_], _ => rfl
  have FN_init := fun_mk (st := s_init) l_init c_init k_init
  have B_init := FN_init.binds (ps := ["self", "parents", "worths"]) fun _ _ _ _ _ _ us hl => match us, hl with | [_, _, _], _ => rfl
  have D_arepar := def_mk (st := s_arepar) (ps := ["thing"]) X G a_arepar l_arepar c_arepar k_arepar fun _ _ _ _ _ _ us hl => match us, hl with | [_], _ => rfl
  have D_come := def_mk (st := s_come) (ps := ["parents"]) X G a_come l_come c_come k_come fun _ _ _ _ _ _ us hl => match us, hl with | [_], _ => rfl
  have D_arewor := def_mk (st := s_arewor) (ps := ["thing", "houses"]) X G a_arewor l_arewor c_arewor k_arewor fun _ _ _ _ _ _ us hl => match us, hl with | [_, _], _ => rfl
  have D_rank := def_mk (st := s_rank) (ps := ["number"]) X G a_rank l_rank c_rank k_rank fun _ _ _ _ _ _ us hl => match us, hl with | [_], _ => rfl
  have D_ispaper := def_mk (st := s_ispaper) (ps := ["many", "thing"]) X G a_ispaper l_ispaper c_ispaper k_ispaper fun _ _ _ _ _ _ us hl => match us, hl with | [_, _], _ => rfl
  have D_mostfor := def_mk (st := s_mostfor) (ps := ["many"]) X G a_mostfor l_mostfor c_mostfor k_mostfor fun _ _ _ _ _ _ us hl => match us, hl with | [_], _ => rfl
  have D_lhand := def_mk (st := s_lhand) (ps := ["script"]) X G a_lhand l_lhand c_lhand k_lhand fun _ _ _ _ _ _ us hl => match us, hl with | [_], _ => rfl
  have D_take := def_mk (st := s_take) (ps := ["hand", "many"]) X G a_take l_take c_take k_take fun _ _ _ _ _ _ us hl => match us, hl with | [_, _], _ => rfl
  have D_pick := def_mk (st := s_pick) (ps := ["hand", "things"]) X G a_pick l_pick c_pick k_pick fun _ _ _ _ _ _ us hl => match us, hl with | [_, _], _ => rfl
  have D_flag := def_mk (st := s_flag) (ps := ["told", "due"]) X G a_flag l_flag c_flag k_flag fun _ _ _ _ _ _ us hl => match us, hl with | [_, _], _ => rfl
  have D_deep := def_mk (st := s_deep) (ps := ["kind"]) X G a_deep l_deep c_deep k_deep fun _ _ _ _ _ _ us hl => match us, hl with | [_], _ => rfl
  have D_lrank := def_mk (st := s_lrank) (ps := ["number"]) X G a_lrank l_lrank c_lrank k_lrank fun _ _ _ _ _ _ us hl => match us, hl with | [_], _ => rfl
  have D_lpaper := def_mk (st := s_lpaper) (ps := ["many", "thing"]) X G a_lpaper l_lpaper c_lpaper k_lpaper fun _ _ _ _ _ _ us hl => match us, hl with | [_, _], _ => rfl
  have D_spaper := def_mk (st := s_spaper) (ps := ["hand", "many"]) X G a_spaper l_spaper c_spaper k_spaper fun _ _ _ _ _ _ us hl => match us, hl with | [_, _], _ => rfl
  have D_bent := def_mk (st := s_bent) (ps := ["hand", "paper", "strange"]) X G a_bent l_bent c_bent k_bent fun _ _ _ _ _ _ us hl => match us, hl with | [_, _, _], _ => rfl
  have T : Txt K mg := txt_mk X G n_len n_isinstance n_int n_bool n_tuple n_list n_range n_max n_all n_any n_abs g_MOST_HOUSES
  have FC : ForC K mg C f_init := ⟨⟨⟨pg, hd, po, sa⟩, ow_ha, ow_hn, ow_htk, ow_hm, ow_kI, ow_kB, ow_kT, ow_kL, ow_kS, ow_kC, ow_tC, ow_nC, ow_nT⟩, nP, nW, PySem.W.mg_of X G aC, ⟨mk, a_init, iI, kc⟩⟩
  have e := hfa.symm.trans (PySem.W.mg_of X G a_law)
  cases e
  refine ⟨PySem.W.fnOf "law" "law" (defArgs s_law) (defBody s_law) (defScope s_law) .none kV_law dc_law pm_law an_law cd_law ct_law, fun s v => .of_eq rfl, fun base _ _ => ?_⟩
  exact ok_all (P := P) (w := w) (base := base) T FC FN_init B_init (fun_mk (st := s_law) l_law c_law k_law) D_isint D_between D_isnum D_ishouse D_ismany D_arepar D_come D_arewor D_rank D_ispaper D_mostfor D_lhand D_take D_pick D_flag D_deep D_lrank D_lpaper D_spaper D_bent
end W2
open PySem PySem.W PyProof.Rows in
set_option maxRecDepth 100000 in
set_option maxHeartbeats 0 in
theorem PySem.Challenge.cw_cutlinked_k14_whole_papers_judged_holds : PySem.Challenge.rw_cutlinked_k14_whole_papers_judged.Holds := by
  w_on; o_law; k_head; (case hw => w_witness2)
  k_fill
  refine W2.walk (l := PySem.Challenge.rw_cutlinked_k14_whole_papers_judged) rfl rfl (fun w h Y => PySem.W.kIn_of Y) ?F
  case F =>
    intro w mg fa h KX G hmg
    refine' W2.all_mk KX G hmg ?a_isint ?l_isint ?c_isint ?k_isint ?a_between ?l_between ?c_between ?k_between ?a_isnum ?l_isnum ?c_isnum ?k_isnum ?a_ishouse ?l_ishouse ?c_ishouse ?k_ishouse ?a_ismany ?l_ismany ?c_ismany ?k_ismany ?a_init ?l_init ?c_init ?k_init ?a_arepar ?l_arepar ?c_arepar ?k_arepar ?a_come ?l_come ?c_come ?k_come ?a_arewor ?l_arewor ?c_arewor ?k_arewor ?a_rank ?l_rank ?c_rank ?k_rank ?a_ispaper ?l_ispaper ?c_ispaper ?k_ispaper ?a_mostfor ?l_mostfor ?c_mostfor ?k_mostfor ?a_lhand ?l_lhand ?c_lhand ?k_lhand ?a_take ?l_take ?c_take ?k_take ?a_pick ?l_pick ?c_pick ?k_pick ?a_flag ?l_flag ?c_flag ?k_flag ?a_deep ?l_deep ?c_deep ?k_deep ?a_lrank ?l_lrank ?c_lrank ?k_lrank ?a_lpaper ?l_lpaper ?c_lpaper ?k_lpaper ?a_spaper ?l_spaper ?c_spaper ?k_spaper ?a_bent ?l_bent ?c_bent ?k_bent ?a_law ?l_law ?c_law ?k_law ?aC ?iI ?pg ?hd ?po ?sa ?mk ?kc ?nP ?nW ?ow_ha ?ow_hn ?ow_htk ?ow_hm ?ow_kI ?ow_kB ?ow_kT ?ow_kL ?ow_kS ?ow_kC ?ow_tC ?ow_nC ?ow_nT ?n_len ?n_isinstance ?n_int ?n_bool ?n_tuple ?n_list ?n_range ?n_max ?n_all ?n_any ?n_abs ?g_MOST_HOUSES
    (case aC => k_is)
    (case a_isint => k_is)
    (case l_isint => k_is)
    (case c_isint => k_is)
    (case k_isint => k_is)
    (case a_between => k_is)
    (case l_between => k_is)
    (case c_between => k_is)
    (case k_between => k_is)
    (case a_isnum => k_is)
    (case l_isnum => k_is)
    (case c_isnum => k_is)
    (case k_isnum => k_is)
    (case a_ishouse => k_is)
    (case l_ishouse => k_is)
    (case c_ishouse => k_is)
    (case k_ishouse => k_is)
    (case a_ismany => k_is)
    (case l_ismany => k_is)
    (case c_ismany => k_is)
    (case k_ismany => k_is)
    (case a_init => k_is)
    (case l_init => k_is)
    (case c_init => k_is)
    (case k_init => k_is)
    (case a_arepar => k_is)
    (case l_arepar => k_is)
    (case c_arepar => k_is)
    (case k_arepar => k_is)
    (case a_come => k_is)
    (case l_come => k_is)
    (case c_come => k_is)
    (case k_come => k_is)
    (case a_arewor => k_is)
    (case l_arewor => k_is)
    (case c_arewor => k_is)
    (case k_arewor => k_is)
    (case a_rank => k_is)
    (case l_rank => k_is)
    (case c_rank => k_is)
    (case k_rank => k_is)
    (case a_ispaper => k_is)
    (case l_ispaper => k_is)
    (case c_ispaper => k_is)
    (case k_ispaper => k_is)
    (case a_mostfor => k_is)
    (case l_mostfor => k_is)
    (case c_mostfor => k_is)
    (case k_mostfor => k_is)
    (case a_lhand => k_is)
    (case l_lhand => k_is)
    (case c_lhand => k_is)
    (case k_lhand => k_is)
    (case a_take => k_is)
    (case l_take => k_is)
    (case c_take => k_is)
    (case k_take => k_is)
    (case a_pick => k_is)
    (case l_pick => k_is)
    (case c_pick => k_is)
    (case k_pick => k_is)
    (case a_flag => k_is)
    (case l_flag => k_is)
    (case c_flag => k_is)
    (case k_flag => k_is)
    (case a_deep => k_is)
    (case l_deep => k_is)
    (case c_deep => k_is)
    (case k_deep => k_is)
    (case a_lrank => k_is)
    (case l_lrank => k_is)
    (case c_lrank => k_is)
    (case k_lrank => k_is)
    (case a_lpaper => k_is)
    (case l_lpaper => k_is)
    (case c_lpaper => k_is)
    (case k_lpaper => k_is)
    (case a_spaper => k_is)
    (case l_spaper => k_is)
    (case c_spaper => k_is)
    (case k_spaper => k_is)
    (case a_bent => k_is)
    (case l_bent => k_is)
    (case c_bent => k_is)
    (case k_bent => k_is)
    (case a_law => k_is)
    (case l_law => k_is)
    (case c_law => k_is)
    (case k_law => k_is)
    (case iI => k_is)
    (case pg => k_is)
    (case hd => k_is)
    (case po => k_is)
    (case sa => k_is)
    (case mk => k_is)
    (case kc => k_is)
    (case nP => k_is)
    (case nW => k_is)
    (case ow_ha => k_is)
    (case ow_hn => k_is)
    (case ow_htk => k_is)
    (case ow_hm => k_is)
    (case ow_kI => kit_is)
    (case ow_kB => kit_is)
    (case ow_kT => kit_is)
    (case ow_kL => kit_is)
    (case ow_kS => kit_is)
    (case ow_kC => kit_is)
    (case ow_tC => kit_is)
    (case ow_nC => k_is)
    (case ow_nT => k_is)
    (case n_len => k_is)
    (case n_isinstance => k_is)
    (case n_int => k_is)
    (case n_bool => k_is)
    (case n_tuple => k_is)
    (case n_list => k_is)
    (case n_range => k_is)
    (case n_max => k_is)
    (case n_all => k_is)
    (case n_any => k_is)
    (case n_abs => k_is)
    (case g_MOST_HOUSES => k_is)
