import PyProof.Rows.All
import Wide.All
import OpenK.AllK
import Wide.FinOn
import HandS.ForMost
import HandS.IsInst
import HandS.Conv
import HandS.Zip
import HandS.Style
import HandS.Wide
import HandS.Codes
import PySem.Challenge.RW_cutlinked_k02_whole_walker_by_own_ways
set_option Elab.async false
set_option linter.all false
set_option maxRecDepth 100000
set_option maxHeartbeats 4000000
namespace W2
open PySem PySem.Spec PyProof.Rows L2
/-! ### x is True, x is False, whatever x is -/
def rIsBo : R2 := fun x y H Q => ∃ b : Bool, y = .bl b ∧ Q (.bl (decide (x = .bl b))) H
theorem op_isB {X : Cx} : OpR X (compareOp .Is) rIsBo := by
  intro pins s σ H x y v u Q I rx ry h
  obtain ⟨b, rfl, q⟩ := h
  cases (show u = Value.bool b from ry)
  by_cases e : x = .bl b
  · subst e
    cases (show v = Value.bool b from rx)
    exact wpAny_is_self rfl ⟨.bl true, H, I, rfl, by simpa using q⟩
  · have nv : v ≠ Value.bool b := fun z => e (rx.inj (show RelV (.bl b) v from z))
    have q' : Q (.bl false) H := by rw [decide_eq_false e] at q; exact q
    cases x with
    | non => cases (show v = Value.none from rx); exact wpAny_is_other rfl (fun z => nomatch z) ⟨.bl false, H, I, rfl, q'⟩
    | bl a => cases (show v = Value.bool a from rx); exact wpAny_is_other rfl nv ⟨.bl false, H, I, rfl, q'⟩
    | int i => obtain ⟨t, rfl⟩ := rx; exact wpAny_is_other rfl nv ⟨.bl false, H, I, rfl, q'⟩
    | str i => obtain ⟨t, rfl⟩ := rx; exact wpAny_is_other rfl nv ⟨.bl false, H, I, rfl, q'⟩
    | byt i => obtain ⟨t, rfl⟩ := rx; exact wpAny_is_other rfl nv ⟨.bl false, H, I, rfl, q'⟩
    | flt i => obtain ⟨t, rfl⟩ := rx; exact wpAny_is_other rfl nv ⟨.bl false, H, I, rfl, q'⟩
    | ref a => cases (show v = Value.ref a from rx); exact wpAny_is_other rfl nv ⟨.bl false, H, I, rfl, q'⟩
    | ty n => cases (show v = Value.type n from rx); exact wpAny_is_other rfl nv ⟨.bl false, H, I, rfl, q'⟩
/-! ### a def to be called -/
structure Cal (P : Program) (w : World) (K : PySem.W.Frag) (mg : Str → Option Value) (base : Heap) (k : Nat) (x : Str) (ps : List Str) (sp : Sp) : Prop where
  ex : ∃ f fd, FnOk P w K mg base CX0 k f fd ps sp ∧ mg x = some (.ref f) ∧ PySem.W.keepIn K (.ref f) = true ∧ Binds K fd ps []
/-- a def as the top has left it -/
structure Def (K : PySem.W.Frag) (mg : Str → Option Value) (x : Str) (st : Stmt) (ps : List Str) : Prop where
  ex : ∃ f fd, Fun K x x st f fd ∧ mg x = some (.ref f) ∧ Binds K fd ps []
section
variable {X : Cx} {k j : Nat} {x : Str} {ps : List Str} {sp : Sp} {e : Expr} {es : List Expr} {t : TA} {p pos : Pos}
theorem pcal (C : Cal X.prog X.w X.K X.mg X.base k x ps sp) (hr : Room j X.A) (hk : k ≤ j) (hg : Gl X x) (ha : PA X (e :: es) t) (hdb : (x == ("__debug__" : Str)) = false := by decide) (he : starEach (e :: es) X.env = (false, eval e X.env) :: starEach es X.env := by rfl) (hpl : (backTo pos (starEach es X.env)).any (·.1) = false := by rfl) :
    PE X (.Call (.Name x p) (e :: es) [] pos) (tCall sp [] E0 t) := by
  obtain ⟨f, fd, F, hm, kp, b⟩ := C.ex
  exact pe_call F (hr.mono hk) hg hm kp b .nil pass0 ha hdb he hpl
end
theorem Def.cal {P : Program} {w : World} {K : PySem.W.Frag} {mg : Str → Option Value} {base : Heap} {k : Nat} {x : Str} {st : Stmt} {N ps : List Str} {sp : Sp} (D : Def K mg x st ps) (S : FnScope N ps (defScope st)) (len : ∀ vs H Q E, sp vs H Q E → vs.length = ps.length)
    (hbody : ∀ (f : Addr) (cdv : Value) (A : Around) (outer : List Env) (s : Shared) (H : Hp) (vs : List V) (Q : VK) (E : XK), Room k (A.deeper (envOfC x (defScope st) s.heap.objs.size f cdv)) → sp vs H Q E →
      ∃ t, PSs (cxOf CX0 P w K mg base N x (defScope st) f cdv A outer s H E).nox (defBody st) t ∧ t { nx := fun _ H' => Q .non H', rt := Q } (start N vs) H) : Cal P w K mg base (k + 1) x ps sp := by
  obtain ⟨f, fd, F, hm, b⟩ := D.ex
  exact ⟨f, fd, F.ok S len (hbody f), hm, F.kp, b⟩
/-! ### rules whose reading names K itself (within a comprehension's block) -/
section
variable {X : Cx} {K : PySem.W.Frag}
theorem call_lenK (h : X.K = K) : CallR X (.builtin "len") (fun xs H Q => ∃ p ys, xs = [.ref p] ∧ (SqL K H p ys ∨ SqT K H p ys) ∧ Q (.int ys.length) H) := h ▸ call_len_seq
theorem call_isiK1 (h : X.K = K) : CallR X (.builtin "isinstance") (rIsi K) := h ▸ call_isi
theorem op_inK (h : X.K = K) : OpR X (compareOp .In) (rIn K false) := h ▸ op_in_seq
theorem ix_listK (h : X.K = K) : IxR X (rIxL K) := h ▸ ix_list
theorem ix_tupK (h : X.K = K) : IxR X (rIxT K) := h ▸ ix_tup
end
/-! ### heaps -/
/-- all but h stays -/
def Bt (h : Addr) (H H' : Hp) : Prop := ∀ b o, b ≠ h → H b = some o → H' b = some o
theorem Bt.refl (h : Addr) (H : Hp) : Bt h H H := fun _ _ _ e => e
theorem Bt.trans {h : Addr} {H H1 H2 : Hp} (a : Bt h H H1) (b : Bt h H1 H2) : Bt h H H2 := fun c o n e => b c o n (a c o n e)
theorem Bt.of {h : Addr} {H H' : Hp} (a : Same H H') : Bt h H H' := fun c o _ e => a c o e
theorem Bt.upd {h : Addr} {H H' : Hp} {o : HO} (a : Bt h H H') : Bt h H (upd H' h o) := fun c u n e => by rw [upd_ne n]; exact a c u n e
theorem same_upd {H : Hp} {p : Addr} {o : HO} (h : H p = none) : Same H (upd H p o) := fun b x e => by rw [upd_ne (ne_of_none e h)]; exact e
theorem Same.upd {H H' : Hp} {p : Addr} {o : HO} (a : Same H H') (h : H p = none) : Same H (upd H' p o) := fun b x e => by rw [upd_ne (ne_of_none e h)]; exact a b x e
theorem Same.new {H H' : Hp} {p : Addr} {o : HO} (a : Same H H') (h : H' p = none) : Same H (L2.upd H' p o) := a.trans (same_upd h)
theorem Bt.new {h : Addr} {H H' : Hp} {p : Addr} {o : HO} (a : Bt h H H') (hp : H' p = none) : Bt h H (L2.upd H' p o) := a.trans (Bt.of (same_upd hp))
theorem Bt.free {h p : Addr} {H H' : Hp} (a : Bt h H H') (n : p ≠ h) (hp : H' p = none) : H p = none := by
  cases e : H p with
  | none => rfl
  | some o => rw [a p o n e] at hp; cases hp
def Ret (v : V) (H : Hp) (Q : VK) : Prop := ∀ H', Same H H' → Q v H'
def RetL (xs : List V) (H : Hp) (Q : VK) : Prop := ∀ (H' : Hp) (p : Addr), Same H H' → H p = none → H' p = some (.lst xs) → Q (.ref p) H'
def RetT (xs : List V) (H : Hp) (Q : VK) : Prop := ∀ (H' : Hp) (p : Addr), Same H H' → H p = none → H' p = some (.tup xs) → Q (.ref p) H'
theorem small {n : Nat} (h : n ≤ 100000) : n ≤ sizeLine := Nat.le_trans h (by decide)
theorem smalls {n : Nat} (h : n < 100000) : n < sizeLine := Nat.lt_of_lt_of_le h (by decide)
end W2
namespace W2
open PySem PySem.Spec PyProof.Rows L2
theorem M31 : (0 : Int) < 2147483647 := by decide
theorem M30 : (0 : Int) < 2147483399 := by decide
theorem iteB {c : Bool} {A B : Prop} (h1 : c = true → A) (h2 : c = false → B) : if c = true then A else B := by
  cases c with
  | true => exact h1 rfl
  | false => exact h2 rfl
theorem atI_last {α : Type} {xs : List α} {v : α} (h : xs.getLast? = some v) : atI xs (-1) = some v := by
  rw [List.getLast?_eq_getElem?] at h
  have hn := (List.getElem?_eq_some_iff.mp h).1
  unfold atI ixN
  rw [if_neg (by decide), if_pos (by omega)]
  show xs[((-1 : Int) + (xs.length : Int)).toNat]? = some v
  rw [show ((-1 : Int) + (xs.length : Int)).toNat = xs.length - 1 by omega]
  exact h
theorem cut_to (xs : List V) (k : Nat) (h : k ≤ xs.length) : cutV xs none (some (k : Int)) = xs.take k := by
  unfold cutV
  rw [HT.sIx_none, show HT.sIx xs.length xs.length (some (k : Int)) = min k xs.length from HT.sIx_nat xs.length xs.length k, Nat.min_eq_left h]
  rfl
/-- a list whose items are ints: kinds -/
theorem isi_int {K : PySem.W.Frag} {H : Hp} {i : Int} : TyX K H (.int i) (.type "int") := .base (.int i)
end W2
namespace W2
open PySem PySem.Spec PyProof.Rows L2
theorem ixN_nat {n y : Nat} (h : y < n) : ixN n (y : Int) = some y := by
  unfold ixN
  rw [if_pos (by omega), if_pos (by omega), Int.toNat_natCast]
end W2
namespace W2
inductive Ch (ps : List (Option Nat)) : Nat → List Nat → Prop
  | root {h : Nat} : ps[h]? = some none → Ch ps h [h]
  | step {h p : Nat} {l : List Nat} : ps[h]? = some (some p) → Ch ps p l → Ch ps h (h :: l)
theorem Ch.head {ps : List (Option Nat)} {h : Nat} {l : List Nat} (c : Ch ps h l) : ∃ r, l = h :: r := by
  cases c with
  | root _ => exact ⟨[], rfl⟩
  | step _ _ => exact ⟨_, rfl⟩
theorem Ch.det {ps : List (Option Nat)} {h : Nat} {l : List Nat} (c : Ch ps h l) : ∀ {m : List Nat}, Ch ps h m → l = m := by
  induction c with
  | root e =>
    intro m d
    cases d with
    | root _ => rfl
    | step e2 _ => rw [e] at e2; cases e2
  | step e c ih =>
    intro m d
    cases d with
    | root e2 => rw [e] at e2; cases e2
    | step e2 d2 =>
      rw [e] at e2
      cases e2
      rw [ih d2]
theorem Ch.tail {ps : List (Option Nat)} : ∀ {pre : List Nat} {h x : Nat} {post : List Nat}, Ch ps h (pre ++ x :: post) → Ch ps x (x :: post)
  | [], h, x, post, c => by
    obtain ⟨r, e⟩ := c.head
    have e1 : x = h := by simpa using (List.cons.inj e).1
    subst e1
    exact c
  | a :: pre, h, x, post, c => by
    have go : ∀ m, Ch ps h m → m = a :: (pre ++ x :: post) → Ch ps x (x :: post) := by
      intro m d e
      cases d with
      | root _ =>
        have := (List.cons.inj e).2
        cases pre <;> simp at this
      | step _ d2 =>
        have e2 := (List.cons.inj e).2
        subst e2
        exact Ch.tail d2
    exact go _ c rfl
theorem Ch.lt {ps : List (Option Nat)} {h : Nat} {l : List Nat} (c : Ch ps h l) : ∀ x ∈ l, x < ps.length := by
  induction c with
  | @root h e =>
    intro x hx
    have q : x = h := by simpa using hx
    subst q
    exact (List.getElem?_eq_some_iff.mp e).1
  | step e c ih =>
    intro x hx
    rcases List.mem_cons.mp hx with rfl | hx
    · exact (List.getElem?_eq_some_iff.mp e).1
    · exact ih x hx
theorem Ch.nodup {ps : List (Option Nat)} {h : Nat} {l : List Nat} (c : Ch ps h l) : l.Nodup := by
  induction c with
  | root e => simp
  | @step h p l e c ih =>
    refine List.nodup_cons.mpr ⟨fun hm => ?_, ih⟩
    obtain ⟨pre, post, e2⟩ := List.append_of_mem hm
    subst e2
    have d := Ch.tail c
    have d2 : Ch ps h (h :: (pre ++ h :: post)) := .step e c
    have q := congrArg List.length (d.det d2)
    simp at q
    omega
theorem Ch.last {ps : List (Option Nat)} {h : Nat} {l : List Nat} (c : Ch ps h l) : ∃ r, l.getLast? = some r ∧ ps[r]? = some none := by
  induction c with
  | root e => exact ⟨_, rfl, e⟩
  | @step h p l e c ih =>
    obtain ⟨r, e1, e2⟩ := ih
    refine ⟨r, ?_, e2⟩
    obtain ⟨z, rfl⟩ := c.head
    rw [List.getLast?_cons_cons]
    exact e1
/-- at place i of the way up: the parent -/
theorem Ch.next {ps : List (Option Nat)} {h : Nat} {l : List Nat} (c : Ch ps h l) {i : Nat} {x : Nat} (hx : l[i]? = some x) : (ps[x]? = some none ∧ i + 1 = l.length) ∨ (∃ y, ps[x]? = some (some y) ∧ l[i + 1]? = some y) := by
  have hi := (List.getElem?_eq_some_iff.mp hx).1
  have hs : l = l.take i ++ x :: l.drop (i + 1) := by
    have e : l.drop i = x :: l.drop (i + 1) := by
      rw [List.drop_eq_getElem_cons hi]
      congr 1
      exact (List.getElem?_eq_some_iff.mp hx).2
    rw [← e, List.take_append_drop]
  rw [hs] at c
  have d := Ch.tail c
  generalize hq : l.drop (i + 1) = q at d
  cases d with
  | root e =>
    have := congrArg List.length hq
    simp at this
    exact .inl ⟨e, by omega⟩
  | @step _ y _ e d2 =>
    obtain ⟨r, rfl⟩ := d2.head
    refine .inr ⟨y, e, ?_⟩
    have := congrArg (fun z => z[0]?) hq
    simpa [List.getElem?_drop] using this
theorem Ch.par_lt {ps : List (Option Nat)} {h p : Nat} {l : List Nat} (c : Ch ps h l) (e : ps[h]? = some (some p)) : p < ps.length := by
  cases c with
  | root e2 => rw [e] at e2; cases e2
  | step e2 c2 =>
    rw [e] at e2
    cases e2
    obtain ⟨r, e3⟩ := c2.head
    exact c2.lt _ (by rw [e3]; simp)
open Classical in
noncomputable def up (ps : List (Option Nat)) (h : Nat) : List Nat := if e : ∃ l, Ch ps h l then e.choose else []
theorem up_of {ps : List (Option Nat)} {h : Nat} {l : List Nat} (c : Ch ps h l) : up ps h = l := by
  unfold up
  rw [dif_pos ⟨l, c⟩]
  exact (Exists.choose_spec (⟨l, c⟩ : ∃ l, Ch ps h l)).det c
/-- a right forest -/
def Tree (ps : List (Option Nat)) : Prop := ∀ h, h < ps.length → Ch ps h (up ps h) ∧ (up ps h).length ≤ ps.length
theorem tree_of {ps : List (Option Nat)} (h : ∀ h, h < ps.length → ∃ l, Ch ps h l ∧ l.length ≤ ps.length) : Tree ps := fun x hx => by
  obtain ⟨l, c, z⟩ := h x hx
  rw [up_of c]
  exact ⟨c, z⟩
/-- by an order: each house's parent stands ahead -/
theorem tree_ord {ps : List (Option Nat)} {o : List Nat} (hl : o.length = ps.length) (sur : ∀ h, h < ps.length → ∃ k : Nat, o[k]? = some h)
    (hp : ∀ (k : Nat) h, o[k]? = some h → ps[h]? = some none ∨ ∃ j p, j < k ∧ o[j]? = some p ∧ ps[h]? = some (some p)) : Tree ps := by
  have go : ∀ (k : Nat), ∀ (m : Nat), m ≤ k → ∀ h, o[m]? = some h → ∃ l, Ch ps h l ∧ l.length ≤ m + 1 := by
    intro k
    induction k with
    | zero =>
      intro m hm h e
      rcases hp m h e with q | ⟨j, p, hj, _, _⟩
      · exact ⟨[h], .root q, by simp⟩
      · omega
    | succ k ih =>
      intro m hm h e
      rcases hp m h e with q | ⟨j, p, hj, ej, q⟩
      · exact ⟨[h], .root q, by simp⟩
      · obtain ⟨l, c, z⟩ := ih j (by omega) p ej
        exact ⟨h :: l, .step q c, by simp; omega⟩
  refine tree_of fun h hh => ?_
  obtain ⟨k, ek⟩ := sur h hh
  obtain ⟨l, c, z⟩ := go k k (Nat.le_refl _) h ek
  have := (List.getElem?_eq_some_iff.mp ek).1
  exact ⟨l, c, by omega⟩
/-! ### the deepest common house -/
def fnd (l m : List Nat) : Option Nat := l.find? fun x => decide (x ∈ m)
theorem find_first {p : Nat → Bool} : ∀ {l : List Nat} {i : Nat} {x : Nat}, l[i]? = some x → p x = true → (∀ (j : Nat) y, j < i → l[j]? = some y → p y = false) → l.find? p = some x
  | [], i, x, h, _, _ => by simp at h
  | a :: l, 0, x, h, hp, _ => by
    have e : a = x := by simpa using h
    subst e
    rw [List.find?_cons, hp]
  | a :: l, i + 1, x, h, hp, hn => by
    have ha : p a = false := hn 0 a (by omega) rfl
    rw [List.find?_cons, ha]
    exact find_first (l := l) (i := i) (by simpa using h) hp fun j y hj e => hn (j + 1) y (by omega) (by simpa using e)
theorem fnd_some {l m : List Nat} {i x : Nat} (h : l[i]? = some x) (hm : x ∈ m) (hn : ∀ (j : Nat) y, j < i → l[j]? = some y → y ∉ m) : fnd l m = some x :=
  find_first h (decide_eq_true hm) fun j y hj e => decide_eq_false (hn j y hj e)
theorem fnd_none {l m : List Nat} (hn : ∀ (j : Nat) y, l[j]? = some y → y ∉ m) : fnd l m = none := by
  unfold fnd
  rw [List.find?_eq_none]
  intro x hx
  obtain ⟨j, hj, e⟩ := List.getElem_of_mem hx
  have := hn j x (List.getElem?_eq_some_iff.mpr ⟨hj, e⟩)
  simpa using this
theorem fnd_split {l m : List Nat} {x : Nat} (h : fnd l m = some x) : x ∈ m ∧ ∃ pre post, l = pre ++ x :: post ∧ ∀ y ∈ pre, y ∉ m := by
  unfold fnd at h
  rw [List.find?_eq_some_iff_append] at h
  obtain ⟨h1, as, bs, e, h2⟩ := h
  exact ⟨by simpa using h1, as, bs, e, fun y hy => by simpa using h2 y hy⟩
theorem fnd_comm {ps : List (Option Nat)} {a b : Nat} {l m : List Nat} (ca : Ch ps a l) (cb : Ch ps b m) : fnd l m = fnd m l := by
  cases e : fnd l m with
  | none =>
    symm
    refine fnd_none fun j y hy hm => ?_
    have ym : y ∈ m := List.mem_of_getElem? hy
    unfold fnd at e
    rw [List.find?_eq_none] at e
    have := e y hm
    simp [ym] at this
  | some x =>
    obtain ⟨xm, pre, post, el, hpre⟩ := fnd_split e
    obtain ⟨pre2, post2, em⟩ := List.append_of_mem xm
    rw [el] at ca
    rw [em] at cb
    have nb := cb.nodup
    have e2 : x :: post = x :: post2 := (Ch.tail ca).det (Ch.tail cb)
    symm
    refine fnd_some (i := pre2.length) (by rw [em]; simp) (by rw [el]; simp) fun j y hj hy yl => ?_
    have yp : y ∈ pre2 := by
      rw [em, List.getElem?_append_left hj] at hy
      exact List.mem_of_getElem? hy
    rw [el] at yl
    rcases List.mem_append.mp yl with h1 | h1
    · exact hpre y h1 (by rw [em]; exact List.mem_append_left _ yp)
    · rw [e2] at h1
      exact (List.nodup_append.mp nb).2.2 y yp y h1 rfl
/-! ### the way -/
def wayOf (l m : List Nat) (x : Nat) : List Nat := l.take (l.idxOf x) ++ [x] ++ (m.take (m.idxOf x)).reverse
theorem take_idx {l : List Nat} {x : Nat} (h : x ∈ l) : l.take (l.idxOf x + 1) = l.take (l.idxOf x) ++ [x] := by
  have hl : l.idxOf x < l.length := List.idxOf_lt_length_of_mem h
  rw [List.take_add_one, List.getElem?_eq_getElem hl, List.getElem_idxOf hl]
  rfl
theorem rev_idx (l : List Nat) : (List.range l.length).map (fun k => l.getD (l.length - 1 - k) 0) = l.reverse := by
  apply List.ext_getElem?
  intro i
  by_cases hi : i < l.length
  · rw [List.getElem?_map, List.getElem?_range hi, List.getElem?_reverse hi]
    simp only [Option.map_some]
    have h2 : l.length - 1 - i < l.length := by omega
    rw [List.getD_eq_getElem?_getD, List.getElem?_eq_getElem h2]
    rfl
  · rw [List.getElem?_eq_none (by simpa using hi), List.getElem?_eq_none (by simpa using hi)]
end W2
namespace W2
open PySem PySem.Spec PyProof.Rows L2
/-! ### the text by places -/
def top (i : Nat) : Stmt := PySem.Challenge.pw_cutlinked_k02_whole_walker_by_own_ways.main.body.getD i (.Pass ⟨0, 0, 0, 0⟩)
abbrev s_isint : Stmt := top 5
abbrev s_ishouse : Stmt := top 6
abbrev s_init : Stmt := inClass (top 9) 0
abbrev s_arepar : Stmt := top 10
abbrev s_come : Stmt := top 11
abbrev s_arewor : Stmt := top 12
abbrev s_many : Stmt := top 13
abbrev s_root : Stmt := top 14
abbrev s_depth : Stmt := top 15
abbrev s_below : Stmt := top 16
abbrev s_way : Stmt := top 17
abbrev s_common : Stmt := top 18
abbrev s_wayup : Stmt := top 19
abbrev s_need : Stmt := top 20
abbrev s_lhand : Stmt := top 22
abbrev s_take : Stmt := top 23
abbrev s_pick : Stmt := top 24
abbrev s_lisint : Stmt := top 25
abbrev s_same : Stmt := top 26
abbrev s_value : Stmt := top 27
abbrev s_parents : Stmt := top 28
abbrev s_plain : Stmt := top 29
abbrev s_fof : Stmt := top 30
abbrev s_lup : Stmt := top 31
abbrev s_lroot : Stmt := top 32
abbrev s_lcommon : Stmt := top 33
abbrev s_lway : Stmt := top 34
abbrev s_lbelow : Stmt := top 35
abbrev s_law : Stmt := top 36
theorem sc_isint : FnScope ["thing"] ["thing"] (defScope s_isint) := ⟨rfl, rfl, rfl, by decide +kernel, rfl, by decide +kernel, by decide +kernel⟩
theorem sc_ishouse : FnScope ["many", "thing"] ["many", "thing"] (defScope s_ishouse) := ⟨rfl, rfl, rfl, by decide +kernel, rfl, by decide +kernel, by decide +kernel⟩
theorem sc_init : FnScope ["self", "parents", "worths"] ["self", "parents", "worths"] (defScope s_init) := ⟨rfl, rfl, rfl, by decide +kernel, rfl, by decide +kernel, by decide +kernel⟩
theorem sc_arepar : FnScope ["thing", "parent"] ["thing"] (defScope s_arepar) := ⟨rfl, rfl, rfl, by decide +kernel, rfl, by decide +kernel, by decide +kernel⟩
theorem sc_come : FnScope ["parents", "sure", "parent", "house", "line", "at", "passed"] ["parents"] (defScope s_come) := ⟨rfl, rfl, rfl, by decide +kernel, rfl, by decide +kernel, by decide +kernel⟩
theorem sc_arewor : FnScope ["thing", "houses", "worth"] ["thing", "houses"] (defScope s_arewor) := ⟨rfl, rfl, rfl, by decide +kernel, rfl, by decide +kernel, by decide +kernel⟩
theorem sc_many : FnScope ["forest"] ["forest"] (defScope s_many) := ⟨rfl, rfl, rfl, by decide +kernel, rfl, by decide +kernel, by decide +kernel⟩
theorem sc_root : FnScope ["forest", "house"] ["forest", "house"] (defScope s_root) := ⟨rfl, rfl, rfl, by decide +kernel, rfl, by decide +kernel, by decide +kernel⟩
theorem sc_depth : FnScope ["forest", "house"] ["forest", "house"] (defScope s_depth) := ⟨rfl, rfl, rfl, by decide +kernel, rfl, by decide +kernel, by decide +kernel⟩
theorem sc_below : FnScope ["forest", "house", "start"] ["forest", "house"] (defScope s_below) := ⟨rfl, rfl, rfl, by decide +kernel, rfl, by decide +kernel, by decide +kernel⟩
theorem sc_way : FnScope ["forest", "one", "other", "meeting", "rise", "fall"] ["forest", "one", "other"] (defScope s_way) := ⟨rfl, rfl, rfl, by decide +kernel, rfl, by decide +kernel, by decide +kernel⟩
theorem sc_common : FnScope ["forest", "one", "other", "rise", "house"] ["forest", "one", "other"] (defScope s_common) := ⟨rfl, rfl, rfl, by decide +kernel, rfl, by decide +kernel, by decide +kernel⟩
theorem sc_wayup : FnScope ["forest", "house", "line"] ["forest", "house"] (defScope s_wayup) := ⟨rfl, rfl, rfl, by decide +kernel, rfl, by decide +kernel, by decide +kernel⟩
theorem sc_need : FnScope ["forest", "thing"] ["forest", "thing"] (defScope s_need) := ⟨rfl, rfl, rfl, by decide +kernel, rfl, by decide +kernel, by decide +kernel⟩
theorem sc_lhand : FnScope ["_law_script"] ["_law_script"] (defScope s_lhand) := ⟨rfl, rfl, rfl, by decide +kernel, rfl, by decide +kernel, by decide +kernel⟩
theorem sc_take : FnScope ["_law_hand_here", "_law_size", "_law_cell", "_law_found", "_law_number"] ["_law_hand_here", "_law_size"] (defScope s_take) := ⟨rfl, rfl, rfl, by decide +kernel, rfl, by decide +kernel, by decide +kernel⟩
theorem sc_pick : FnScope ["_law_hand_here", "_law_things"] ["_law_hand_here", "_law_things"] (defScope s_pick) := ⟨rfl, rfl, rfl, by decide +kernel, rfl, by decide +kernel, by decide +kernel⟩
theorem sc_lisint : FnScope ["_law_thing"] ["_law_thing"] (defScope s_lisint) := ⟨rfl, rfl, rfl, by decide +kernel, rfl, by decide +kernel, by decide +kernel⟩
theorem sc_same : FnScope ["_law_actual", "_law_due", "_law_one", "_law_other"] ["_law_actual", "_law_due"] (defScope s_same) := ⟨rfl, rfl, rfl, by decide +kernel, rfl, by decide +kernel, by decide +kernel⟩
theorem sc_value : FnScope ["_law_hand_here"] ["_law_hand_here"] (defScope s_value) := ⟨rfl, rfl, rfl, by decide +kernel, rfl, by decide +kernel, by decide +kernel⟩
theorem sc_parents : FnScope ["_law_hand_here", "_law_size", "_law_order", "_law_k", "_law_at", "_law_found", "_law_shape"] ["_law_hand_here", "_law_size"] (defScope s_parents) := ⟨rfl, rfl, rfl, by decide +kernel, rfl, by decide +kernel, by decide +kernel⟩
theorem sc_plain : FnScope ["_law_hand_here", "_law_sizes", "_law_size", "_law_k"] ["_law_hand_here", "_law_sizes"] (defScope s_plain) := ⟨rfl, rfl, rfl, by decide +kernel, rfl, by decide +kernel, by decide +kernel⟩
theorem sc_fof : FnScope ["_law_plain_here"] ["_law_plain_here"] (defScope s_fof) := ⟨rfl, rfl, rfl, by decide +kernel, rfl, by decide +kernel, by decide +kernel⟩
theorem sc_lup : FnScope ["_law_parents_here", "_law_house", "_law_found", "_law_k"] ["_law_parents_here", "_law_house"] (defScope s_lup) := ⟨rfl, rfl, rfl, by decide +kernel, rfl, by decide +kernel, by decide +kernel⟩
theorem sc_lroot : FnScope ["_law_parents_here", "_law_house"] ["_law_parents_here", "_law_house"] (defScope s_lroot) := ⟨rfl, rfl, rfl, by decide +kernel, rfl, by decide +kernel, by decide +kernel⟩
theorem sc_lcommon : FnScope ["_law_parents_here", "_law_one", "_law_other", "_law_ups", "_law_house"] ["_law_parents_here", "_law_one", "_law_other"] (defScope s_lcommon) := ⟨rfl, rfl, rfl, by decide +kernel, rfl, by decide +kernel, by decide +kernel⟩
theorem sc_lway : FnScope ["_law_parents_here", "_law_one", "_law_other", "_law_top", "_law_first", "_law_later", "_law_back", "_law_k"] ["_law_parents_here", "_law_one", "_law_other"] (defScope s_lway) := ⟨rfl, rfl, rfl, by decide +kernel, rfl, by decide +kernel, by decide +kernel⟩
theorem sc_lbelow : FnScope ["_law_parents_here", "_law_house", "_law_other"] ["_law_parents_here", "_law_house"] (defScope s_lbelow) := ⟨rfl, rfl, rfl, by decide +kernel, rfl, by decide +kernel, by decide +kernel⟩
theorem sc_law : FnScope ["_law_script", "_law_hand_here", "_law_plain_here", "_law_forest", "_law_parents_here", "_law_k", "_law_one", "_law_other", "_law_due"] ["_law_script"] (defScope s_law) := ⟨rfl, rfl, rfl, by decide +kernel, rfl, by decide +kernel, by decide +kernel⟩
/-! ### what the top has left -/
structure Txt (K : PySem.W.Frag) (mg : Str → Option Value) : Prop where
  n_len : mg "len" = none
  n_isinstance : mg "isinstance" = none
  n_int : mg "int" = none
  n_bool : mg "bool" = none
  n_str : mg "str" = none
  n_tuple : mg "tuple" = none
  n_list : mg "list" = none
  n_range : mg "range" = none
  n_zip : mg "zip" = none
  n_max : mg "max" = none
  n_all : mg "all" = none
  most : ∃ t, mg "MOST_HOUSES" = some (.int 64 t)
structure ForC (K : PySem.W.Frag) (mg : Str → Option Value) (C fI : Addr) : Prop where
  cl : Cls K C
  nP : NoAttr K C "parents"
  nW : NoAttr K C "worths"
  mgC : mg "Forest" = some (.ref C)
  M : Mk K C fI
/-! ### data -/
def ov : Option Nat → V
  | none => .non
  | some k => .int (k : Int)
abbrev nv (k : Nat) : V := .int (k : Int)
abbrev pv' (ps : List (Option Nat)) : List V := ps.map ov
theorem pw_ : ¬ (("parents" : Str) = "worths") := by decide +kernel
theorem wp_ : ¬ (("worths" : Str) = "parents") := by decide +kernel
def pf (a b : Addr) : List (Str × V) := putF "worths" (.ref b) (putF "parents" (.ref a) [])
theorem pf_parents (a b : Addr) : (pf a b).lookup ("parents" : Str) = some (.ref a) := by
  unfold pf
  rw [lookup_putF, if_neg pw_, lookup_putF, if_pos rfl]
theorem pf_worths (a b : Addr) : (pf a b).lookup ("worths" : Str) = some (.ref b) := by
  unfold pf
  rw [lookup_putF, if_pos rfl]
/-! ### lists of houses -/
theorem flat_nv (l : List Nat) : (l.map nv).all flatV = true := by
  rw [List.all_eq_true]
  intro x hx
  obtain ⟨y, _, rfl⟩ := List.mem_map.mp hx
  rfl
theorem eqV_nv (a b : Nat) : eqV (nv a) (nv b) = decide (a = b) := by
  show ((a : Int) == (b : Int)) = decide (a = b)
  rw [Bool.eq_iff_iff, beq_iff_eq, decide_eq_true_iff]
  omega
theorem inV_nv (h : Nat) (l : List Nat) : inV (nv h) (l.map nv) = decide (h ∈ l) := by
  unfold inV
  rw [List.any_map, Bool.eq_iff_iff, List.any_eq_true, decide_eq_true_iff]
  constructor
  · rintro ⟨x, hx, e⟩
    have e2 : eqV (nv x) (nv h) = true := e
    rw [eqV_nv] at e2
    have := of_decide_eq_true e2
    subst this
    exact hx
  · intro hx
    refine ⟨h, hx, ?_⟩
    show eqV (nv h) (nv h) = true
    rw [eqV_nv]
    simp
theorem idx_at {l : List Nat} {x : Nat} (h : x ∈ l) : (l.map nv)[l.idxOf x]? = some (nv x) := by
  have hl : l.idxOf x < l.length := List.idxOf_lt_length_of_mem h
  rw [List.getElem?_map, List.getElem?_eq_getElem hl, List.getElem_idxOf hl]
  rfl
theorem idx_no {l : List Nat} {x : Nat} (m : Nat) (z : V) (hm : m < l.idxOf x) (hz : (l.map nv)[m]? = some z) : eqV z (nv x) = false := by
  rw [List.getElem?_map] at hz
  cases e : l[m]? with
  | none => rw [e] at hz; cases hz
  | some y =>
    rw [e] at hz
    have ez : z = nv y := (Option.some.inj hz).symm
    subst ez
    rw [eqV_nv]
    refine decide_eq_false fun q => ?_
    subst q
    have hl := (List.getElem?_eq_some_iff.mp e).1
    have := List.not_of_lt_findIdx (p := fun z => z == y) (xs := l) (i := m) hm
    rw [(List.getElem?_eq_some_iff.mp e).2] at this
    simp at this
theorem eqV_self (x : Nat) : eqV (nv x) (nv x) = true := by
  rw [eqV_nv]
  simp
theorem rgV_nv (n : Nat) : rgV 0 (n : Int) = (List.range n).map nv := by
  unfold rgV
  rw [Int.sub_zero, Int.toNat_natCast]
  refine List.map_congr_left fun i _ => ?_
  rw [Int.zero_add]
theorem flat_rep (n : Nat) : (List.replicate n [V.non]).flatten = (List.replicate n (none : Option Nat)).map ov := by
  induction n with
  | zero => rfl
  | succ n ih =>
    rw [List.replicate_succ, List.flatten_cons, ih, List.replicate_succ, List.map_cons]
    rfl
/-! ### parents by an order -/
def Par (od : List Nat) (ps : List (Option Nat)) : Prop := ∀ (k g : Nat), od[k]? = some g → ps[g]? = some none ∨ ∃ (j p : Nat), j < k ∧ od[j]? = some p ∧ ps[g]? = some (some p)
theorem par_set {od : List Nat} {ps : List (Option Nat)} (h : Par od ps) (nd : od.Nodup) {k g : Nat} (hk : od[k]? = some g) (hg : g < ps.length) {v : Option Nat} (hv : v = none ∨ ∃ (j p : Nat), j < k ∧ od[j]? = some p ∧ v = some p) : Par od (ps.set g v) := by
  intro k' g' hk'
  by_cases e : g = g'
  · subst e
    have ek : k = k' := nd_ix nd hk hk'
    subst ek
    rw [List.getElem?_set_self hg]
    rcases hv with rfl | ⟨j, p, hj, hp, rfl⟩
    · exact .inl rfl
    · exact .inr ⟨j, p, hj, hp, rfl⟩
  · rw [List.getElem?_set_ne e]
    exact h k' g' hk'
theorem par_tree {od : List Nat} {ps : List (Option Nat)} (h : Par od ps) {n : Nat} (hp : od.Perm (List.range n)) (hn : ps.length = n) : Tree ps := by
  refine tree_ord (o := od) (by rw [hp.length_eq, List.length_range, hn]) (fun x hx => ?_) h
  have : x ∈ od := hp.mem_iff.mpr (List.mem_range.mpr (by omega))
  obtain ⟨i, hi, e⟩ := List.getElem_of_mem this
  exact ⟨i, List.getElem?_eq_some_iff.mpr ⟨hi, e⟩⟩
/-- a Forest -/
structure FAt (C : Addr) (H : Hp) (f : Addr) (ps : List (Option Nat)) (ws : List Int) (dx a b : Addr) : Prop where
  o : H f = some (.ins C dx (pf a b))
  p : H a = some (.tup (ps.map ov))
  w : H b = some (.tup (ws.map V.int))
theorem FAt.same {C : Addr} {H H' : Hp} {f : Addr} {ps : List (Option Nat)} {ws : List Int} {dx a b : Addr} (x : FAt C H f ps ws dx a b) (s : Same H H') : FAt C H' f ps ws dx a b := ⟨s _ _ x.o, s _ _ x.p, s _ _ x.w⟩
theorem FAt.bt {C : Addr} {H H' : Hp} {f h : Addr} {ps : List (Option Nat)} {ws : List Int} {dx a b : Addr} {l : List V} (x : FAt C H f ps ws dx a b) (hh : H h = some (.lst l)) (s : Bt h H H') : FAt C H' f ps ws dx a b :=
  ⟨s _ _ (ne_of x.o hh (fun z => nomatch z)) x.o, s _ _ (ne_of x.p hh (fun z => nomatch z)) x.p, s _ _ (ne_of x.w hh (fun z => nomatch z)) x.w⟩
/-- the hand -/
structure HandAt (H : Hp) (h : Addr) (l : Addr) (ns : List Int) (i b s c : Int) : Prop where
  o : H h = some (.lst [.ref l, .int i, .int b, .int s, .int c])
  n : H l = some (.lst (ns.map V.int))
  i0 : 0 ≤ i
  b0 : 0 ≤ b
  s0 : 0 ≤ s
  s1 : s < 2147483647
def Hand (H : Hp) (h l : Addr) : Prop := ∃ ns i b s c, HandAt H h l ns i b s c
theorem Hand.lst {H : Hp} {h l : Addr} (x : Hand H h l) : ∃ l, H h = some (.lst l) := let ⟨_, _, _, _, _, y⟩ := x; ⟨_, y.o⟩
theorem Hand.row {H : Hp} {h l : Addr} (x : Hand H h l) : ∃ ns, H l = some (.lst ns) := let ⟨_, _, _, _, _, y⟩ := x; ⟨_, y.n⟩
theorem Hand.same {H H' : Hp} {h l : Addr} (x : Hand H h l) (s : Same H H') : Hand H' h l := let ⟨ns, i, b, t, c, y⟩ := x; ⟨ns, i, b, t, c, s _ _ y.o, s _ _ y.n, y.i0, y.b0, y.s0, y.s1⟩
theorem Hand.upd {H : Hp} {h l p : Addr} {o : HO} (x : Hand H h l) (hp : H p = none) : Hand (L2.upd H p o) h l := x.same (same_upd hp)
/-- an object at q, not the hand nor its row, is changed -/
theorem Hand.set {H : Hp} {h l q : Addr} {o : HO} (x : Hand H h l) (n1 : q ≠ h) (n2 : q ≠ l) : Hand (L2.upd H q o) h l := by
  obtain ⟨ns, i, b, s, c, y⟩ := x
  exact ⟨ns, i, b, s, c, by rw [upd_ne n1.symm]; exact y.o, by rw [upd_ne n2.symm]; exact y.n, y.i0, y.b0, y.s0, y.s1⟩
/-! ### promises -/
def spIsInt : Sp := fun vs H Q _ => ∃ i : Int, vs = [.int i] ∧ Ret (.bl true) H Q
def spIsHouse : Sp := fun vs H Q _ => ∃ n i : Int, vs = [.int n, .int i] ∧ 0 ≤ i ∧ i < n ∧ Ret (.bl true) H Q
def spCome (K : PySem.W.Frag) : Sp := fun vs H Q _ => ∃ (a : Addr) (ps : List (Option Nat)), vs = [.ref a] ∧ H a = some (.tup (ps.map ov)) ∧ Tree ps ∧ ps.length ≤ 64 ∧ Ret (.bl true) H Q
def spAreP (K : PySem.W.Frag) : Sp := fun vs H Q _ => ∃ (a : Addr) (ps : List (Option Nat)), vs = [.ref a] ∧ H a = some (.tup (ps.map ov)) ∧ Tree ps ∧ 1 ≤ ps.length ∧ ps.length ≤ 64 ∧ Ret (.bl true) H Q
def spAreW (K : PySem.W.Frag) : Sp := fun vs H Q _ => ∃ (a : Addr) (ws : List Int), vs = [.ref a, .int (ws.length : Int)] ∧ H a = some (.tup (ws.map V.int)) ∧ ws.length ≤ 64 ∧ Ret (.bl true) H Q
def spInit (C : Addr) : Sp := fun vs H Q _ => ∃ (x dx a b : Addr) (ps : List (Option Nat)) (ws : List Int), vs = [.ref x, .ref a, .ref b] ∧ H x = some (.ins C dx []) ∧ H a = some (.tup (ps.map ov)) ∧ H b = some (.tup (ws.map V.int)) ∧ Tree ps ∧ 1 ≤ ps.length ∧ ps.length ≤ 64 ∧ ws.length = ps.length ∧
  ∀ H', Bt x H H' → H' x = some (.ins C dx (pf a b)) → Q .non H'
def spFof (C : Addr) : Sp := fun vs H Q _ => ∃ (pl p q : Addr) (ps : List (Option Nat)) (ws : List Int), vs = [.ref pl] ∧ H pl = some (.lst [.ref p, .ref q]) ∧ H p = some (.lst (ps.map ov)) ∧ H q = some (.lst (ws.map V.int)) ∧ Tree ps ∧ 1 ≤ ps.length ∧ ps.length ≤ 64 ∧ ws.length = ps.length ∧
  ∀ H' f dx a b, Same H H' → H f = none → FAt C H' f ps ws dx a b → Q (.ref f) H'
/-- of a right forest at f a house h -/
def Hs (C : Addr) (H : Hp) (f : Addr) (ps : List (Option Nat)) : Prop := (∃ ws dx a b, FAt C H f ps ws dx a b) ∧ Tree ps ∧ ps.length ≤ 64
theorem Hs.same {C : Addr} {H H' : Hp} {f : Addr} {ps : List (Option Nat)} (x : Hs C H f ps) (s : Same H H') : Hs C H' f ps := let ⟨⟨ws, dx, a, b, y⟩, z⟩ := x; ⟨⟨ws, dx, a, b, y.same s⟩, z⟩
theorem Hs.bt {C : Addr} {H H' : Hp} {f h : Addr} {ps : List (Option Nat)} {l : List V} (x : Hs C H f ps) (hh : H h = some (.lst l)) (s : Bt h H H') : Hs C H' f ps := let ⟨⟨ws, dx, a, b, y⟩, z⟩ := x; ⟨⟨ws, dx, a, b, y.bt hh s⟩, z⟩
def spMany (C : Addr) : Sp := fun vs H Q _ => ∃ (f : Addr) (ps : List (Option Nat)), vs = [.ref f] ∧ Hs C H f ps ∧ Ret (nv ps.length) H Q
def spNeed (C : Addr) : Sp := fun vs H Q _ => ∃ (f : Addr) (ps : List (Option Nat)) (h : Nat), vs = [.ref f, nv h] ∧ Hs C H f ps ∧ h < ps.length ∧ Ret .non H Q
def spWayUp (C : Addr) : Sp := fun vs H Q _ => ∃ (f : Addr) (ps : List (Option Nat)) (h : Nat), vs = [.ref f, nv h] ∧ Hs C H f ps ∧ h < ps.length ∧ RetL ((up ps h).map nv) H Q
noncomputable def rt (ps : List (Option Nat)) (h : Nat) : Nat := (up ps h).getLastD 0
noncomputable def bel (ps : List (Option Nat)) (h : Nat) : List Nat := (List.range ps.length).filter fun s => decide (h ∈ up ps s)
def spRoot (C : Addr) : Sp := fun vs H Q _ => ∃ (f : Addr) (ps : List (Option Nat)) (h : Nat), vs = [.ref f, nv h] ∧ Hs C H f ps ∧ h < ps.length ∧ Ret (nv (rt ps h)) H Q
def spDepth (C : Addr) : Sp := fun vs H Q _ => ∃ (f : Addr) (ps : List (Option Nat)) (h : Nat), vs = [.ref f, nv h] ∧ Hs C H f ps ∧ h < ps.length ∧ Ret (.int (((up ps h).length : Nat) - 1 : Int)) H Q
def spBelow (C : Addr) : Sp := fun vs H Q _ => ∃ (f : Addr) (ps : List (Option Nat)) (h : Nat), vs = [.ref f, nv h] ∧ Hs C H f ps ∧ h < ps.length ∧ RetT ((bel ps h).map nv) H Q
def spCommon (C : Addr) : Sp := fun vs H Q _ => ∃ (f : Addr) (ps : List (Option Nat)) (h g : Nat), vs = [.ref f, nv h, nv g] ∧ Hs C H f ps ∧ h < ps.length ∧ g < ps.length ∧ Ret (ov (fnd (up ps h) (up ps g))) H Q
def spWay (C : Addr) : Sp := fun vs H Q _ => ∃ (f : Addr) (ps : List (Option Nat)) (h g : Nat), vs = [.ref f, nv h, nv g] ∧ Hs C H f ps ∧ h < ps.length ∧ g < ps.length ∧
  (fnd (up ps h) (up ps g) = none → Ret .non H Q) ∧ ∀ x, fnd (up ps h) (up ps g) = some x → RetT ((wayOf (up ps h) (up ps g) x).map nv) H Q
/-- the law's own walker, over a list of parents -/
def Pl (H : Hp) (p : Addr) (ps : List (Option Nat)) : Prop := H p = some (.lst (ps.map ov)) ∧ Tree ps ∧ ps.length ≤ 64
theorem Pl.same {H H' : Hp} {p : Addr} {ps : List (Option Nat)} (x : Pl H p ps) (s : Same H H') : Pl H' p ps := ⟨s _ _ x.1, x.2⟩
theorem Pl.bt {H H' : Hp} {p h : Addr} {ps : List (Option Nat)} (x : Pl H p ps) (n : p ≠ h) (s : Bt h H H') : Pl H' p ps := ⟨s _ _ n x.1, x.2⟩
def spLUp : Sp := fun vs H Q _ => ∃ (p : Addr) (ps : List (Option Nat)) (h : Nat), vs = [.ref p, nv h] ∧ Pl H p ps ∧ h < ps.length ∧ RetL ((up ps h).map nv) H Q
def spLRoot : Sp := fun vs H Q _ => ∃ (p : Addr) (ps : List (Option Nat)) (h : Nat), vs = [.ref p, nv h] ∧ Pl H p ps ∧ h < ps.length ∧ Ret (nv (rt ps h)) H Q
def spLBelow : Sp := fun vs H Q _ => ∃ (p : Addr) (ps : List (Option Nat)) (h : Nat), vs = [.ref p, nv h] ∧ Pl H p ps ∧ h < ps.length ∧ RetL ((bel ps h).map nv) H Q
def spLCommon : Sp := fun vs H Q _ => ∃ (p : Addr) (ps : List (Option Nat)) (h g : Nat), vs = [.ref p, nv h, nv g] ∧ Pl H p ps ∧ h < ps.length ∧ g < ps.length ∧ Ret (ov (fnd (up ps h) (up ps g))) H Q
def spLWay : Sp := fun vs H Q _ => ∃ (p : Addr) (ps : List (Option Nat)) (h g : Nat), vs = [.ref p, nv h, nv g] ∧ Pl H p ps ∧ h < ps.length ∧ g < ps.length ∧
  (fnd (up ps h) (up ps g) = none → Ret .non H Q) ∧ ∀ x, fnd (up ps h) (up ps g) = some x → RetL ((wayOf (up ps h) (up ps g) x).map nv) H Q
def spHand (K : PySem.W.Frag) : Sp := fun vs H Q _ => ∃ (s : Addr) (ns : List Int), vs = [.ref s] ∧ SqL K H s (ns.map V.int) ∧ ∀ H' h l, Same H H' → H h = none → Hand H' h l → Q (.ref h) H'
def spTake : Sp := fun vs H Q _ => ∃ (h l : Addr) (n : Int), vs = [.ref h, .int n] ∧ Hand H h l ∧ 0 < n ∧ n < 1073741824 ∧ ∀ H' r, Bt h H H' → Hand H' h l → 0 ≤ r → r < n → Q (.int r) H'
def spPick : Sp := fun vs H Q _ => ∃ (h l t : Addr) (xs : List V), vs = [.ref h, .ref t] ∧ Hand H h l ∧ H t = some (.lst xs) ∧ t ≠ h ∧ 0 < xs.length ∧ xs.length ≤ 100000 ∧ ∀ H' x, Bt h H H' → Hand H' h l → x ∈ xs → Q x H'
def spValue : Sp := fun vs H Q _ => ∃ (h l : Addr), vs = [.ref h] ∧ Hand H h l ∧ ∀ H' (i : Int), Bt h H H' → Hand H' h l → Q (.int i) H'
def spParents : Sp := fun vs H Q _ => ∃ (h l : Addr) (n : Nat), vs = [.ref h, nv n] ∧ Hand H h l ∧ 1 ≤ n ∧ n ≤ 64 ∧ ∀ H' p ps, Bt h H H' → Hand H' h l → H p = none → H' p = some (.lst (List.map ov ps)) → ps.length = n → Tree ps → Q (.ref p) H'
def spPlain : Sp := fun vs H Q _ => ∃ (h l t : Addr) (ss : List Nat), vs = [.ref h, .ref t] ∧ Hand H h l ∧ H t = some (.lst (ss.map nv)) ∧ t ≠ h ∧ 0 < ss.length ∧ ss.length ≤ 100 ∧ (∀ s ∈ ss, 1 ≤ s ∧ s ≤ 64) ∧
  ∀ H' pl p q ps ws, Bt h H H' → Hand H' h l → H pl = none → H p = none → H q = none → H' pl = some (.lst [.ref p, .ref q]) → H' p = some (.lst (List.map ov ps)) → H' q = some (.lst (List.map V.int ws)) → Tree ps → 1 ≤ ps.length → ps.length ≤ 64 → ws.length = ps.length → Q (.ref pl) H'
/-- alike, to a depth -/
def EqS : Nat → Hp → V → V → Prop
  | 0, _, _, _ => False
  | d + 1, H, x, y => (x = .non ∧ y = .non) ∨ (∃ i, x = .int i ∧ y = .int i) ∨ ∃ a b xs ys, x = .ref a ∧ y = .ref b ∧ H a = some (.tup xs) ∧ H b = some (.tup ys) ∧ xs.length = ys.length ∧ ∀ (i : Nat) (x y : V), xs[i]? = some x → ys[i]? = some y → EqS d H x y
theorem EqS.same {H H' : Hp} (s : Same H H') : ∀ {d : Nat} {x y : V}, EqS d H x y → EqS d H' x y
  | 0, _, _, h => h.elim
  | d + 1, x, y, h => by
    rcases h with h | h | ⟨a, b, xs, ys, h1, h2, h3, h4, h5, h6⟩
    · exact .inl h
    · exact .inr (.inl h)
    · exact .inr (.inr ⟨a, b, xs, ys, h1, h2, s _ _ h3, s _ _ h4, h5, fun i x y q r => (h6 i x y q r).same s⟩)
theorem EqS.succ {H : Hp} : ∀ {d : Nat} {x y : V}, EqS d H x y → EqS (d + 1) H x y
  | 0, _, _, h => h.elim
  | d + 1, x, y, h => by
    rcases h with h | h | ⟨a, b, xs, ys, h1, h2, h3, h4, h5, h6⟩
    · exact .inl h
    · exact .inr (.inl h)
    · exact .inr (.inr ⟨a, b, xs, ys, h1, h2, h3, h4, h5, fun i x y q r => (h6 i x y q r).succ⟩)
theorem eqs_flat {H : Hp} {d : Nat} {a b : Addr} {xs : List V} (ha : H a = some (.tup xs)) (hb : H b = some (.tup xs)) (h : ∀ x ∈ xs, x = .non ∨ ∃ i, x = .int i) : EqS (d + 2) H (.ref a) (.ref b) := by
  refine .inr (.inr ⟨a, b, xs, xs, rfl, rfl, ha, hb, rfl, fun i x y hx hy => ?_⟩)
  rw [hx] at hy
  cases hy
  rcases h x (List.mem_of_getElem? hx) with rfl | ⟨j, rfl⟩
  · exact .inl ⟨rfl, rfl⟩
  · exact .inr (.inl ⟨j, rfl, rfl⟩)
theorem flat_nv2 (l : List Nat) : ∀ x ∈ l.map nv, x = V.non ∨ ∃ i, x = V.int i := fun x hx => by
  obtain ⟨y, _, rfl⟩ := List.mem_map.mp hx
  exact .inr ⟨_, rfl⟩
theorem flat_ov2 (l : List (Option Nat)) : ∀ x ∈ l.map ov, x = V.non ∨ ∃ i, x = V.int i := fun x hx => by
  obtain ⟨y, _, rfl⟩ := List.mem_map.mp hx
  cases y with
  | none => exact .inl rfl
  | some k => exact .inr ⟨_, rfl⟩
theorem flat_int2 (l : List Int) : ∀ x ∈ l.map V.int, x = V.non ∨ ∃ i, x = V.int i := fun x hx => by
  obtain ⟨y, _, rfl⟩ := List.mem_map.mp hx
  exact .inr ⟨_, rfl⟩
theorem rt_mem {ps : List (Option Nat)} (TR : Tree ps) {h : Nat} (hl : h < ps.length) : rt ps h ∈ up ps h := by
  obtain ⟨r, e, _⟩ := (TR h hl).1.last
  unfold rt
  rw [List.getLastD_eq_getLast?, e]
  exact List.mem_of_getLast? e
theorem rt_lt {ps : List (Option Nat)} (TR : Tree ps) {h : Nat} (hl : h < ps.length) : rt ps h < ps.length := (TR h hl).1.lt _ (rt_mem TR hl)
theorem bel_mem {ps : List (Option Nat)} {h x : Nat} : x ∈ bel ps h ↔ x < ps.length ∧ h ∈ up ps x := by
  unfold bel
  rw [List.mem_filter, List.mem_range, decide_eq_true_iff]
theorem bel_len (ps : List (Option Nat)) (h : Nat) : (bel ps h).length ≤ ps.length := by
  unfold bel
  exact Nat.le_trans (List.length_filter_le _ _) (by rw [List.length_range]; exact Nat.le_refl _)
/-- what the law's body keeps between its steps -/
structure Good (C : Addr) (H : Hp) (h l pl p q f : Addr) (ps : List (Option Nat)) (ws : List Int) (dx a b : Addr) : Prop where
  hand : Hand H h l
  F : FAt C H f ps ws dx a b
  ePl : H pl = some (.lst [.ref p, .ref q])
  eP : H p = some (.lst (ps.map ov))
  eQ : H q = some (.lst (ws.map V.int))
theorem Good.same {C : Addr} {H H' : Hp} {h l pl p q f : Addr} {ps : List (Option Nat)} {ws : List Int} {dx a b : Addr} (g : Good C H h l pl p q f ps ws dx a b) (s : Same H H') : Good C H' h l pl p q f ps ws dx a b :=
  ⟨g.hand.same s, g.F.same s, s _ _ g.ePl, s _ _ g.eP, s _ _ g.eQ⟩
theorem Good.bt {C : Addr} {H H' : Hp} {h l pl p q f : Addr} {ps : List (Option Nat)} {ws : List Int} {dx a b : Addr} (g : Good C H h l pl p q f ps ws dx a b) (n1 : pl ≠ h) (n2 : p ≠ h) (n3 : q ≠ h) (s : Bt h H H') (hh : Hand H' h l) : Good C H' h l pl p q f ps ws dx a b :=
  ⟨hh, (let ⟨_, e⟩ := g.hand.lst; g.F.bt e s), s _ _ n1 g.ePl, s _ _ n2 g.eP, s _ _ n3 g.eQ⟩
def spSame (d : Nat) : Sp := fun vs H Q _ => ∃ x y, vs = [x, y] ∧ EqS d H x y ∧ Ret (.bl true) H Q
def spLaw (K : PySem.W.Frag) : Sp := fun vs H Q _ => ∃ (a : Addr) (ns : List Int), vs = [.ref a] ∧ SqL K H a (ns.map V.int) ∧ ns.length ≤ 63 ∧ ∀ H', Q (.bl true) H'
end W2
namespace W2
open PySem PySem.Spec PyProof.Rows L2
section
variable {P : Program} {w : World} {K : PySem.W.Frag} {mg : Str → Option Value} {base : Heap} {C fI : Addr}
theorem ok_isint (D : Def K mg "is_integer" s_isint ["thing"]) (T : Txt K mg)  : Cal P w K mg base 1 "is_integer" ["thing"] spIsInt := by
  refine D.cal sc_isint (fun vs H Q E h => ?_) (fun f cdv A outer s H vs Q E hr h => ?_)
  · obtain ⟨i, rfl, _⟩ := h
    rfl
  · obtain ⟨i, rfl, k⟩ := h
    refine ⟨_, (pss_one (ps_ret (pe_and (pe_callB (call_isiK1 (K := K) rfl) (by rfl) T.n_isinstance (by decide +kernel) (pa_cons (pv 0) (pa_cons (pe_bltn (v := .ty "int") (by rfl) T.n_int (by decide +kernel) rfl) pa_nil))) (pe_one (pe_not (pe_callB (call_isiK1 (K := K) rfl) (by rfl) T.n_isinstance (by decide +kernel) (pa_cons (pv 0) (pa_cons (pe_bltn (v := .ty "bool") (by rfl) T.n_bool (by decide +kernel) rfl) pa_nil)))))))), ?_⟩
    refine ⟨_, rfl, _, _, _, _, true, rfl, .ty _, .base (.int i), kit_ty (by decide +kernel), true, rfl, iteT ?_⟩
    exact ⟨_, rfl, _, _, _, _, false, rfl, .ty _, .base (.int i), kit_ty (by decide +kernel), false, rfl, k _ (L2.Same.refl _)⟩

end
end W2
namespace W2
open PySem PySem.Spec PyProof.Rows L2
section
variable {P : Program} {w : World} {K : PySem.W.Frag} {mg : Str → Option Value} {base : Heap} {C fI : Addr}
theorem ok_ishouse (D : Def K mg "is_house" s_ishouse ["many", "thing"]) (T : Txt K mg) (C_isint : Cal P w K mg base 1 "is_integer" ["thing"] spIsInt) : Cal P w K mg base 2 "is_house" ["many", "thing"] spIsHouse := by
  refine D.cal sc_ishouse (fun vs H Q E h => ?_) (fun f cdv A outer s H vs Q E hr h => ?_)
  · obtain ⟨n, i, rfl, _⟩ := h
    rfl
  · obtain ⟨n, i, rfl, h0, h1, k⟩ := h
    refine ⟨_, (pss_one (ps_ret (pe_and (pcal C_isint hr (by decide) rfl (pa_cons (pv 1) pa_nil)) (pe_one (pe_chain op_le op_lt pe_int (pv 1) (pv 0)))))), ?_⟩
    refine ⟨_, rfl, i, rfl, fun H1 s1 => ⟨true, rfl, iteT ?_⟩⟩
    refine ⟨_, rfl, _, _, rfl, rfl, _, rfl, ?_⟩
    rw [decide_eq_true h0]
    refine iteT ⟨_, rfl, _, _, rfl, rfl, ?_⟩
    show Q (.bl (decide (i < n))) H1
    rw [decide_eq_true h1]
    exact k _ s1

end
end W2
namespace W2
open PySem PySem.Spec PyProof.Rows L2
section
variable {P : Program} {w : World} {K : PySem.W.Frag} {mg : Str → Option Value} {base : Heap} {C fI : Addr}
theorem ok_come (D : Def K mg "_come_to_roots" s_come ["parents"]) (T : Txt K mg)  : Cal P w K mg base 1 "_come_to_roots" ["parents"] (spCome K) := by
  refine D.cal sc_come (fun vs H Q E h => ?_) (fun f cdv A outer s H vs Q E hr h => ?_)
  · obtain ⟨a, ps, rfl, _⟩ := h
    rfl
  · obtain ⟨a, ps, rfl, hA, TR, hz, k⟩ := h
    refine ⟨_, (pss_cons (ps_setLc (i := 1) (own := [("parent", 2)]) (g := gName 2) (tt := tYes) (by rfl) sc_come.nd rfl rfl (sw_true rfl rfl rfl (by decide +kernel)) (pi_tup (pv 0)) (blkOk_by (own := [("parent", 2)]) (N := ["parents", "sure", "parent", "house", "line", "at", "passed"]) (sc := defScope s_come) (by decide +kernel)) (fun _ _ _ _ _ => pg_name (i := 2) sc_come.nd rfl (Or.inl rfl)) (fun _ _ _ _ _ => pts_nil) (fun _ _ _ _ _ => (pe_cmpR op_isN (pv 2) pe_non (nomark _))))
      (pss_cons (ps_for PassesOwn.never rfl (pi_range1 rfl T.n_range (pa_cons (pe_callB (call_lenK (K := K) rfl) (by rfl) T.n_len PySem.boot_len (pa_cons (pv 0) pa_nil)) pa_nil)) (pg_name (i := 3) sc_come.nd rfl (Or.inl rfl)) (pss_cons (ps_set (i := 4) sc_come.nd rfl (Or.inl rfl) (pe_lst pa_nil))
      (pss_cons (ps_set (i := 5) sc_come.nd rfl (Or.inl rfl) (pv 3))
      (pss_cons (ps_while PassesOwn.never (pt_not (pt_val (pe_ix (ix_listK (K := K) rfl) (pv 1) (pv 5) (fun _ _ => rfl)))) (pss_cons (ps_if (pt_cmpR op_eq (pe_callB (call_lenK (K := K) rfl) (by rfl) T.n_len PySem.boot_len (pa_cons (pv 4) pa_nil)) (pe_callB (call_lenK (K := K) rfl) (by rfl) T.n_len PySem.boot_len (pa_cons (pv 0) pa_nil)) (nomark _)) (pss_one (ps_ret pe_bl)) pss_nil)
      (pss_cons (ps_expr (pe_bm PySem.F.plainAttrs_list PySem.F.slot_list_append PySem.F.type_list_append mt_append (pv 4) (pa_cons (pv 5) pa_nil)))
      (pss_one (ps_set (i := 5) sc_come.nd rfl (Or.inl rfl) (pe_ix (ix_tupK (K := K) rfl) (pv 0) (pv 5) (fun _ _ => rfl)))))))
      (pss_one (ps_for PassesOwn.never rfl (pi_list (pv 4)) (pg_name (i := 6) sc_come.nd rfl (Or.inl rfl)) (pss_one (ps_asg pe_bl (pg_sub (pv 1) (pv 6) set_list)))))))))
      (pss_one (ps_ret pe_bl)))), ?_⟩
    -- sure = [parent is None for parent in parents]
    refine ⟨_, rfl, a, rfl, ⟨_, SqT.of hA⟩, fun D hD => ?_⟩
    refine lc_tup (xs := ps.map ov) (fun i H' => L2.Same H H' ∧ H' D = some (.lst (((ps.take i).map Option.isNone).map V.bl))) ⟨same_upd hD, by rw [upd_same]; rfl⟩ (fun i H' _ p => SqT.of (p.1 _ _ hA)) ?_ ?_
    · rintro i x H' hx ⟨sm, hd⟩
      rw [List.getElem?_map] at hx
      cases ho : ps[i]? with
      | none => rw [ho] at hx; cases hx
      | some o =>
        rw [ho] at hx
        have ex : x = ov o := (Option.some.inj hx).symm
        subst ex
        have hi := (List.getElem?_eq_some_iff.mp ho).1
        refine ⟨rfl, _, rfl, rfl, _, hd, ?_, Same.upd sm hD, ?_⟩
        · rw [List.length_map, List.length_map, List.length_take]
          exact smalls (by omega)
        · rw [upd_same, List.take_add_one, ho]
          cases o <;> simp [ov]
    rintro H1 ⟨s1, hd1⟩
    rw [List.length_map, List.take_length] at hd1
    have hA1 := s1 _ _ hA
    -- for house in range(len(parents))
    refine ⟨_, rfl, a, _, rfl, .inr (SqT.of hA1), _, rfl, by omega, by rw [List.length_map]; omega, ?_⟩
    rw [List.length_map, Int.toNat_natCast]
    refine for_range (lo := 0) (n := ps.length) (fun i σ H' => ∃ (v2 v3 v4 v5 v6 : Option V) (bs : List Bool), σ = [some (.ref a), some (.ref D), v2, v3, v4, v5, v6] ∧ L2.Same H H' ∧ H' D = some (.lst (bs.map V.bl)) ∧ bs.length = ps.length ∧ ∀ h : Nat, ps[h]? = some none → bs[h]? = some true)
      ⟨none, none, none, none, none, ps.map Option.isNone, rfl, s1, hd1, List.length_map _, fun h e => by rw [List.getElem?_map, e]; rfl⟩ ?_ ?_
    · rintro h σ H2 hh ⟨v2, v3, v4, v5, v6, bs, rfl, s2, hd2, hb, hr0⟩
      have hA2 := s2 _ _ hA
      obtain ⟨ch, cz⟩ := TR h hh
      obtain ⟨rest, eh⟩ := ch.head
      rw [Int.zero_add]
      -- line = []; at = house
      refine ⟨Nat.zero_le _, fun l hl => ⟨_, rfl, ?_⟩⟩
      have nDl : D ≠ l := ne_of_none hd2 hl
      refine ⟨fun m σ H' => ∃ (j x : Nat), σ = [some (.ref a), some (.ref D), v2, some (nv h), some (.ref l), some (nv x), v6] ∧ (up ps h)[j]? = some x ∧ m = (up ps h).length - j ∧ H' l = some (.lst (((up ps h).take j).map nv)) ∧ L2.Same H2 H',
        ⟨_, 0, h, rfl, by rw [eh]; rfl, rfl, upd_same, same_upd hl⟩, ?_⟩
      rintro m σ H3 ⟨j, x, rfl, hx, rfl, hL, s3⟩
      have hj := (List.getElem?_eq_some_iff.mp hx).1
      have hxl : x < ps.length := ch.lt x (List.mem_of_getElem? hx)
      have hd3 := s3 _ _ hd2
      have hA3 := s3 _ _ hA2
      have hxb : x < bs.length := by omega
      have hbx : bs[x]? = some bs[x] := List.getElem?_eq_getElem hxb
      generalize bs[x] = b0 at hbx
      have hv : (bs.map V.bl)[x]? = some (.bl b0) := by rw [List.getElem?_map, hbx]; rfl
      refine ⟨_, rfl, _, rfl, D, _, _, _, rfl, rfl, SqL.of hd3, atI_nat hv, b0, rfl, iteB (fun nb => ?_) (fun nb => ?_)⟩
      · -- a step up
        have eb : b0 = false := by cases b0 <;> simp_all
        subst eb
        rcases ch.next hx with ⟨e0, _⟩ | ⟨y, e0, e1⟩
        · rw [hr0 x e0] at hbx; cases hbx
        · refine ⟨_, fun σ' H' n => n, ?_⟩
          refine ⟨_, rfl, l, _, rfl, .inl (SqL.of hL), _, rfl, a, _, rfl, .inr (SqT.of hA3), rfl, _, rfl, iteB (fun e => ?_) (fun _ => ?_)⟩
          · exfalso
            have e2 := of_decide_eq_true e
            have e3 : ((((up ps h).take j).map nv).length : Int) = ((ps.map ov).length : Int) := V.int.inj e2
            rw [List.length_map, List.length_map, List.length_take] at e3
            omega
          · refine ⟨_, rfl, .inl ⟨rfl, _, SqL.of hL⟩, _, rfl, l, _, _, rfl, rfl, hL, ?_, ?_⟩
            · rw [List.length_map, List.length_take]
              exact smalls (by omega)
            · have hvp : (ps.map ov)[x]? = some (nv y) := by rw [List.getElem?_map, e0]; rfl
              have nal : a ≠ l := ne_of_none hA2 hl
              refine ⟨_, rfl, _, rfl, a, _, _, _, rfl, rfl, SqT.of (by rw [upd_ne nal]; exact hA3), atI_nat hvp, _, Nat.sub_lt_sub_left hj (Nat.lt_succ_self j), j + 1, y, rfl, e1, rfl, ?_, Same.upd s3 hl⟩
              rw [upd_same, List.take_add_one, hx, List.map_append]
              rfl
      · -- for passed in line: sure[passed] = True
        refine ⟨_, rfl, l, rfl, ⟨_, SqL.of hL⟩, ?_⟩
        refine for_list (K := K) (a := l) (xs := ((up ps h).take j).map nv) (fun i σ H' => ∃ (v6 : Option V) (bs : List Bool), σ = [some (.ref a), some (.ref D), v2, some (nv h), some (.ref l), some (nv x), v6] ∧ L2.Same H H' ∧ H' l = some (.lst (((up ps h).take j).map nv)) ∧ H' D = some (.lst (bs.map V.bl)) ∧ bs.length = ps.length ∧ ∀ h : Nat, ps[h]? = some none → bs[h]? = some true)
          ⟨v6, bs, rfl, s2.trans s3, hL, hd3, hb, hr0⟩ (fun i σ H' _ ⟨_, _, _, _, q, _⟩ => SqL.of q) ?_ ?_
        · rintro i y σ H4 hy ⟨v6, bs, rfl, s4, hL4, hd4, hb4, hr4⟩
          rw [List.getElem?_map] at hy
          cases hy2 : ((up ps h).take j)[i]? with
          | none => rw [hy2] at hy; cases hy
          | some z =>
            rw [hy2] at hy
            have ez : y = nv z := (Option.some.inj hy).symm
            subst ez
            have hzl : z < ps.length := ch.lt z (List.mem_of_mem_take (List.mem_of_getElem? hy2))
            refine ⟨_, rfl, _, rfl, D, _, _, _, rfl, rfl, hd4, ixN_nat (by rw [List.length_map]; omega), ?_⟩
            refine ⟨_, bs.set z true, rfl, Same.upd s4 hD, by rw [upd_ne nDl.symm]; exact hL4, by rw [upd_same, List.map_set], by rw [List.length_set]; exact hb4, fun g e => ?_⟩
            by_cases eg : z = g
            · subst eg
              rw [List.getElem?_set_self (by omega)]
            · rw [List.getElem?_set_ne eg]
              exact hr4 g e
        · rintro σ H4 ⟨v6, bs, rfl, s4, hL4, hd4, hb4, hr4⟩
          exact ⟨_, _, _, _, _, bs, rfl, s4, hd4, hb4, hr4⟩
    · rintro σ H2 ⟨v2, v3, v4, v5, v6, bs, rfl, s2, _⟩
      exact k _ s2

end
end W2
namespace W2
open PySem PySem.Spec PyProof.Rows L2
section
variable {P : Program} {w : World} {K : PySem.W.Frag} {mg : Str → Option Value} {base : Heap} {C fI : Addr}
theorem ok_arepar (D : Def K mg "_are_parents" s_arepar ["thing"]) (T : Txt K mg) (C_ishouse : Cal P w K mg base 2 "is_house" ["many", "thing"] spIsHouse) (C_come : Cal P w K mg base 1 "_come_to_roots" ["parents"] (spCome K)) : Cal P w K mg base 3 "_are_parents" ["thing"] (spAreP K) := by
  obtain ⟨tk, hmost⟩ := T.most
  refine D.cal sc_arepar (fun vs H Q E h => ?_) (fun f cdv A outer s H vs Q E hr h => ?_)
  · obtain ⟨a, ps, rfl, _⟩ := h
    rfl
  · obtain ⟨a, ps, rfl, hA, TR, h1, hz, k⟩ := h
    refine ⟨_, (pss_cons (ps_if (PW.pt (pw_or (pt_not (pt_val (pe_callB (call_isiK1 (K := K) rfl) (by rfl) T.n_isinstance (by decide +kernel) (pa_cons (pv 0) (pa_cons (pe_bltn (v := .ty "tuple") (by rfl) T.n_tuple (by decide +kernel) rfl) pa_nil))))) (pw_or1 (pt_not (pt_chain op_le op_le pe_int (pe_callB (call_lenK (K := K) rfl) (by rfl) T.n_len PySem.boot_len (pa_cons (pv 0) pa_nil)) (pe_glob (v := .int 64) rfl hmost ⟨_, rfl⟩)))))) (pss_one (ps_ret pe_bl)) pss_nil)
      (pss_cons (ps_if (pt_not (pt_val (pe_callB (cr_all rfl) (by rfl) T.n_all (by decide +kernel) (pa_cons (pe_lc (own := [("parent", 1)]) (g := gName 1) (tt := tYes) (by rfl) sc_arepar.nd (pi_tup (pv 0)) (blkOk_by (own := [("parent", 1)]) (N := ["thing", "parent"]) (sc := defScope s_arepar) (by decide +kernel)) (fun _ _ _ _ _ => pg_name (i := 1) sc_arepar.nd rfl (Or.inl rfl)) (fun _ _ _ _ _ => pts_nil) (fun _ _ _ _ _ => (pe_or (pe_cmpR op_isN (pv 1) pe_non (nomark _)) (pe_one (pcal C_ishouse hr (by decide) rfl (pa_cons (pe_callB (call_lenK (K := K) rfl) (by rfl) T.n_len PySem.boot_len (pa_cons (pv 0) pa_nil)) (pa_cons (pv 1) pa_nil))))))) pa_nil)))) (pss_one (ps_ret pe_bl)) pss_nil)
      (pss_one (ps_ret (pcal C_come hr (by decide) rfl (pa_cons (pv 0) pa_nil)))))), ?_⟩
    refine ⟨_, rfl, _, _, _, _, true, rfl, .ty _, .base (.tup hA), kit_ty (by decide +kernel), true, rfl, iteF ?_⟩
    refine ⟨_, rfl, a, _, rfl, .inr (SqT.of hA), _, _, rfl, rfl, _, rfl, ?_⟩
    rw [List.length_map, decide_eq_true (show (1 : Int) ≤ (ps.length : Int) by omega)]
    refine iteT ⟨_, _, rfl, rfl, _, rfl, ?_⟩
    rw [decide_eq_true (show (ps.length : Int) ≤ 64 by omega)]
    refine iteF ?_
    -- all(parent is None or is_house(len(thing), parent) for parent in thing)
    refine ⟨_, rfl, a, rfl, ⟨_, SqT.of hA⟩, fun D hD => ?_⟩
    refine lc_tup (xs := ps.map ov) (fun i H' => L2.Same H H' ∧ H' D = some (.lst ((List.replicate i true).map V.bl))) ⟨same_upd hD, by rw [upd_same]; rfl⟩ (fun i H' _ p => SqT.of (p.1 _ _ hA)) ?_ ?_
    · rintro i x H' hx ⟨sm, hd⟩
      rw [List.getElem?_map] at hx
      cases ho : ps[i]? with
      | none => rw [ho] at hx; cases hx
      | some o =>
        rw [ho] at hx
        have ex : x = ov o := (Option.some.inj hx).symm
        subst ex
        have hi := (List.getElem?_eq_some_iff.mp ho).1
        have fin : ∀ H2, L2.Same H' H2 → ∃ acc, H2 D = some (.lst acc) ∧ acc.length < sizeLine ∧ L2.Same H (L2.upd H2 D (.lst (acc ++ [V.bl true]))) ∧ (L2.upd H2 D (.lst (acc ++ [V.bl true]))) D = some (.lst ((List.replicate (i + 1) true).map V.bl)) := fun H2 s2 =>
          ⟨_, s2 _ _ hd, by rw [List.length_map, List.length_replicate]; exact smalls (by omega), Same.upd (sm.trans s2) hD, by rw [upd_same, List.replicate_succ', List.map_append]; rfl⟩
        refine ⟨rfl, _, rfl, rfl, _, rfl, ?_⟩
        cases o with
        | none => exact iteT (fin _ (L2.Same.refl _))
        | some p =>
          refine iteF ⟨_, rfl, a, _, rfl, .inr (SqT.of (sm _ _ hA)), _, rfl, _, _, rfl, by omega, ?_, fun H2 s2 => fin _ s2⟩
          have hp := (TR i hi).1.par_lt ho
          rw [List.length_map]
          omega
    rintro H1 ⟨s1, hd1⟩
    refine ⟨D, _, rfl, SqL.of hd1, true, ?_, iteF ?_⟩
    · simp
    · exact ⟨_, rfl, a, ps, rfl, s1 _ _ hA, TR, hz, fun H2 s2 => k _ (s1.trans s2)⟩

end
end W2
namespace W2
open PySem PySem.Spec PyProof.Rows L2
section
variable {P : Program} {w : World} {K : PySem.W.Frag} {mg : Str → Option Value} {base : Heap} {C fI : Addr}
theorem ok_arewor (D : Def K mg "_are_worths" s_arewor ["thing", "houses"]) (T : Txt K mg) (C_isint : Cal P w K mg base 1 "is_integer" ["thing"] spIsInt) : Cal P w K mg base 2 "_are_worths" ["thing", "houses"] (spAreW K) := by
  refine D.cal sc_arewor (fun vs H Q E h => ?_) (fun f cdv A outer s H vs Q E hr h => ?_)
  · obtain ⟨a, ws, rfl, _⟩ := h
    rfl
  · obtain ⟨a, ws, rfl, hA, hz, k⟩ := h
    refine ⟨_, (pss_cons (ps_if (PW.pt (pw_or (pt_not (pt_val (pe_callB (call_isiK1 (K := K) rfl) (by rfl) T.n_isinstance (by decide +kernel) (pa_cons (pv 0) (pa_cons (pe_bltn (v := .ty "tuple") (by rfl) T.n_tuple (by decide +kernel) rfl) pa_nil))))) (pw_or1 (pt_cmpR op_ne (pe_callB (call_lenK (K := K) rfl) (by rfl) T.n_len PySem.boot_len (pa_cons (pv 0) pa_nil)) (pv 1) (nomark _))))) (pss_one (ps_ret pe_bl)) pss_nil)
      (pss_one (ps_ret (pe_callB (cr_all rfl) (by rfl) T.n_all (by decide +kernel) (pa_cons (pe_lc (own := [("worth", 2)]) (g := gName 2) (tt := tYes) (by rfl) sc_arewor.nd (pi_tup (pv 0)) (blkOk_by (own := [("worth", 2)]) (N := ["thing", "houses", "worth"]) (sc := defScope s_arewor) (by decide +kernel)) (fun _ _ _ _ _ => pg_name (i := 2) sc_arewor.nd rfl (Or.inl rfl)) (fun _ _ _ _ _ => pts_nil) (fun _ _ _ _ _ => (pcal C_isint hr (by decide) rfl (pa_cons (pv 2) pa_nil)))) pa_nil))))), ?_⟩
    refine ⟨_, rfl, _, _, _, _, true, rfl, .ty _, .base (.tup hA), kit_ty (by decide +kernel), true, rfl, iteF ?_⟩
    refine ⟨_, rfl, a, _, rfl, .inr (SqT.of hA), _, rfl, rfl, _, rfl, ?_⟩
    rw [List.length_map, decide_eq_true rfl]
    refine iteF ?_
    refine ⟨_, rfl, a, rfl, ⟨_, SqT.of hA⟩, fun D hD => ?_⟩
    refine lc_tup (xs := ws.map V.int) (fun i H' => L2.Same H H' ∧ H' D = some (.lst ((List.replicate i true).map V.bl))) ⟨same_upd hD, by rw [upd_same]; rfl⟩ (fun i H' _ p => SqT.of (p.1 _ _ hA)) ?_ ?_
    · rintro i x H' hx ⟨sm, hd⟩
      rw [List.getElem?_map] at hx
      cases ho : ws[i]? with
      | none => rw [ho] at hx; cases hx
      | some o =>
        rw [ho] at hx
        have ex : x = .int o := (Option.some.inj hx).symm
        subst ex
        have hi := (List.getElem?_eq_some_iff.mp ho).1
        refine ⟨rfl, _, rfl, o, rfl, fun H2 s2 => ⟨_, s2 _ _ hd, by rw [List.length_map, List.length_replicate]; exact smalls (by omega), Same.upd (sm.trans s2) hD, by rw [upd_same, List.replicate_succ', List.map_append]; rfl⟩⟩
    rintro H1 ⟨s1, hd1⟩
    refine ⟨D, _, rfl, SqL.of hd1, ?_⟩
    have e : ((List.replicate (ws.map V.int).length true).all id) = true := by simp
    rw [e]
    exact k _ s1

end
end W2
namespace W2
open PySem PySem.Spec PyProof.Rows L2
section
variable {P : Program} {w : World} {K : PySem.W.Frag} {mg : Str → Option Value} {base : Heap} {C fI : Addr}
theorem ok_init {fI : Addr} {fdI : FuncData} (F : Fun K "__init__" "Forest.__init__" s_init fI fdI) (T : Txt K mg) (FC : ForC K mg C fI) (C_arepar : Cal P w K mg base 3 "_are_parents" ["thing"] (spAreP K)) (C_arewor : Cal P w K mg base 2 "_are_worths" ["thing", "houses"] (spAreW K)) : FnOk P w K mg base CX0 4 fI fdI ["self", "parents", "worths"] (spInit C) := by
  refine F.ok sc_init (fun vs H Q E h => ?_) (fun cdv A outer s H vs Q E hr h => ?_)
  · obtain ⟨x, dx, a, b, ps, ws, rfl, _⟩ := h
    rfl
  · obtain ⟨x, dx, a, b, ps, ws, rfl, hx, ha, hb, TR, h1, hz, hw, k⟩ := h
    refine ⟨_, (pss_cons (ps_if (pt_not (pt_val (pcal C_arepar hr (by decide) rfl (pa_cons (pv 1) pa_nil)))) pss_never pss_nil)
      (pss_cons (ps_if (pt_not (pt_val (pcal C_arewor hr (by decide) rfl (pa_cons (pv 2) (pa_cons (pe_callB (call_lenK (K := K) rfl) (by rfl) T.n_len PySem.boot_len (pa_cons (pv 1) pa_nil)) pa_nil))))) pss_never pss_nil)
      (pss_cons (ps_fld (pv 0) (pv 1) rfl)
      (pss_one (ps_fld (pv 0) (pv 2) rfl))))), ?_⟩
    refine ⟨_, rfl, a, ps, rfl, ha, TR, h1, hz, fun H1 s1 => ⟨true, rfl, iteF ?_⟩⟩
    refine ⟨_, rfl, _, rfl, a, _, rfl, .inr (SqT.of (s1 _ _ ha)), b, ws, by rw [List.length_map, hw]; rfl, s1 _ _ hb, by omega, fun H2 s2 => ⟨true, rfl, iteF ?_⟩⟩
    have s := s1.trans s2
    refine ⟨_, rfl, _, rfl, x, C, dx, _, rfl, s _ _ hx, FC.cl, FC.nP, by decide, ?_⟩
    refine ⟨_, rfl, _, rfl, x, C, dx, _, rfl, upd_same, FC.cl, FC.nW, by show 1 < 1000; decide, ?_⟩
    exact k _ (fun c o n e => by rw [upd_ne n, upd_ne n]; exact s _ _ e) upd_same
end
end W2
namespace W2
open PySem PySem.Spec PyProof.Rows L2
section
variable {P : Program} {w : World} {K : PySem.W.Frag} {mg : Str → Option Value} {base : Heap} {C fI : Addr}
theorem ok_many (D : Def K mg "many" s_many ["forest"]) (T : Txt K mg)  (FC : ForC K mg C fI) : Cal P w K mg base 1 "many" ["forest"] (spMany C) := by
  refine D.cal sc_many (fun vs H Q E h => ?_) (fun f cdv A outer s H vs Q E hr h => ?_)
  · obtain ⟨f, ps, rfl, _⟩ := h
    rfl
  · obtain ⟨f, ps, rfl, ⟨⟨ws, dx, a, b, F⟩, _⟩, k⟩ := h
    refine ⟨_, (pss_one (ps_ret (pe_callB (call_lenK (K := K) rfl) (by rfl) T.n_len PySem.boot_len (pa_cons (pe_fld (pv 0) rfl) pa_nil)))), ?_⟩
    refine ⟨_, rfl, f, C, dx, _, _, rfl, F.o, FC.cl, FC.nP, pf_parents a b, a, _, rfl, .inr (SqT.of F.p), ?_⟩
    rw [List.length_map]
    exact k _ (L2.Same.refl _)

end
end W2
namespace W2
open PySem PySem.Spec PyProof.Rows L2
section
variable {P : Program} {w : World} {K : PySem.W.Frag} {mg : Str → Option Value} {base : Heap} {C fI : Addr}
theorem ok_need (D : Def K mg "_need_house" s_need ["forest", "thing"]) (T : Txt K mg) (C_ishouse : Cal P w K mg base 2 "is_house" ["many", "thing"] spIsHouse) (C_many : Cal P w K mg base 1 "many" ["forest"] (spMany C)) : Cal P w K mg base 3 "_need_house" ["forest", "thing"] (spNeed C) := by
  refine D.cal sc_need (fun vs H Q E h => ?_) (fun f cdv A outer s H vs Q E hr h => ?_)
  · obtain ⟨f, ps, h, rfl, _⟩ := h
    rfl
  · obtain ⟨f, ps, h, rfl, HS, hl, k⟩ := h
    refine ⟨_, (pss_one (ps_if (pt_not (pt_val (pcal C_ishouse hr (by decide) rfl (pa_cons (pcal C_many hr (by decide) rfl (pa_cons (pv 0) pa_nil)) (pa_cons (pv 1) pa_nil))))) pss_never pss_nil)), ?_⟩
    refine ⟨_, rfl, f, ps, rfl, HS, fun H1 s1 => ⟨_, rfl, _, _, rfl, by omega, by omega, fun H2 s2 => ⟨true, rfl, iteF ?_⟩⟩⟩
    exact k _ (s1.trans s2)

end
end W2
namespace W2
open PySem PySem.Spec PyProof.Rows L2
section
variable {P : Program} {w : World} {K : PySem.W.Frag} {mg : Str → Option Value} {base : Heap} {C fI : Addr}
theorem ok_wayup (D : Def K mg "_way_up" s_wayup ["forest", "house"]) (T : Txt K mg) (C_need : Cal P w K mg base 3 "_need_house" ["forest", "thing"] (spNeed C)) (FC : ForC K mg C fI) : Cal P w K mg base 4 "_way_up" ["forest", "house"] (spWayUp C) := by
  refine D.cal sc_wayup (fun vs H Q E h => ?_) (fun f cdv A outer s H vs Q E hr h => ?_)
  · obtain ⟨f, ps, h, rfl, _⟩ := h
    rfl
  · obtain ⟨f, ps, h, rfl, HS, hl, k⟩ := h
    obtain ⟨⟨ws, dx, a, b, F⟩, TR, hz⟩ := id HS
    obtain ⟨ch, cz⟩ := TR h hl
    obtain ⟨rest, eh⟩ := ch.head
    refine ⟨_, (pss_cons (ps_expr (pcal C_need hr (by decide) rfl (pa_cons (pv 0) (pa_cons (pv 1) pa_nil))))
      (pss_cons (ps_set (i := 2) sc_wayup.nd rfl (Or.inl rfl) (pe_lst (pa_cons (pv 1) pa_nil)))
      (pss_cons (ps_while PassesOwn.never (pt_cmpR op_notN (pe_ix (ix_tupK (K := K) rfl) (pe_fld (pv 0) rfl) (pe_ix (ix_listK (K := K) rfl) (pv 2) (pe_un un_neg pe_int) (fun _ _ => rfl)) (fun _ _ => rfl)) pe_non (nomark _)) (pss_one (ps_expr (pe_bm PySem.F.plainAttrs_list PySem.F.slot_list_append PySem.F.type_list_append mt_append (pv 2) (pa_cons (pe_ix (ix_tupK (K := K) rfl) (pe_fld (pv 0) rfl) (pe_ix (ix_listK (K := K) rfl) (pv 2) (pe_un un_neg pe_int) (fun _ _ => rfl)) (fun _ _ => rfl)) pa_nil)))))
      (pss_one (ps_ret (pv 2)))))), ?_⟩
    refine ⟨_, rfl, _, rfl, f, ps, h, rfl, HS, hl, fun H1 s1 => ⟨_, rfl, small (by show 1 ≤ 100000; decide), fun p hp => ?_⟩⟩
    refine ⟨fun m σ H2 => ∃ i, i < (up ps h).length ∧ m = (up ps h).length - i ∧ σ = [some (.ref f), some (nv h), some (.ref p)] ∧ L2.Same H1 H2 ∧ H2 p = some (.lst (((up ps h).take (i + 1)).map nv)),
      ⟨_, 0, by rw [eh]; simp, rfl, rfl, same_upd hp, by rw [upd_same, eh]; rfl⟩, ?_⟩
    rintro m σ H2 ⟨i, hi, rfl, rfl, s2, hL⟩
    have F2 := (F.same s1).same s2
    have hx : (up ps h)[i]? = some (up ps h)[i] := List.getElem?_eq_getElem hi
    generalize (up ps h)[i] = x at hx
    have hlast : (((up ps h).take (i + 1)).map nv).getLast? = some (nv x) := by
      rw [List.getLast?_eq_getElem?, List.length_map, List.length_take, Nat.min_eq_left (by omega), List.getElem?_map, List.getElem?_take, if_pos (by omega), Nat.add_sub_cancel, hx]
      rfl
    have hxl : x < ps.length := ch.lt x (List.mem_of_getElem? hx)
    rcases ch.next hx with ⟨e0, e1⟩ | ⟨y, e0, e1⟩
    · have hv : (ps.map ov)[x]? = some V.non := by rw [List.getElem?_map, e0]; rfl
      refine ⟨_, rfl, f, C, dx, _, _, rfl, F2.o, FC.cl, FC.nP, pf_parents a b, _, rfl, 1, rfl, p, _, _, _, rfl, rfl, SqL.of hL, atI_last hlast, a, _, _, _, rfl, rfl, SqT.of F2.p, atI_nat hv, rfl, _, rfl, iteF ?_⟩
      refine ⟨_, rfl, k _ p (s1.trans s2) (s1.free hp) ?_⟩
      rw [hL, e1, List.take_length]
    · have hv : (ps.map ov)[x]? = some (nv y) := by rw [List.getElem?_map, e0]; rfl
      refine ⟨_, rfl, f, C, dx, _, _, rfl, F2.o, FC.cl, FC.nP, pf_parents a b, _, rfl, 1, rfl, p, _, _, _, rfl, rfl, SqL.of hL, atI_last hlast, a, _, _, _, rfl, rfl, SqT.of F2.p, atI_nat hv, rfl, _, rfl, iteT ?_⟩
      refine ⟨_, fun σ' H' n => n, ?_⟩
      refine ⟨_, rfl, .inl ⟨rfl, _, SqL.of hL⟩, _, rfl, f, C, dx, _, _, rfl, F2.o, FC.cl, FC.nP, pf_parents a b, _, rfl, 1, rfl, p, _, _, _, rfl, rfl, SqL.of hL, atI_last hlast, a, _, _, _, rfl, rfl, SqT.of F2.p, atI_nat hv, p, _, _, rfl, rfl, hL, ?_, ?_⟩
      · rw [List.length_map, List.length_take]
        exact smalls (by omega)
      · refine ⟨_, Nat.sub_lt_sub_left hi (Nat.lt_succ_self i), i + 1, (List.getElem?_eq_some_iff.mp e1).1, rfl, rfl, Same.upd s2 hp, ?_⟩
        rw [upd_same, List.take_add_one (i := i + 1), e1, List.map_append]
        rfl

end
end W2
namespace W2
open PySem PySem.Spec PyProof.Rows L2
section
variable {P : Program} {w : World} {K : PySem.W.Frag} {mg : Str → Option Value} {base : Heap} {C fI : Addr}
theorem ok_root (D : Def K mg "root" s_root ["forest", "house"]) (T : Txt K mg) (C_wayup : Cal P w K mg base 4 "_way_up" ["forest", "house"] (spWayUp C)) : Cal P w K mg base 5 "root" ["forest", "house"] (spRoot C) := by
  refine D.cal sc_root (fun vs H Q E h => ?_) (fun f cdv A outer s H vs Q E hr h => ?_)
  · obtain ⟨f, ps, h, rfl, _⟩ := h
    rfl
  · obtain ⟨f, ps, h, rfl, HS, hl, k⟩ := h
    refine ⟨_, (pss_one (ps_ret (pe_ix (ix_listK (K := K) rfl) (pcal C_wayup hr (by decide) rfl (pa_cons (pv 0) (pa_cons (pv 1) pa_nil))) (pe_un un_neg pe_int) (fun _ _ => rfl)))), ?_⟩
    refine ⟨_, rfl, _, rfl, f, ps, h, rfl, HS, hl, fun H1 p s1 hp hL => ⟨1, rfl, p, _, _, _, rfl, rfl, SqL.of hL, atI_last ?_, k _ s1⟩⟩
    obtain ⟨r, e1, _⟩ := (HS.2.1 h hl).1.last
    rw [List.getLast?_map, e1]
    show some (nv r) = some (nv (rt ps h))
    unfold rt
    rw [List.getLastD_eq_getLast?, e1]
    rfl

end
end W2
namespace W2
open PySem PySem.Spec PyProof.Rows L2
section
variable {P : Program} {w : World} {K : PySem.W.Frag} {mg : Str → Option Value} {base : Heap} {C fI : Addr}
theorem ok_depth (D : Def K mg "depth" s_depth ["forest", "house"]) (T : Txt K mg) (C_wayup : Cal P w K mg base 4 "_way_up" ["forest", "house"] (spWayUp C)) : Cal P w K mg base 5 "depth" ["forest", "house"] (spDepth C) := by
  refine D.cal sc_depth (fun vs H Q E h => ?_) (fun f cdv A outer s H vs Q E hr h => ?_)
  · obtain ⟨f, ps, h, rfl, _⟩ := h
    rfl
  · obtain ⟨f, ps, h, rfl, HS, hl, k⟩ := h
    refine ⟨_, (pss_one (ps_ret (pe_op op_sub (pe_callB (call_lenK (K := K) rfl) (by rfl) T.n_len PySem.boot_len (pa_cons (pcal C_wayup hr (by decide) rfl (pa_cons (pv 0) (pa_cons (pv 1) pa_nil))) pa_nil)) pe_int))), ?_⟩
    refine ⟨_, rfl, _, rfl, f, ps, h, rfl, HS, hl, fun H1 p s1 hp hL => ⟨p, _, rfl, .inl (SqL.of hL), _, _, rfl, rfl, ?_⟩⟩
    rw [List.length_map]
    exact k _ s1

end
end W2
namespace W2
open PySem PySem.Spec PyProof.Rows L2
section
variable {P : Program} {w : World} {K : PySem.W.Frag} {mg : Str → Option Value} {base : Heap} {C fI : Addr}
theorem ok_below (D : Def K mg "below" s_below ["forest", "house"]) (T : Txt K mg) (C_need : Cal P w K mg base 3 "_need_house" ["forest", "thing"] (spNeed C)) (C_many : Cal P w K mg base 1 "many" ["forest"] (spMany C)) (C_wayup : Cal P w K mg base 4 "_way_up" ["forest", "house"] (spWayUp C)) : Cal P w K mg base 5 "below" ["forest", "house"] (spBelow C) := by
  refine D.cal sc_below (fun vs H Q E h => ?_) (fun f cdv A outer s H vs Q E hr h => ?_)
  · obtain ⟨f, ps, h, rfl, _⟩ := h
    rfl
  · obtain ⟨f, ps, h, rfl, HS, hl, k⟩ := h
    refine ⟨_, (pss_cons (ps_expr (pcal C_need hr (by decide) rfl (pa_cons (pv 0) (pa_cons (pv 1) pa_nil))))
      (pss_one (ps_ret (pe_callTy call_tuple_of (by rfl) T.n_tuple (by decide +kernel) (pa_cons (pe_lc (own := [("start", 2)]) (g := gName 2) (by rfl) sc_below.nd (pi_range1 rfl T.n_range (pa_cons (pcal C_many hr (by decide) rfl (pa_cons (pv 0) pa_nil)) pa_nil)) (blkOk_by (own := [("start", 2)]) (N := ["forest", "house", "start"]) (sc := defScope s_below) (by decide +kernel)) (fun _ _ _ _ _ => pg_name (i := 2) sc_below.nd rfl (Or.inl rfl)) (fun _ _ _ _ _ => pts_one (pt_cmpR (op_inK (K := K) rfl) (pv 1) (pcal C_wayup hr (by decide) rfl (pa_cons (pv 0) (pa_cons (pv 2) pa_nil))) (by rfl))) (fun _ _ _ _ _ => (pv 2))) pa_nil))))), ?_⟩
    refine ⟨_, rfl, _, rfl, f, ps, h, rfl, HS, hl, fun H1 s1 => ?_⟩
    have hz := HS.2.2
    refine ⟨_, rfl, f, ps, rfl, HS.same s1, fun H2 s2 => ⟨_, rfl, by omega, by omega, fun D hD => ?_⟩⟩
    rw [Int.toNat_natCast]
    refine lc_range (lo := 0) (n := ps.length) (fun i H' => L2.Same H2 H' ∧ H' D = some (.lst (((List.range i).filter fun s => decide (h ∈ up ps s)).map nv))) ⟨same_upd hD, by rw [upd_same]; rfl⟩ ?_ ?_
    · rintro i H3 hi ⟨s3, hd⟩
      rw [Int.zero_add]
      have lenb : (((List.range i).filter fun s => decide (h ∈ up ps s)).map nv).length ≤ i := by
        rw [List.length_map]
        exact Nat.le_trans (List.length_filter_le _ _) (by rw [List.length_range]; exact Nat.le_refl _)
      refine ⟨rfl, _, rfl, _, rfl, _, rfl, f, ps, i, rfl, ((HS.same s1).same s2).same s3, hi, fun H4 q s4 hq hL => ⟨q, _, rfl, .inl (SqL.of hL), rfl, flat_nv _, _, rfl, ?_⟩⟩
      show if (inV (nv h) ((up ps i).map nv)) = true then _ else _
      rw [inV_nv]
      refine iteB (fun e => ?_) (fun e => ?_)
      · refine ⟨_, rfl, _, s4 _ _ hd, smalls (by omega), Same.upd (s3.trans s4) hD, ?_⟩
        rw [upd_same, List.range_succ, List.filter_append, List.filter_cons, if_pos e, List.map_append]
        rfl
      · refine ⟨s3.trans s4, ?_⟩
        rw [s4 _ _ hd, List.range_succ, List.filter_append, List.filter_cons, if_neg (by rw [e]; decide), List.map_append]
        simp
    · rintro H3 ⟨s3, hd⟩
      refine ⟨D, _, rfl, .inl ⟨SqL.of hd, fun t ht => ?_⟩⟩
      exact k _ t (((s1.trans s2).trans s3).trans (same_upd ht)) (((s1.trans s2).trans s3).free ht) upd_same

end
end W2
namespace W2
open PySem PySem.Spec PyProof.Rows L2
section
variable {P : Program} {w : World} {K : PySem.W.Frag} {mg : Str → Option Value} {base : Heap} {C fI : Addr}
theorem ok_common (D : Def K mg "common" s_common ["forest", "one", "other"]) (T : Txt K mg) (C_wayup : Cal P w K mg base 4 "_way_up" ["forest", "house"] (spWayUp C)) : Cal P w K mg base 5 "common" ["forest", "one", "other"] (spCommon C) := by
  refine D.cal sc_common (fun vs H Q E h => ?_) (fun f cdv A outer s H vs Q E hr h => ?_)
  · obtain ⟨f, ps, h, g, rfl, _⟩ := h
    rfl
  · obtain ⟨f, ps, h, g, rfl, HS, hl, gl, k⟩ := h
    refine ⟨_, (pss_cons (ps_set (i := 3) sc_common.nd rfl (Or.inl rfl) (pcal C_wayup hr (by decide) rfl (pa_cons (pv 0) (pa_cons (pv 1) pa_nil))))
      (pss_cons (ps_for PassesOwn.never rfl (pi_list (pcal C_wayup hr (by decide) rfl (pa_cons (pv 0) (pa_cons (pv 2) pa_nil)))) (pg_name (i := 4) sc_common.nd rfl (Or.inl rfl)) (pss_one (ps_if (pt_cmpR (op_inK (K := K) rfl) (pv 4) (pv 3) (by rfl)) (pss_one (ps_ret (pv 4))) pss_nil)))
      (pss_one (ps_ret pe_non)))), ?_⟩
    have ch := HS.2.1 h hl
    have cg := HS.2.1 g gl
    refine ⟨_, rfl, _, rfl, f, ps, h, rfl, HS, hl, fun H1 p s1 hp hL => ?_⟩
    refine ⟨_, rfl, _, rfl, f, ps, g, rfl, HS.same s1, gl, fun H2 q s2 hq hL2 => ⟨q, rfl, ⟨_, SqL.of hL2⟩, ?_⟩⟩
    have hL1 := s2 _ _ hL
    refine for_list (K := K) (a := q) (xs := (up ps g).map nv) (fun i σ H' => ∃ v4 : Option V, σ = [some (.ref f), some (nv h), some (nv g), some (.ref p), v4] ∧ L2.Same H2 H' ∧ ∀ (j y : Nat), j < i → (up ps g)[j]? = some y → y ∉ up ps h)
      ⟨none, rfl, L2.Same.refl _, fun j y hj => by omega⟩ (fun i σ H' _ ⟨_, _, sm, _⟩ => SqL.of (sm _ _ hL2)) ?_ ?_
    · rintro i x σ H3 hx ⟨v4, rfl, s3, hn⟩
      rw [List.getElem?_map] at hx
      cases hy : (up ps g)[i]? with
      | none => rw [hy] at hx; cases hx
      | some y =>
        rw [hy] at hx
        have ez : x = nv y := (Option.some.inj hx).symm
        subst ez
        refine ⟨_, rfl, _, rfl, p, _, rfl, .inl (SqL.of (s3 _ _ hL1)), rfl, flat_nv _, _, rfl, ?_⟩
        show if (inV (nv y) ((up ps h).map nv)) = true then _ else _
        rw [inV_nv]
        refine iteB (fun e => ?_) (fun e => ?_)
        · refine ⟨_, rfl, ?_⟩
          have r := k _ ((s1.trans s2).trans s3)
          rw [fnd_comm ch.1 cg.1, fnd_some hy (of_decide_eq_true e) hn] at r
          exact r
        · refine ⟨_, rfl, s3, fun j z hj hz => ?_⟩
          by_cases ej : j = i
          · subst ej
            rw [hy] at hz
            cases hz
            exact of_decide_eq_false e
          · exact hn j z (by omega) hz
    · rintro σ H3 ⟨v4, rfl, s3, hn⟩
      have r := k _ ((s1.trans s2).trans s3)
      rw [fnd_comm ch.1 cg.1, fnd_none (fun j y hy => hn j y (by rw [List.length_map]; exact (List.getElem?_eq_some_iff.mp hy).1) hy)] at r
      exact r

end
end W2
namespace W2
open PySem PySem.Spec PyProof.Rows L2
section
variable {P : Program} {w : World} {K : PySem.W.Frag} {mg : Str → Option Value} {base : Heap} {C fI : Addr}
theorem ok_way (D : Def K mg "way" s_way ["forest", "one", "other"]) (T : Txt K mg) (C_common : Cal P w K mg base 5 "common" ["forest", "one", "other"] (spCommon C)) (C_wayup : Cal P w K mg base 4 "_way_up" ["forest", "house"] (spWayUp C)) : Cal P w K mg base 6 "way" ["forest", "one", "other"] (spWay C) := by
  refine D.cal sc_way (fun vs H Q E h => ?_) (fun f cdv A outer s H vs Q E hr h => ?_)
  · obtain ⟨f, ps, h, g, rfl, _⟩ := h
    rfl
  · obtain ⟨f, ps, h, g, rfl, HS, hl, gl, k0, k1⟩ := h
    refine ⟨_, (pss_cons (ps_set (i := 3) sc_way.nd rfl (Or.inl rfl) (pcal C_common hr (by decide) rfl (pa_cons (pv 0) (pa_cons (pv 1) (pa_cons (pv 2) pa_nil)))))
      (pss_cons (ps_if (pt_cmpR op_isN (pv 3) pe_non (nomark _)) (pss_one (ps_ret pe_non)) pss_nil)
      (pss_cons (ps_set (i := 4) sc_way.nd rfl (Or.inl rfl) (pcal C_wayup hr (by decide) rfl (pa_cons (pv 0) (pa_cons (pv 1) pa_nil))))
      (pss_cons (ps_set (i := 5) sc_way.nd rfl (Or.inl rfl) (pcal C_wayup hr (by decide) rfl (pa_cons (pv 0) (pa_cons (pv 2) pa_nil))))
      (pss_cons (ps_set (i := 4) sc_way.nd rfl (Or.inl rfl) (pe_slice sl_list (pv 4) po_none (po_some (pe_bm PySem.F.plainAttrs_list PySem.F.slot_list_index PySem.F.type_list_index mt_index (pv 4) (pa_cons (pv 3) pa_nil)))))
      (pss_cons (ps_set (i := 5) sc_way.nd rfl (Or.inl rfl) (pe_slice sl_list (pv 5) po_none (po_some (pe_bm PySem.F.plainAttrs_list PySem.F.slot_list_index PySem.F.type_list_index mt_index (pv 5) (pa_cons (pv 3) pa_nil)))))
      (pss_one (ps_ret (pe_callTy call_tuple_of (by rfl) T.n_tuple (by decide +kernel) (pa_cons (pe_op op_cat (pe_op op_cat (pv 4) (pe_lst (pa_cons (pv 3) pa_nil))) (pe_revL (pv 5))) pa_nil)))))))))), ?_⟩
    have ch := HS.2.1 h hl
    have cg := HS.2.1 g gl
    have hz := HS.2.2
    refine ⟨_, rfl, _, rfl, _, rfl, f, ps, h, g, rfl, HS, hl, gl, fun H1 s1 => ?_⟩
    cases e : fnd (up ps h) (up ps g) with
    | none =>
      refine ⟨_, rfl, rfl, _, rfl, iteT ?_⟩
      exact k0 e _ s1
    | some x =>
      obtain ⟨xm, pre, post, e1, _⟩ := fnd_split e
      have xl : x ∈ up ps h := by rw [e1]; simp
      have il : (up ps h).idxOf x < (up ps h).length := List.idxOf_lt_length_of_mem xl
      have im : (up ps g).idxOf x < (up ps g).length := List.idxOf_lt_length_of_mem xm
      refine ⟨_, rfl, rfl, _, rfl, iteF ?_⟩
      have HS1 := HS.same s1
      -- rise, fall
      refine ⟨_, rfl, _, rfl, f, ps, h, rfl, HS1, hl, fun H2 r s2 hr hR => ?_⟩
      refine ⟨_, rfl, _, rfl, f, ps, g, rfl, HS1.same s2, gl, fun H3 q s3 hq hF => ?_⟩
      have hR3 := s3 _ _ hR
      -- rise = rise[:rise.index(meeting)]
      refine ⟨_, rfl, _, rfl, .inl ⟨rfl, _, SqL.of hR3⟩, _, rfl, r, _, _, (up ps h).idxOf x, _, rfl, rfl, SqL.of hR3, rfl, flat_nv _, idx_at xl, eqV_self x, idx_no, _, rfl, r, _, rfl, SqL.of hR3, fun a ha => ?_⟩
      rw [cut_to _ _ (by rw [List.length_map]; omega)]
      have s4 : L2.Same H3 (L2.upd H3 a (.lst (((up ps h).map nv).take ((up ps h).idxOf x)))) := same_upd ha
      -- fall = fall[:fall.index(meeting)]
      refine ⟨_, rfl, _, rfl, .inl ⟨rfl, _, SqL.of (s4 _ _ hF)⟩, _, rfl, q, _, _, (up ps g).idxOf x, _, rfl, rfl, SqL.of (s4 _ _ hF), rfl, flat_nv _, idx_at xm, eqV_self x, idx_no, _, rfl, q, _, rfl, SqL.of (s4 _ _ hF), fun b hb => ?_⟩
      rw [cut_to _ _ (by rw [List.length_map]; omega)]
      have s5 := s4.trans (same_upd (o := .lst (((up ps g).map nv).take ((up ps g).idxOf x))) hb)
      -- tuple(rise + [meeting] + fall[::-1])
      refine ⟨_, rfl, _, rfl, small (by show 1 ≤ 100000; decide), fun m hm => ?_⟩
      have s6 := s5.trans (same_upd (o := .lst [nv x]) hm)
      have nbm : b ≠ m := fun z => by subst z; rw [upd_same] at hm; cases hm
      have nam : a ≠ m := fun z => by
        subst z
        rw [(same_upd (o := .lst (((up ps g).map nv).take ((up ps g).idxOf x))) hb) _ _ upd_same] at hm
        cases hm
      have nab : a ≠ b := fun z => by subst z; rw [upd_same] at hb; cases hb
      refine ⟨a, m, _, _, rfl, rfl, by rw [upd_ne nam, upd_ne nab, upd_same], upd_same, ?_, fun p hp => ?_⟩
      · rw [List.length_take, List.length_map]
        exact small (by show _ + 1 ≤ _; omega)
      · have s7 := s6.trans (same_upd (o := .lst (((up ps h).map nv).take ((up ps h).idxOf x) ++ [nv x])) hp)
        refine ⟨_, rfl, b, _, rfl, SqL.of ((same_upd hp) _ _ ((same_upd hm) _ _ upd_same)), fun v hv => ?_⟩
        have s8 := s7.trans (same_upd (o := .lst (((up ps g).map nv).take ((up ps g).idxOf x)).reverse) hv)
        have npv : p ≠ v := fun z => by subst z; rw [upd_same] at hv; cases hv
        refine ⟨p, v, _, _, rfl, rfl, by rw [upd_ne npv, upd_same], upd_same, ?_, fun w hw => ?_⟩
        · rw [List.length_append, List.length_reverse, List.length_take, List.length_take, List.length_map, List.length_map]
          exact small (by show _ + 1 + _ ≤ _; omega)
        · have s9 := s8.trans (same_upd (o := .lst ((((up ps h).map nv).take ((up ps h).idxOf x) ++ [nv x]) ++ (((up ps g).map nv).take ((up ps g).idxOf x)).reverse)) hw)
          refine ⟨w, _, rfl, .inl ⟨SqL.of upd_same, fun t ht => ?_⟩⟩
          have sA := (((s1.trans s2).trans s3).trans s9)
          refine k1 x e _ t (sA.trans (same_upd ht)) (sA.free ht) ?_
          rw [upd_same]
          unfold wayOf
          rw [List.map_append, List.map_append, List.map_take, List.map_reverse, List.map_take]
          rfl

end
end W2
namespace W2
open PySem PySem.Spec PyProof.Rows L2
section
variable {P : Program} {w : World} {K : PySem.W.Frag} {mg : Str → Option Value} {base : Heap} {C fI : Addr}
theorem ok_lhand (D : Def K mg "_law_hand" s_lhand ["_law_script"]) (T : Txt K mg)  : Cal P w K mg base 1 "_law_hand" ["_law_script"] (spHand K) := by
  refine D.cal sc_lhand (fun vs H Q E h => ?_) (fun f cdv A outer s H vs Q E hr h => ?_)
  · obtain ⟨s0, ns, rfl, _⟩ := h
    rfl
  · obtain ⟨s0, ns, rfl, hS, k⟩ := h
    refine ⟨_, (pss_one (ps_ret (pe_lst (pa_cons (pe_callTy call_list_of (by rfl) T.n_list (by decide +kernel) (pa_cons (pv 0) pa_nil)) (pa_cons pe_int (pa_cons pe_int (pa_cons pe_int (pa_cons pe_int pa_nil)))))))), ?_⟩
    refine ⟨_, rfl, s0, _, rfl, .inl hS, fun l hl => ⟨small (by show 5 ≤ 100000; decide), fun p hp => ?_⟩⟩
    have npl : p ≠ l := fun z => by rw [z, upd_same] at hp; cases hp
    refine k _ p l ((same_upd hl).trans (same_upd hp)) ((same_upd hl).free hp) ⟨ns, 0, 0, 1, 0, upd_same, by rw [upd_ne npl.symm, upd_same], by decide, by decide, by decide, by decide⟩

end
end W2
namespace W2
open PySem PySem.Spec PyProof.Rows L2
section
variable {P : Program} {w : World} {K : PySem.W.Frag} {mg : Str → Option Value} {base : Heap} {C fI : Addr}
theorem ok_take (D : Def K mg "_law_take" s_take ["_law_hand_here", "_law_size"]) (T : Txt K mg)  : Cal P w K mg base 1 "_law_take" ["_law_hand_here", "_law_size"] spTake := by
  refine D.cal sc_take (fun vs H Q E h => ?_) (fun f cdv A outer s H vs Q E hr h => ?_)
  · obtain ⟨h, l, n, rfl, _⟩ := h
    rfl
  · obtain ⟨h, l, n, rfl, HH, n0, n1, k⟩ := h
    refine ⟨_, (pss_cons (ps_asg (pe_op op_add (pe_ix (ix_listK (K := K) rfl) (pv 0) pe_int (fun _ _ => rfl)) pe_int) (pg_sub (pv 0) pe_int set_list))
      (C8.pss_cut (ps_if (PW.pt (pw_and (pt_cmpR op_eq (pe_ix (ix_listK (K := K) rfl) (pv 0) pe_int (fun _ _ => rfl)) pe_int (nomark _)) (pw_and1 (pt_cmpR op_lt (pe_ix (ix_listK (K := K) rfl) (pv 0) pe_int (fun _ _ => rfl)) (pe_callB (call_lenK (K := K) rfl) (by rfl) T.n_len PySem.boot_len (pa_cons (pe_ix (ix_listK (K := K) rfl) (pv 0) pe_int (fun _ _ => rfl)) pa_nil)) (nomark _))))) (pss_cons (ps_set (i := 2) sc_take.nd rfl (Or.inl rfl) (pe_callTy call_int1 (by rfl) T.n_int (by decide +kernel) (pa_cons (pe_ix (ix_listK (K := K) rfl) (pe_ix (ix_listK (K := K) rfl) (pv 0) pe_int (fun _ _ => rfl)) (pe_ix (ix_listK (K := K) rfl) (pv 0) pe_int (fun _ _ => rfl)) (fun _ _ => rfl)) pa_nil)))
      (pss_cons (ps_asg (pe_op op_add (pe_ix (ix_listK (K := K) rfl) (pv 0) pe_int (fun _ _ => rfl)) pe_int) (pg_sub (pv 0) pe_int set_list))
      (pss_one (ps_if (pt_cmpR op_ge (pv 2) (pe_op op_pow pe_int pe_int) (nomark _)) (pss_one (ps_asg (pv 2) (pg_sub (pv 0) pe_int set_list))) (pss_one (ps_asg (pe_op op_mod (pe_callTy call_int1 (by rfl) T.n_int (by decide +kernel) (pa_cons (pe_op op_add (pe_op op_add (pe_op op_mul (pe_ix (ix_listK (K := K) rfl) (pv 0) pe_int (fun _ _ => rfl)) pe_int) (pe_op op_mod (pe_callTy call_int1 (by rfl) T.n_int (by decide +kernel) (pa_cons (pv 2) pa_nil)) pe_int)) pe_int) pa_nil)) pe_int) (pg_sub (pv 0) pe_int set_list))))))) pss_nil)
      (pss_cons (ps_if (pt_cmpR op_gt (pe_ix (ix_listK (K := K) rfl) (pv 0) pe_int (fun _ _ => rfl)) pe_int (nomark _)) (pss_cons (ps_set (i := 3) sc_take.nd rfl (Or.inl rfl) (pe_op op_mod (pe_callTy call_int1 (by rfl) T.n_int (by decide +kernel) (pa_cons (pe_ix (ix_listK (K := K) rfl) (pv 0) pe_int (fun _ _ => rfl)) pa_nil)) (pv 1)))
      (pss_cons (ps_asg (pe_op op_fdivW (pe_callTy call_int1 (by rfl) T.n_int (by decide +kernel) (pa_cons (pe_ix (ix_listK (K := K) rfl) (pv 0) pe_int (fun _ _ => rfl)) pa_nil)) (pv 1)) (pg_sub (pv 0) pe_int set_list))
      (pss_one (ps_ret (pv 3))))) pss_nil)
      (pss_cons (ps_asg (pe_op op_mod (pe_callTy call_int1 (by rfl) T.n_int (by decide +kernel) (pa_cons (pe_op op_add (pe_op op_mul (pe_ix (ix_listK (K := K) rfl) (pv 0) pe_int (fun _ _ => rfl)) pe_int) (pe_op op_mul pe_int (pe_ix (ix_listK (K := K) rfl) (pv 0) pe_int (fun _ _ => rfl)))) pa_nil)) pe_int) (pg_sub (pv 0) pe_int set_list))
      (pss_cons (ps_set (i := 4) sc_take.nd rfl (Or.inl rfl) (pe_op op_mod (pe_callTy call_int1 (by rfl) T.n_int (by decide +kernel) (pa_cons (pe_op op_mul (pe_ix (ix_listK (K := K) rfl) (pv 0) pe_int (fun _ _ => rfl)) (pe_op op_add (pe_op op_fdivW (pe_ix (ix_listK (K := K) rfl) (pv 0) pe_int (fun _ _ => rfl)) pe_int) pe_int)) pa_nil)) pe_int))
      (pss_cons (ps_set (i := 4) sc_take.nd rfl (Or.inl rfl) (pe_op op_mod (pe_callTy call_int1 (by rfl) T.n_int (by decide +kernel) (pa_cons (pe_op op_mul (pv 4) (pe_op op_add (pe_op op_fdivW (pv 4) pe_int) pe_int)) pa_nil)) pe_int))
      (pss_one (ps_ret (pe_op op_mod (pe_callTy call_int1 (by rfl) T.n_int (by decide +kernel) (pa_cons (pe_op op_fdivW (pv 4) pe_int) pa_nil)) (pv 1)))))))))), ?_⟩
    obtain ⟨ns, i, b, sd, c, X⟩ := HH
    have hO := X.o
    have nl : l ≠ h := by
      intro z
      subst z
      have e := hO.symm.trans X.n
      cases ns with
      | nil => cases e
      | cons z r => cases e
    have i0 := X.i0
    have b0 := X.b0
    have s0 := X.s0
    have s1 := X.s1
    -- hand[4] = hand[4] + 1
    refine ⟨_, rfl, h, _, _, _, rfl, rfl, SqL.of hO, rfl, _, _, rfl, rfl, _, rfl, h, _, _, _, rfl, rfl, hO, rfl, ?_⟩
    generalize hH1 : L2.upd H h _ = H1
    have t1 : Bt h H H1 := by rw [← hH1]; exact (Bt.refl h H).upd
    have hO1 : H1 h = some (.lst [.ref l, .int i, .int b, .int sd, .int (c + 1)]) := by rw [← hH1]; exact upd_same
    have hn1 : H1 l = some (.lst (ns.map V.int)) := t1 _ _ nl X.n
    generalize c + 1 = c1 at hO1
    -- the first if
    refine ⟨fun σ H' => ∃ (v2 : Option V) (j : Int) (b' s' : Int), σ = [some (.ref h), some (.int n), v2, none, none] ∧ Bt h H H' ∧ HandAt H' h l ns j b' s' c1, ?_, ?_⟩
    · refine ⟨_, rfl, h, _, _, _, rfl, rfl, SqL.of hO1, rfl, rfl, _, rfl, ?_⟩
      refine iteB (fun _ => ?_) (fun _ => ⟨_, _, _, _, rfl, t1, hO1, hn1, i0, b0, s0, s1⟩)
      refine ⟨_, rfl, h, _, _, _, rfl, rfl, SqL.of hO1, rfl, _, rfl, h, _, _, _, rfl, rfl, SqL.of hO1, rfl, l, _, rfl, .inl (SqL.of hn1), _, _, rfl, rfl, _, rfl, ?_⟩
      refine iteB (fun lt => ?_) (fun _ => ⟨_, _, _, _, rfl, t1, hO1, hn1, i0, b0, s0, s1⟩)
      have lt' : i < ((ns.map V.int).length : Int) := of_decide_eq_true lt
      rw [List.length_map] at lt'
      have hj : i.toNat < ns.length := by omega
      have hz : (ns.map V.int)[i.toNat]? = some (.int ns[i.toNat]) := by rw [List.getElem?_map, List.getElem?_eq_getElem hj]; rfl
      generalize ns[i.toNat] = z at hz
      have hat : atI (ns.map V.int) i = some (.int z) := at_of (by omega) hz
      -- cell = int(hand[0][hand[1]])
      refine ⟨_, rfl, h, _, _, _, rfl, rfl, SqL.of hO1, rfl, _, rfl, h, _, _, _, rfl, rfl, SqL.of hO1, rfl, l, _, _, _, rfl, rfl, SqL.of hn1, hat, .inl ⟨z, rfl, ?_⟩⟩
      -- hand[1] = hand[1] + 1
      refine ⟨_, rfl, h, _, _, _, rfl, rfl, SqL.of hO1, rfl, _, _, rfl, rfl, _, rfl, h, _, _, _, rfl, rfl, hO1, rfl, ?_⟩
      generalize hH2 : L2.upd H1 h _ = H2
      have t2 : Bt h H H2 := by rw [← hH2]; exact t1.upd
      have hO2 : H2 h = some (.lst [.ref l, .int (i + 1), .int b, .int sd, .int c1]) := by rw [← hH2]; exact upd_same
      have hn2 : H2 l = some (.lst (ns.map V.int)) := t2 _ _ nl X.n
      -- if cell >= 10 ** 18
      refine ⟨_, rfl, 10, 18, rfl, rfl, ⟨by decide, by decide, by decide⟩, _, _, rfl, rfl, _, rfl, ?_⟩
      refine iteB (fun ge => ?_) (fun _ => ?_)
      · have ge' : (10 : Int) ^ (18 : Int).toNat ≤ z := of_decide_eq_true ge
        have z0 : 0 ≤ z := Int.le_trans (by decide) ge'
        refine ⟨_, rfl, _, rfl, h, _, _, _, rfl, rfl, hO2, rfl, ?_⟩
        exact ⟨_, i + 1, z, sd, rfl, t2.upd, upd_same, by rw [upd_ne nl]; exact hn2, by omega, z0, s0, s1⟩
      · refine ⟨_, rfl, h, _, _, _, rfl, rfl, SqL.of hO2, rfl, _, _, rfl, rfl, .inl ⟨by omega, by omega⟩, _, rfl, .inl ⟨_, rfl, _, _, rfl, rfl, M31, _, _, rfl, rfl, _, _, rfl, rfl, .inl ⟨_, rfl, _, _, rfl, rfl, M31, _, rfl, h, _, _, _, rfl, rfl, hO2, rfl, ?_⟩⟩⟩
        exact ⟨_, i + 1, b, _, rfl, t2.upd, upd_same, by rw [upd_ne nl]; exact hn2, by omega, b0, Int.emod_nonneg _ (by decide), Int.emod_lt_of_pos _ (by decide)⟩
    · rintro σ H2 ⟨v2, j, b', s', rfl, t2, Y⟩
      have hO2 := Y.o
      -- if hand[2] > 0
      refine ⟨_, rfl, h, _, _, _, rfl, rfl, SqL.of hO2, rfl, _, _, rfl, rfl, _, rfl, ?_⟩
      refine iteB (fun _ => ?_) (fun _ => ?_)
      · refine ⟨_, rfl, h, _, _, _, rfl, rfl, SqL.of hO2, rfl, .inl ⟨_, rfl, _, rfl, _, _, rfl, rfl, n0, ?_⟩⟩
        refine ⟨_, rfl, h, _, _, _, rfl, rfl, SqL.of hO2, rfl, .inl ⟨_, rfl, _, rfl, _, _, rfl, rfl, wide_div n0 (b := 30) (by omega) (by decide) (by decide), _, rfl, h, _, _, _, rfl, rfl, hO2, rfl, ?_⟩⟩
        refine ⟨_, rfl, k _ _ t2.upd ⟨ns, j, b' / n, s', c1, upd_same, by rw [upd_ne nl]; exact Y.n, Y.i0, Int.ediv_nonneg Y.b0 (by omega), Y.s0, Y.s1⟩ (Int.emod_nonneg _ (by omega)) (Int.emod_lt_of_pos _ n0)⟩
      · have s0 := Y.s0
        have s1 := Y.s1
        -- hand[3] = int(hand[3] * 69621 + 7919 * hand[4]) % 2147483647
        refine ⟨_, rfl, h, _, _, _, rfl, rfl, SqL.of hO2, rfl, _, _, rfl, rfl, .inl ⟨by omega, by omega⟩, _, rfl, h, _, _, _, rfl, rfl, SqL.of hO2, rfl, _, _, rfl, rfl, .inl ⟨by decide, by decide⟩, _, _, rfl, rfl, .inl ⟨_, rfl, _, _, rfl, rfl, M31, _, rfl, h, _, _, _, rfl, rfl, hO2, rfl, ?_⟩⟩
        generalize hz : ((s' * 69621 + 7919 * c1) % 2147483647 : Int) = z
        have z0 : 0 ≤ z := by rw [← hz]; exact Int.emod_nonneg _ (by decide)
        have z1 : z < 2147483647 := by rw [← hz]; exact Int.emod_lt_of_pos _ (by decide)
        generalize hH3 : L2.upd H2 h _ = H3
        have t3 : Bt h H H3 := by rw [← hH3]; exact t2.upd
        have hO3 : H3 h = some (.lst [.ref l, .int j, .int b', .int z, .int c1]) := by rw [← hH3, ← hz]; exact upd_same
        have hn3 : H3 l = some (.lst (ns.map V.int)) := t3 _ _ nl X.n
        -- number = int(hand[3] * (hand[3] // 1009 + 69621)) % 2147483647
        refine ⟨_, rfl, h, _, _, _, rfl, rfl, SqL.of hO3, rfl, _, rfl, h, _, _, _, rfl, rfl, SqL.of hO3, rfl, _, _, rfl, rfl, wide_div (by decide) (b := 30) (by decide) (by decide) (by decide), _, _, rfl, rfl, _, _, rfl, rfl, .inl ⟨by omega, by omega⟩, .inl ⟨_, rfl, _, _, rfl, rfl, M31, ?_⟩⟩
        generalize hu : (z * (z / 1009 + 69621) % 2147483647 : Int) = u
        have u0 : 0 ≤ u := by rw [← hu]; exact Int.emod_nonneg _ (by decide)
        have u1 : u < 2147483647 := by rw [← hu]; exact Int.emod_lt_of_pos _ (by decide)
        show _
        refine ⟨.int u, (by rw [← hu]; rfl), .int u, (by rw [← hu]; rfl), _, _, rfl, rfl, wide_div (by decide) (b := 30) (by decide) (by decide) (by decide), _, _, rfl, rfl, _, _, rfl, rfl, .inl ⟨by omega, by omega⟩, .inl ⟨_, rfl, _, _, rfl, rfl, M30, ?_⟩⟩
        refine ⟨_, rfl, _, _, rfl, rfl, wide_div (by decide) (b := 30) (by decide) (by decide) (by decide), .inl ⟨_, rfl, _, rfl, _, _, rfl, rfl, n0, ?_⟩⟩
        exact k _ _ t3 ⟨ns, j, b', z, c1, hO3, hn3, Y.i0, Y.b0, z0, z1⟩ (Int.emod_nonneg _ (by omega)) (Int.emod_lt_of_pos _ n0)

end
end W2
namespace W2
open PySem PySem.Spec PyProof.Rows L2
section
variable {P : Program} {w : World} {K : PySem.W.Frag} {mg : Str → Option Value} {base : Heap} {C fI : Addr}
theorem ok_pick (D : Def K mg "_law_pick" s_pick ["_law_hand_here", "_law_things"]) (T : Txt K mg) (C_take : Cal P w K mg base 1 "_law_take" ["_law_hand_here", "_law_size"] spTake) : Cal P w K mg base 2 "_law_pick" ["_law_hand_here", "_law_things"] spPick := by
  refine D.cal sc_pick (fun vs H Q E h => ?_) (fun f cdv A outer s H vs Q E hr h => ?_)
  · obtain ⟨h, l, t, xs, rfl, _⟩ := h
    rfl
  · obtain ⟨h, l, t, xs, rfl, HH, ht, nth, h0, hz, k⟩ := h
    refine ⟨_, (pss_one (ps_ret (pe_ix (ix_listK (K := K) rfl) (pv 1) (pcal C_take hr (by decide) rfl (pa_cons (pv 0) (pa_cons (pe_callB (call_lenK (K := K) rfl) (by rfl) T.n_len PySem.boot_len (pa_cons (pv 1) pa_nil)) pa_nil))) (fun _ _ => rfl)))), ?_⟩
    refine ⟨_, rfl, _, rfl, _, rfl, t, _, rfl, .inl (SqL.of ht), h, l, _, rfl, HH, by omega, by omega, fun H1 r b1 hh1 r0 r1 => ?_⟩
    have hr : r.toNat < xs.length := by omega
    have hat : atI xs r = some xs[r.toNat] := at_of (by omega) (List.getElem?_eq_getElem hr)
    exact ⟨t, _, _, _, rfl, rfl, SqL.of (b1 _ _ nth ht), hat, k _ _ b1 hh1 (List.getElem_mem hr)⟩

end
end W2
namespace W2
open PySem PySem.Spec PyProof.Rows L2
section
variable {P : Program} {w : World} {K : PySem.W.Frag} {mg : Str → Option Value} {base : Heap} {C fI : Addr}
theorem ok_lisint (D : Def K mg "_law_is_integer" s_lisint ["_law_thing"]) (T : Txt K mg)  : Cal P w K mg base 1 "_law_is_integer" ["_law_thing"] spIsInt := by
  refine D.cal sc_lisint (fun vs H Q E h => ?_) (fun f cdv A outer s H vs Q E hr h => ?_)
  · obtain ⟨i, rfl, _⟩ := h
    rfl
  · obtain ⟨i, rfl, k⟩ := h
    refine ⟨_, (pss_one (ps_ret (pe_and (pe_callB (call_isiK1 (K := K) rfl) (by rfl) T.n_isinstance (by decide +kernel) (pa_cons (pv 0) (pa_cons (pe_bltn (v := .ty "int") (by rfl) T.n_int (by decide +kernel) rfl) pa_nil))) (pe_one (pe_not (pe_callB (call_isiK1 (K := K) rfl) (by rfl) T.n_isinstance (by decide +kernel) (pa_cons (pv 0) (pa_cons (pe_bltn (v := .ty "bool") (by rfl) T.n_bool (by decide +kernel) rfl) pa_nil)))))))), ?_⟩
    refine ⟨_, rfl, _, _, _, _, true, rfl, .ty _, .base (.int i), kit_ty (by decide +kernel), true, rfl, iteT ?_⟩
    exact ⟨_, rfl, _, _, _, _, false, rfl, .ty _, .base (.int i), kit_ty (by decide +kernel), false, rfl, k _ (L2.Same.refl _)⟩

end
end W2
namespace W2
open PySem PySem.Spec PyProof.Rows L2
section
variable {P : Program} {w : World} {K : PySem.W.Frag} {mg : Str → Option Value} {base : Heap} {C fI : Addr}
theorem ok_same (D : Def K mg "_law_same" s_same ["_law_actual", "_law_due"]) (T : Txt K mg) (C_lisint : Cal P w K mg base 1 "_law_is_integer" ["_law_thing"] spIsInt) : ∀ d : Nat, Cal P w K mg base (2 + d) "_law_same" ["_law_actual", "_law_due"] (spSame d) := by
  intro d
  induction d with
  | zero =>
    obtain ⟨f, fd, F, hm, b⟩ := D.ex
    exact ⟨f, fd, ⟨fun vs H Q E ⟨_, _, _, h, _⟩ => h.elim, fun A outer s H args us vs Q E _ _ _ _ ⟨_, _, _, h, _⟩ => h.elim⟩, hm, F.kp, b⟩
  | succ d C_same =>
    refine D.cal (k := 2 + d) sc_same (fun vs H Q E h => ?_) (fun f cdv A outer s H vs Q E hr h => ?_)
    · obtain ⟨x, y, rfl, _⟩ := h
      rfl
    · obtain ⟨x, y, rfl, hxy, k⟩ := h
      refine ⟨_, (pss_cons (ps_if (pt_cmpR op_isN (pv 1) pe_non (nomark _)) (pss_one (ps_ret (pe_cmpR op_isN (pv 0) pe_non (nomark _)))) pss_nil)
      (pss_cons (ps_if (pt_cmpR op_isB (pv 1) pe_bl (nomark _)) (pss_one (ps_ret (pe_cmpR op_isB (pv 0) pe_bl (nomark _)))) pss_nil)
      (pss_cons (ps_if (pt_cmpR op_isB (pv 1) pe_bl (nomark _)) (pss_one (ps_ret (pe_cmpR op_isB (pv 0) pe_bl (nomark _)))) pss_nil)
      (pss_cons (ps_if (pt_val (pe_callB (call_isiK1 (K := K) rfl) (by rfl) T.n_isinstance (by decide +kernel) (pa_cons (pv 1) (pa_cons (pe_bltn (v := .ty "int") (by rfl) T.n_int (by decide +kernel) rfl) pa_nil)))) (pss_one (ps_ret (pe_and (pcal C_lisint hr (by omega) rfl (pa_cons (pv 0) pa_nil)) (pe_one (pe_cmpR op_eq (pv 0) (pv 1) (nomark _)))))) pss_nil)
      (pss_cons (ps_if (pt_val (pe_callB (call_isiK1 (K := K) rfl) (by rfl) T.n_isinstance (by decide +kernel) (pa_cons (pv 1) (pa_cons (pe_bltn (v := .ty "str") (by rfl) T.n_str (by decide +kernel) rfl) pa_nil)))) (pss_one (ps_ret (pe_and (pe_callB (call_isiK1 (K := K) rfl) (by rfl) T.n_isinstance (by decide +kernel) (pa_cons (pv 0) (pa_cons (pe_bltn (v := .ty "str") (by rfl) T.n_str (by decide +kernel) rfl) pa_nil))) (pe_one (pe_cmpR op_eq (pv 0) (pv 1) (nomark _)))))) pss_nil)
      (pss_cons (ps_if (PW.pt (pw_or (pt_cmpR op_ne (pe_callB (call_isiK1 (K := K) rfl) (by rfl) T.n_isinstance (by decide +kernel) (pa_cons (pv 1) (pa_cons (pe_bltn (v := .ty "tuple") (by rfl) T.n_tuple (by decide +kernel) rfl) pa_nil))) (pe_callB (call_isiK1 (K := K) rfl) (by rfl) T.n_isinstance (by decide +kernel) (pa_cons (pv 0) (pa_cons (pe_bltn (v := .ty "tuple") (by rfl) T.n_tuple (by decide +kernel) rfl) pa_nil))) (nomark _)) (pw_or1 (pt_cmpR op_ne (pe_callB (call_isiK1 (K := K) rfl) (by rfl) T.n_isinstance (by decide +kernel) (pa_cons (pv 1) (pa_cons (pe_bltn (v := .ty "list") (by rfl) T.n_list (by decide +kernel) rfl) pa_nil))) (pe_callB (call_isiK1 (K := K) rfl) (by rfl) T.n_isinstance (by decide +kernel) (pa_cons (pv 0) (pa_cons (pe_bltn (v := .ty "list") (by rfl) T.n_list (by decide +kernel) rfl) pa_nil))) (nomark _))))) (pss_one (ps_ret pe_bl)) pss_nil)
      (pss_cons (ps_if (pt_cmpR op_ne (pe_callB (call_lenK (K := K) rfl) (by rfl) T.n_len PySem.boot_len (pa_cons (pv 0) pa_nil)) (pe_callB (call_lenK (K := K) rfl) (by rfl) T.n_len PySem.boot_len (pa_cons (pv 1) pa_nil)) (nomark _)) (pss_one (ps_ret pe_bl)) pss_nil)
      (pss_cons (ps_for PassesOwn.never rfl (RZ.pi_zipA (by rfl) T.n_zip (pa_cons (pv 0) (pa_cons (pv 1) pa_nil))) (pg_tup rfl (pgs_cons (pg_name (i := 2) sc_same.nd rfl (Or.inl rfl)) (pgs_cons (pg_name (i := 3) sc_same.nd rfl (Or.inl rfl)) pgs_nil))) (pss_one (ps_if (pt_not (pt_val (pcal C_same hr (by omega) rfl (pa_cons (pv 2) (pa_cons (pv 3) pa_nil))))) (pss_one (ps_ret pe_bl)) pss_nil)))
      (pss_one (ps_ret pe_bl)))))))))), ?_⟩
      rcases hxy with ⟨rfl, rfl⟩ | ⟨i, rfl, rfl⟩ | ⟨a, b, xs, ys, rfl, rfl, h3, h4, h5, h6⟩
      · exact ⟨_, rfl, rfl, _, rfl, iteT ⟨_, rfl, rfl, k _ (L2.Same.refl _)⟩⟩
      · refine ⟨_, rfl, rfl, _, rfl, iteF ?_⟩
        refine ⟨_, rfl, true, rfl, _, rfl, iteF ?_⟩
        refine ⟨_, rfl, false, rfl, _, rfl, iteF ?_⟩
        refine ⟨_, rfl, _, _, _, _, true, rfl, .ty _, .base (.int i), kit_ty (by decide +kernel), true, rfl, iteT ?_⟩
        refine ⟨_, rfl, i, rfl, fun H1 s1 => ⟨true, rfl, iteT ⟨_, rfl, _, rfl, rfl, ?_⟩⟩⟩
        rw [decide_eq_true rfl]
        exact k _ s1
      · refine ⟨_, rfl, rfl, _, rfl, iteF ?_⟩
        refine ⟨_, rfl, true, rfl, _, rfl, iteF ?_⟩
        refine ⟨_, rfl, false, rfl, _, rfl, iteF ?_⟩
        refine ⟨_, rfl, _, _, _, _, false, rfl, .ty _, .base (.tup h4), kit_ty (by decide +kernel), false, rfl, iteF ?_⟩
        refine ⟨_, rfl, _, _, _, _, false, rfl, .ty _, .base (.tup h4), kit_ty (by decide +kernel), false, rfl, iteF ?_⟩
        refine ⟨_, rfl, _, _, _, _, true, rfl, .ty _, .base (.tup h4), kit_ty (by decide +kernel), _, rfl, _, _, _, _, true, rfl, .ty _, .base (.tup h3), kit_ty (by decide +kernel), rfl, _, rfl, iteF ?_⟩
        refine ⟨_, rfl, _, _, _, _, false, rfl, .ty _, .base (.tup h4), kit_ty (by decide +kernel), _, rfl, _, _, _, _, false, rfl, .ty _, .base (.tup h3), kit_ty (by decide +kernel), rfl, _, rfl, iteF ?_⟩
        refine ⟨_, rfl, a, _, rfl, .inr (SqT.of h3), _, rfl, b, _, rfl, .inr (SqT.of h4), rfl, _, rfl, ?_⟩
        rw [h5, decide_eq_true rfl]
        refine iteF ?_
        refine ⟨_, rfl, _, rfl, a, b, xs, ys, rfl, .inr ⟨SqT.of h3, SqT.of h4, RZ.for_zipT h5 (fun i σ H' => ∃ v2 v3 : Option V, σ = [some (.ref a), some (.ref b), v2, v3] ∧ L2.Same H H') ⟨none, none, rfl, L2.Same.refl _⟩ (fun i σ H' ⟨_, _, _, sm⟩ => ⟨SqT.of (sm _ _ h3), SqT.of (sm _ _ h4)⟩) ?_ ?_⟩⟩
        · rintro i x y t σ H' hx hy ⟨v2, v3, rfl, sm⟩ ht
          have s1 := sm.trans (same_upd (o := .tup [x, y]) ht)
          refine ⟨t, [x, y], rfl, SqT.of upd_same, rfl, x, [y], rfl, y, [], rfl, rfl, ?_⟩
          refine ⟨_, rfl, _, rfl, x, y, rfl, (h6 i x y hx hy).same s1, fun H5 s5 => ⟨true, rfl, iteF ⟨_, _, rfl, s1.trans s5⟩⟩⟩
        · rintro σ H' ⟨v2, v3, rfl, sm⟩
          exact k _ sm
end
end W2
namespace W2
open PySem PySem.Spec PyProof.Rows L2
section
variable {P : Program} {w : World} {K : PySem.W.Frag} {mg : Str → Option Value} {base : Heap} {C fI : Addr}
theorem ok_value (D : Def K mg "_law_value" s_value ["_law_hand_here"]) (T : Txt K mg) (C_pick : Cal P w K mg base 2 "_law_pick" ["_law_hand_here", "_law_things"] spPick) (C_take : Cal P w K mg base 1 "_law_take" ["_law_hand_here", "_law_size"] spTake) : Cal P w K mg base 3 "_law_value" ["_law_hand_here"] spValue := by
  refine D.cal sc_value (fun vs H Q E h => ?_) (fun f cdv A outer s H vs Q E hr h => ?_)
  · obtain ⟨h, l, rfl, _⟩ := h
    rfl
  · obtain ⟨h, l, rfl, HH, k⟩ := h
    refine ⟨_, (pss_one (ps_ret (pcal C_pick hr (by decide) rfl (pa_cons (pv 0) (pa_cons (pe_lst (pa_cons pe_int (pa_cons pe_int (pa_cons (pe_un un_neg pe_int) (pa_cons pe_int (pa_cons pe_int (pa_cons (pe_op op_pow pe_int pe_int) (pa_cons (pe_op op_sub (pcal C_take hr (by decide) rfl (pa_cons (pv 0) (pa_cons pe_int pa_nil))) pe_int) (pa_cons (pe_op op_sub (pcal C_take hr (by decide) rfl (pa_cons (pv 0) (pa_cons pe_int pa_nil))) pe_int) (pa_cons (pcal C_take hr (by decide) rfl (pa_cons (pv 0) (pa_cons (pe_op op_pow pe_int pe_int) pa_nil))) pa_nil)))))))))) pa_nil))))), ?_⟩
    refine ⟨_, rfl, 1, rfl, 10, 19, rfl, rfl, ⟨by decide, by decide, by decide⟩, ?_⟩
    refine ⟨_, rfl, h, l, 20, rfl, HH, by decide, by decide, fun H1 r1 b1 hh1 _ _ => ⟨_, _, rfl, rfl, ?_⟩⟩
    refine ⟨_, rfl, h, l, 20, rfl, hh1, by decide, by decide, fun H2 r2 b2 hh2 _ _ => ⟨_, _, rfl, rfl, ?_⟩⟩
    refine ⟨_, rfl, 10, 6, rfl, rfl, ⟨by decide, by decide, by decide⟩, h, l, _, rfl, hh2, by decide, by decide, fun H3 r3 b3 hh3 _ _ => ?_⟩
    refine ⟨small (by show 9 ≤ 100000; decide), fun t ht => ?_⟩
    obtain ⟨lh, eh⟩ := hh3.lst
    have nth : t ≠ h := (ne_of_none eh ht).symm
    refine ⟨h, l, t, _, rfl, hh3.upd ht, upd_same, nth, by simp, by simp, fun H4 x b4 hh4 hx => ?_⟩
    have b : Bt h H H4 := ((b1.trans b2).trans b3).trans ((Bt.of (same_upd ht)).trans b4)
    simp only [List.mem_cons, List.not_mem_nil, or_false] at hx
    rcases hx with rfl | rfl | rfl | rfl | rfl | rfl | rfl | rfl | rfl
    all_goals exact k _ _ b hh4

end
end W2
namespace W2
open PySem PySem.Spec PyProof.Rows L2
section
variable {P : Program} {w : World} {K : PySem.W.Frag} {mg : Str → Option Value} {base : Heap} {C fI : Addr}
theorem ok_parents (D : Def K mg "_law_parents" s_parents ["_law_hand_here", "_law_size"]) (T : Txt K mg) (C_take : Cal P w K mg base 1 "_law_take" ["_law_hand_here", "_law_size"] spTake) : Cal P w K mg base 2 "_law_parents" ["_law_hand_here", "_law_size"] spParents := by
  refine D.cal sc_parents (fun vs H Q E h => ?_) (fun f cdv A outer s H vs Q E hr h => ?_)
  · obtain ⟨h, l, n, rfl, _⟩ := h
    rfl
  · obtain ⟨h, l, n, rfl, HH, n1, n64, k⟩ := h
    refine ⟨_, (pss_cons (ps_set (i := 2) sc_parents.nd rfl (Or.inl rfl) (pe_listRg rfl (by rfl) T.n_list (prg_1 (by rfl) T.n_range (pv 1))))
      (pss_cons (ps_for PassesOwn.never rfl (pi_range1 rfl T.n_range (pa_cons (pv 1) pa_nil)) (pg_name (i := 3) sc_parents.nd rfl (Or.inl rfl)) (pss_cons (ps_set (i := 4) sc_parents.nd rfl (Or.inl rfl) (pe_op op_add (pv 3) (pcal C_take hr (by decide) rfl (pa_cons (pv 0) (pa_cons (pe_op op_sub (pv 1) (pv 3)) pa_nil)))))
      (pss_one (ps_asg (pe_tup (pa_cons (pe_ix (ix_listK (K := K) rfl) (pv 2) (pv 4) (fun _ _ => rfl)) (pa_cons (pe_ix (ix_listK (K := K) rfl) (pv 2) (pv 3) (fun _ _ => rfl)) pa_nil))) (pg_tup rfl (pgs_cons (pg_sub (pv 2) (pv 3) set_list) (pgs_cons (pg_sub (pv 2) (pv 4) set_list) pgs_nil)))))))
      (pss_cons (ps_set (i := 5) sc_parents.nd rfl (Or.inl rfl) (pe_op op_rep (pe_lst (pa_cons pe_non pa_nil)) (pv 1)))
      (pss_cons (ps_set (i := 6) sc_parents.nd rfl (Or.inl rfl) (pcal C_take hr (by decide) rfl (pa_cons (pv 0) (pa_cons pe_int pa_nil))))
      (pss_cons (ps_for PassesOwn.never rfl (pi_range2 rfl T.n_range (pa_cons pe_int (pa_cons (pv 1) pa_nil))) (pg_name (i := 3) sc_parents.nd rfl (Or.inl rfl)) (C8.pss_cut (ps_if (pt_cmpR op_eq (pv 6) pe_int (nomark _)) (pss_one (ps_asg (pe_ix (ix_listK (K := K) rfl) (pv 2) (pe_op op_sub (pv 3) pe_int) (fun _ _ => rfl)) (pg_sub (pv 5) (pe_ix (ix_listK (K := K) rfl) (pv 2) (pv 3) (fun _ _ => rfl)) set_list))) (pss_one (ps_if (pt_cmpR op_eq (pv 6) pe_int (nomark _)) (pss_one (ps_asg (pe_ix (ix_listK (K := K) rfl) (pv 2) (pe_callB (call_max2 rfl) (by rfl) T.n_max (by decide +kernel) (pa_cons pe_int (pa_cons (pe_op op_sub (pe_op op_sub (pv 3) pe_int) (pcal C_take hr (by decide) rfl (pa_cons (pv 0) (pa_cons pe_int pa_nil)))) pa_nil))) (fun _ _ => rfl)) (pg_sub (pv 5) (pe_ix (ix_listK (K := K) rfl) (pv 2) (pv 3) (fun _ _ => rfl)) set_list))) (pss_one (ps_if (PW.pt (pw_or (pt_cmpR op_gt (pv 6) pe_int (nomark _)) (pw_or1 (pt_cmpR op_gt (pcal C_take hr (by decide) rfl (pa_cons (pv 0) (pa_cons pe_int pa_nil))) pe_int (nomark _))))) (pss_one (ps_asg (pe_ix (ix_listK (K := K) rfl) (pv 2) (pcal C_take hr (by decide) rfl (pa_cons (pv 0) (pa_cons (pv 3) pa_nil))) (fun _ _ => rfl)) (pg_sub (pv 5) (pe_ix (ix_listK (K := K) rfl) (pv 2) (pv 3) (fun _ _ => rfl)) set_list))) pss_nil)))))
      (pss_one (ps_if (PW.pt (pw_and (pt_cmpR op_eq (pv 6) pe_int (nomark _)) (pw_and1 (pt_cmpR op_eq (pcal C_take hr (by decide) rfl (pa_cons (pv 0) (pa_cons pe_int pa_nil))) pe_int (nomark _))))) (pss_one (ps_asg pe_non (pg_sub (pv 5) (pe_ix (ix_listK (K := K) rfl) (pv 2) (pv 3) (fun _ _ => rfl)) set_list))) pss_nil))))
      (pss_one (ps_ret (pv 5)))))))), ?_⟩
    obtain ⟨lh, eh⟩ := HH.lst
    -- order = list(range(size))
    refine ⟨_, rfl, _, rfl, RgOk.of_le (by decide) (by omega) (by decide) (by omega), fun o ho => ?_⟩
    rw [rgV_nv]
    have noh : o ≠ h := (ne_of_none eh ho).symm
    obtain ⟨lr, er⟩ := HH.row
    have nol : o ≠ l := (ne_of_none er ho).symm
    -- the shuffle
    refine ⟨_, rfl, _, rfl, by omega, by omega, ?_⟩
    rw [Int.toNat_natCast]
    refine for_range (lo := 0) (n := n) (fun i σ H' => ∃ (v3 v4 : Option V) (od : List Nat), σ = [some (.ref h), some (nv n), some (.ref o), v3, v4, none, none] ∧ Bt h H H' ∧ Hand H' h l ∧ H' o = some (.lst (od.map nv)) ∧ od.Perm (List.range n))
      ⟨none, none, List.range n, rfl, (Bt.refl h H).new ho, HH.upd ho, upd_same, .refl _⟩ ?_ ?_
    · rintro i σ H2 hi ⟨v3, v4, od, rfl, b2, hh2, ho2, pm⟩
      rw [Int.zero_add]
      have lod : od.length = n := by rw [pm.length_eq, List.length_range]
      refine ⟨_, rfl, _, rfl, _, rfl, _, rfl, _, _, rfl, rfl, h, l, _, rfl, hh2, by omega, by omega, fun H3 r b3 hh3 r0 r1 => ⟨_, _, rfl, rfl, ?_⟩⟩
      have ho3 := b3 _ _ noh ho2
      obtain ⟨j, ej, hj⟩ : ∃ j : Nat, (i : Int) + r = (j : Int) ∧ j < n := ⟨((i : Int) + r).toNat, by omega, by omega⟩
      have hi2 : i < od.length := by omega
      have hj2 : j < od.length := by omega
      have gi : (od.map nv)[i]? = some (nv od[i]) := by rw [List.getElem?_map, List.getElem?_eq_getElem hi2]; rfl
      have gj : (od.map nv)[j]? = some (nv od[j]) := by rw [List.getElem?_map, List.getElem?_eq_getElem hj2]; rfl
      refine ⟨_, rfl, _, rfl, o, _, _, _, rfl, rfl, SqL.of ho3, at_of ej gj, _, rfl, _, rfl, o, _, _, _, rfl, rfl, SqL.of ho3, atI_nat gi, small (by show 2 ≤ 100000; decide), fun t ht => ?_⟩
      have not : o ≠ t := ne_of_none ho3 ht
      obtain ⟨lh3, eh3⟩ := hh3.lst
      have nht : h ≠ t := ne_of_none eh3 ht
      have ho4 : (L2.upd H3 t (.tup [nv od[j], nv od[i]])) o = some (.lst (od.map nv)) := by rw [upd_ne not]; exact ho3
      have hij : ixN ((od.map nv).set i (nv od[j])).length ((i : Int) + r) = some j := by
        rw [ej, List.length_set, List.length_map]
        exact ixN_nat hj2
      refine ⟨t, _, rfl, SqT.of upd_same, rfl, _, _, rfl, _, rfl, _, rfl, o, _, _, i, rfl, rfl, ho4, ixN_nat (by rw [List.length_map]; exact hi2), _, _, rfl, _, rfl, _, rfl, o, _, _, j, rfl, rfl, upd_same, hij, rfl, ?_⟩
      refine ⟨_, _, (od.set i od[j]).set j od[i], rfl, fun c u nc e => ?_, ?_, ?_, ?_⟩
      · have e3 := b3 _ _ nc (b2 _ _ nc e)
        have nco : c ≠ o := ne_of_none e ho
        rw [upd_ne nco, upd_ne nco, upd_ne (ne_of_none e3 ht)]
        exact e3
      · exact ((hh3.upd ht).set noh nol).set noh nol
      · rw [upd_same, List.map_set, List.map_set]
      · exact (List.set_set_perm hi2 hj2).trans pm
    rintro σ H2 ⟨v3, v4, od, rfl, b2, hh2, ho2, pm⟩
    have lod : od.length = n := by rw [pm.length_eq, List.length_range]
    have ndo : od.Nodup := pm.nodup_iff.mpr List.nodup_range
    -- found = [None] * size
    refine ⟨small (by show 1 ≤ 100000; decide), fun z hz => ⟨_, rfl, z, _, _, rfl, rfl, upd_same, by omega, by omega, ?_, fun fd hfd => ?_⟩⟩
    · show 1 * (n : Int).toNat ≤ sizeLine
      rw [Int.toNat_natCast, Nat.one_mul]
      exact small (by omega)
    rw [Int.toNat_natCast, flat_rep]
    have b3 : Bt h H (L2.upd (L2.upd H2 z (.lst [V.non])) fd (.lst ((List.replicate n (none : Option Nat)).map ov))) := (b2.new hz).new hfd
    have hh3 : Hand (L2.upd (L2.upd H2 z (.lst [V.non])) fd (.lst ((List.replicate n (none : Option Nat)).map ov))) h l := (hh2.upd hz).upd hfd
    have noz : o ≠ z := ne_of_none ho2 hz
    have ho3a : (L2.upd H2 z (.lst [V.non])) o = some (.lst (od.map nv)) := by rw [upd_ne noz]; exact ho2
    have nof : o ≠ fd := ne_of_none ho3a hfd
    have ho3 : (L2.upd (L2.upd H2 z (.lst [V.non])) fd (.lst ((List.replicate n (none : Option Nat)).map ov))) o = some (.lst (od.map nv)) := by rw [upd_ne nof]; exact ho3a
    have hf3 : (L2.upd (L2.upd H2 z (.lst [V.non])) fd (.lst ((List.replicate n (none : Option Nat)).map ov))) fd = some (.lst ((List.replicate n (none : Option Nat)).map ov)) := upd_same
    have nfh : fd ≠ h := by
      obtain ⟨l2, e2⟩ := (hh2.upd (o := .lst [V.non]) hz).lst
      exact (ne_of_none e2 hfd).symm
    have nfl : fd ≠ l := by
      obtain ⟨l2, e2⟩ := (hh2.upd (o := .lst [V.non]) hz).row
      exact (ne_of_none e2 hfd).symm
    have hfn : H fd = none := (b2.new (o := .lst [V.non]) hz).free nfh hfd
    generalize L2.upd (L2.upd H2 z (.lst [V.non])) fd (.lst ((List.replicate n (none : Option Nat)).map ov)) = H3 at b3 hh3 ho3 hf3
    -- shape = take(hand, 5)
    refine ⟨_, rfl, h, l, _, rfl, hh3, by decide, by decide, fun H4 shape b4 hh4 sh0 sh1 => ?_⟩
    have ho4 := b4 _ _ noh ho3
    have hf4 := b4 _ _ nfh hf3
    refine ⟨_, rfl, 1, _, rfl, ⟨by omega, by omega, by omega, by omega⟩, ?_⟩
    rw [show ((n : Int) - 1).toNat = n - 1 by omega]
    refine for_range (lo := 1) (n := n - 1) (fun i σ H' => ∃ (v3 : Option V) (ps : List (Option Nat)), σ = [some (.ref h), some (nv n), some (.ref o), v3, v4, some (.ref fd), some (.int shape)] ∧ Bt h H H' ∧ Hand H' h l ∧ H' o = some (.lst (od.map nv)) ∧ H' fd = some (.lst (ps.map ov)) ∧ ps.length = n ∧ Par od ps)
      ⟨v3, List.replicate n none, rfl, b3.trans b4, hh4, ho4, hf4, List.length_replicate, fun k g hg => .inl ?_⟩ ?_ ?_
    · have : g < n := List.mem_range.mp (pm.mem_iff.mp (List.mem_of_getElem? hg))
      rw [List.getElem?_replicate, if_pos this]
    · rintro i σ H5 hi ⟨v3, ps, rfl, b5, hh5, ho5, hf5, lps, par⟩
      have ek : ((1 : Int) + (i : Int)) = ((i + 1 : Nat) : Int) := by omega
      rw [ek]
      have hk : i + 1 < od.length := by omega
      have gk : od[i + 1]? = some od[i + 1] := List.getElem?_eq_getElem hk
      generalize od[i + 1] = g at gk
      have gl : g < ps.length := by
        rw [lps]
        exact List.mem_range.mp (pm.mem_iff.mp (List.mem_of_getElem? gk))
      have gkm : (od.map nv)[i + 1]? = some (nv g) := by rw [List.getElem?_map, gk]; rfl
      -- what a store at found[order[k]] leaves
      have put : ∀ (H6 : Hp) (ps : List (Option Nat)) (v : Option Nat) (Q6 : L2.St → Hp → Prop), ps.length = n → Par od ps → (v = none ∨ ∃ (j p : Nat), j < i + 1 ∧ od[j]? = some p ∧ v = some p) → Bt h H H6 → Hand H6 h l → H6 o = some (.lst (od.map nv)) → H6 fd = some (.lst (ps.map ov)) →
          (∀ H7 ps', Bt h H H7 → Hand H7 h l → H7 o = some (.lst (od.map nv)) → H7 fd = some (.lst (List.map ov ps')) → ps'.length = n → Par od ps' → Q6 [some (.ref h), some (nv n), some (.ref o), some (nv (i + 1)), v4, some (.ref fd), some (.int shape)] H7) →
          gSub (tVar 5) (tOp (rIxL K) (tVar 2) (tVar 3)) rSetL (ov v) [some (.ref h), some (nv n), some (.ref o), some (nv (i + 1)), v4, some (.ref fd), some (.int shape)] H6 Q6 := by
        intro H6 ps v Q6 lps par hv b6 hh6 ho6 hf6 kk
        refine ⟨_, rfl, _, rfl, _, rfl, o, _, _, _, rfl, rfl, SqL.of ho6, atI_nat gkm, fd, _, _, g, rfl, rfl, hf6, ixN_nat (by rw [List.length_map, lps, ← lod]; rw [lod]; have : g < n := List.mem_range.mp (pm.mem_iff.mp (List.mem_of_getElem? gk)); exact this), ?_⟩
        have glt : g < ps.length := by rw [lps]; exact List.mem_range.mp (pm.mem_iff.mp (List.mem_of_getElem? gk))
        refine kk _ (ps.set g v) (fun c u nc e => ?_) (hh6.set nfh nfl) (by rw [upd_ne nof]; exact ho6) (by rw [upd_same, List.map_set]) (by rw [List.length_set]; exact lps) (par_set par ndo gk glt hv)
        rw [upd_ne (ne_of_none e hfn)]
        exact b6 _ _ nc e
      -- the item of the order at a place ahead
      have itm : ∀ (j : Nat), j < i + 1 → ∃ p, od[j]? = some p ∧ (od.map nv)[j]? = some (ov (some p)) := fun j hj => by
        have hj2 : j < od.length := by omega
        exact ⟨od[j], List.getElem?_eq_getElem hj2, by rw [List.getElem?_map, List.getElem?_eq_getElem hj2]; rfl⟩
      refine ⟨fun σ H' => ∃ (ps : List (Option Nat)), σ = [some (.ref h), some (nv n), some (.ref o), some (nv (i + 1)), v4, some (.ref fd), some (.int shape)] ∧ Bt h H H' ∧ Hand H' h l ∧ H' o = some (.lst (od.map nv)) ∧ H' fd = some (.lst (ps.map ov)) ∧ ps.length = n ∧ Par od ps, ?_, ?_⟩
      · refine ⟨_, rfl, rfl, _, rfl, iteB (fun _ => ?_) (fun _ => ?_)⟩
        · obtain ⟨p, ep, hp⟩ := itm i (by omega)
          exact ⟨_, rfl, _, rfl, _, _, rfl, rfl, o, _, _, _, rfl, rfl, SqL.of ho5, at_of (j := i) (by omega) hp, put H5 ps (some p) _ lps par (.inr ⟨i, p, by omega, ep, rfl⟩) b5 hh5 ho5 hf5 fun H7 ps' a1 a2 a3 a4 a5 a6 => ⟨ps', rfl, a1, a2, a3, a4, a5, a6⟩⟩
        · refine ⟨_, rfl, rfl, _, rfl, iteB (fun _ => ?_) (fun _ => ?_)⟩
          · refine ⟨_, rfl, _, rfl, _, _, rfl, rfl, _, rfl, h, l, _, rfl, hh5, by decide, by decide, fun H6 r b6 hh6 r0 r1 => ⟨_, _, rfl, rfl, _, _, rfl, ?_⟩⟩
            have ho6 := b6 _ _ noh ho5
            have hf6 := b6 _ _ nfh hf5
            obtain ⟨j, ej, hj⟩ : ∃ j : Nat, (if ((i + 1 : Nat) : Int) - 1 - r > 0 then ((i + 1 : Nat) : Int) - 1 - r else 0) = (j : Int) ∧ j < i + 1 := by
              by_cases c : ((i + 1 : Nat) : Int) - 1 - r > 0
              · rw [if_pos c]
                exact ⟨(((i + 1 : Nat) : Int) - 1 - r).toNat, by omega, by omega⟩
              · rw [if_neg c]
                exact ⟨0, rfl, by omega⟩
            obtain ⟨p, ep, hp⟩ := itm j hj
            exact ⟨o, _, _, _, rfl, rfl, SqL.of ho6, at_of ej hp, put H6 ps (some p) _ lps par (.inr ⟨j, p, hj, ep, rfl⟩) (b5.trans b6) hh6 ho6 hf6 fun H7 ps' a1 a2 a3 a4 a5 a6 => ⟨ps', rfl, a1, a2, a3, a4, a5, a6⟩⟩
          · have last : ∀ H6, Bt h H H6 → Hand H6 h l → H6 o = some (.lst (od.map nv)) → H6 fd = some (.lst (ps.map ov)) → tAsg (tOp (rIxL K) (tVar 2) (tCall spTake [] E0 (tCons (tVar 0) (tCons (tVar 3) tNil)))) (gSub (tVar 5) (tOp (rIxL K) (tVar 2) (tVar 3)) rSetL)
                { nx := fun σ H' => ∃ (ps : List (Option Nat)), σ = [some (.ref h), some (nv n), some (.ref o), some (nv (i + 1)), v4, some (.ref fd), some (.int shape)] ∧ Bt h H H' ∧ Hand H' h l ∧ H' o = some (.lst (od.map nv)) ∧ H' fd = some (.lst (ps.map ov)) ∧ ps.length = n ∧ Par od ps, rt := fun _ _ => False } [some (.ref h), some (nv n), some (.ref o), some (nv (i + 1)), v4, some (.ref fd), some (.int shape)] H6 := by
              intro H6 b6 hh6 ho6 hf6
              refine ⟨_, rfl, _, rfl, _, rfl, h, l, _, rfl, hh6, by omega, by omega, fun H7 r b7 hh7 r0 r1 => ?_⟩
              have ho7 := b7 _ _ noh ho6
              have hf7 := b7 _ _ nfh hf6
              obtain ⟨p, ep, hp⟩ := itm r.toNat (by omega)
              exact ⟨o, _, _, _, rfl, rfl, SqL.of ho7, at_of (j := r.toNat) (by omega) hp, put H7 ps (some p) _ lps par (.inr ⟨r.toNat, p, by omega, ep, rfl⟩) (b6.trans b7) hh7 ho7 hf7 fun H7 ps' a1 a2 a3 a4 a5 a6 => ⟨ps', rfl, a1, a2, a3, a4, a5, a6⟩⟩
            refine ⟨_, rfl, _, _, rfl, rfl, _, rfl, iteB (fun _ => ?_) (fun _ => ?_)⟩
            · exact iteT (last H5 b5 hh5 ho5 hf5)
            · refine ⟨_, rfl, h, l, _, rfl, hh5, by decide, by decide, fun H6 r b6 hh6 r0 r1 => ⟨_, _, rfl, rfl, _, rfl, iteB (fun _ => ?_) (fun _ => ?_)⟩⟩
              · exact last H6 (b5.trans b6) hh6 (b6 _ _ noh ho5) (b6 _ _ nfh hf5)
              · exact ⟨ps, rfl, b5.trans b6, hh6, b6 _ _ noh ho5, b6 _ _ nfh hf5, lps, par⟩
      · rintro σ H6 ⟨ps, rfl, b6, hh6, ho6, hf6, lps, par⟩
        refine ⟨_, rfl, rfl, _, rfl, iteB (fun _ => ?_) (fun _ => ?_)⟩
        · refine ⟨_, rfl, h, l, _, rfl, hh6, by decide, by decide, fun H7 r b7 hh7 r0 r1 => ⟨rfl, _, rfl, iteB (fun _ => ?_) (fun _ => ?_)⟩⟩
          · exact put H7 ps none _ lps par (.inl rfl) (b6.trans b7) hh7 (b7 _ _ noh ho6) (b7 _ _ nfh hf6) fun H7 ps' a1 a2 a3 a4 a5 a6 => ⟨_, ps', rfl, a1, a2, a3, a4, a5, a6⟩
          · exact ⟨_, ps, rfl, b6.trans b7, hh7, b7 _ _ noh ho6, b7 _ _ nfh hf6, lps, par⟩
        · exact ⟨_, ps, rfl, b6, hh6, ho6, hf6, lps, par⟩
    · rintro σ H5 ⟨v3, ps, rfl, b5, hh5, ho5, hf5, lps, par⟩
      exact ⟨_, rfl, k H5 fd ps b5 hh5 hfn hf5 lps (par_tree par pm lps)⟩

end
end W2
namespace W2
open PySem PySem.Spec PyProof.Rows L2
section
variable {P : Program} {w : World} {K : PySem.W.Frag} {mg : Str → Option Value} {base : Heap} {C fI : Addr}
theorem ok_plain (D : Def K mg "_law_plain" s_plain ["_law_hand_here", "_law_sizes"]) (T : Txt K mg) (C_pick : Cal P w K mg base 2 "_law_pick" ["_law_hand_here", "_law_things"] spPick) (C_parents : Cal P w K mg base 2 "_law_parents" ["_law_hand_here", "_law_size"] spParents) (C_value : Cal P w K mg base 3 "_law_value" ["_law_hand_here"] spValue) : Cal P w K mg base 4 "_law_plain" ["_law_hand_here", "_law_sizes"] spPlain := by
  refine D.cal sc_plain (fun vs H Q E h => ?_) (fun f cdv A outer s H vs Q E hr h => ?_)
  · obtain ⟨h, l, t, ss, rfl, _⟩ := h
    rfl
  · obtain ⟨h, l, t, ss, rfl, HH, ht, nth, s0, sz, sr, k⟩ := h
    refine ⟨_, (pss_cons (ps_set (i := 2) sc_plain.nd rfl (Or.inl rfl) (pcal C_pick hr (by decide) rfl (pa_cons (pv 0) (pa_cons (pv 1) pa_nil))))
      (pss_one (ps_ret (pe_lst (pa_cons (pcal C_parents hr (by decide) rfl (pa_cons (pv 0) (pa_cons (pv 2) pa_nil))) (pa_cons (pe_lc (own := [("_law_k", 3)]) (g := gName 3) (tt := tYes) (by rfl) sc_plain.nd (pi_range1 rfl T.n_range (pa_cons (pv 2) pa_nil)) (blkOk_by (own := [("_law_k", 3)]) (N := ["_law_hand_here", "_law_sizes", "_law_size", "_law_k"]) (sc := defScope s_plain) (by decide +kernel)) (fun _ _ _ _ _ => pg_name (i := 3) sc_plain.nd rfl (Or.inl rfl)) (fun _ _ _ _ _ => pts_nil) (fun _ _ _ _ _ => (pcal C_value hr (by decide) rfl (pa_cons (pv 0) pa_nil)))) pa_nil)))))), ?_⟩
    refine ⟨_, rfl, _, rfl, h, l, t, _, rfl, HH, ht, nth, by rw [List.length_map]; exact s0, by rw [List.length_map]; omega, fun H1 x b1 hh1 hx => ?_⟩
    obtain ⟨s, hs, rfl⟩ := List.mem_map.mp hx
    obtain ⟨n1, n64⟩ := sr s hs
    refine ⟨_, rfl, _, rfl, h, l, s, rfl, hh1, n1, n64, fun H2 p ps b2 hh2 hp hP lps TR => ?_⟩
    obtain ⟨lh1, eh1⟩ := hh1.lst
    have nph : p ≠ h := (ne_of_none eh1 hp).symm
    refine ⟨_, rfl, _, rfl, by omega, by omega, fun D hD => ?_⟩
    rw [Int.toNat_natCast]
    obtain ⟨lh2, eh2⟩ := hh2.lst
    have nDh : D ≠ h := (ne_of_none eh2 hD).symm
    obtain ⟨lr2, er2⟩ := hh2.row
    have nDl : D ≠ l := (ne_of_none er2 hD).symm
    refine lc_range (lo := 0) (n := s) (fun i H' => Bt h H2 H' ∧ Hand H' h l ∧ ∃ ws : List Int, H' D = some (.lst (ws.map V.int)) ∧ ws.length = i) ⟨(Bt.refl h H2).new hD, hh2.upd hD, [], upd_same, rfl⟩ ?_ ?_
    · rintro i H3 hi ⟨b3, hh3, ws, eD, lw⟩
      refine ⟨rfl, _, rfl, h, l, rfl, hh3, fun H4 z b4 hh4 => ⟨_, b4 _ _ nDh eD, ?_, ?_, hh4.set nDh nDl, ws ++ [z], ?_, ?_⟩⟩
      · rw [List.length_map]
        exact smalls (by omega)
      · intro c u nc e
        rw [upd_ne (ne_of_none e hD)]
        exact b4 _ _ nc (b3 _ _ nc e)
      · rw [upd_same, List.map_append]
        rfl
      · rw [List.length_append, lw]
        rfl
    · rintro H3 ⟨b3, hh3, ws, eD, lw⟩
      refine ⟨small (by show 2 ≤ 100000; decide), fun pl hpl => ?_⟩
      have b : Bt h H (L2.upd H3 pl (.lst [.ref p, .ref D])) := ((b1.trans b2).trans b3).new hpl
      obtain ⟨lh3, eh3⟩ := hh3.lst
      have nplh : pl ≠ h := (ne_of_none eh3 hpl).symm
      have eP3 := b3 _ _ nph hP
      refine k _ pl p D ps ws b (hh3.upd hpl) (((b1.trans b2).trans b3).free nplh hpl) (b1.free nph hp) ((b1.trans b2).free nDh hD) upd_same ?_ ?_ TR (by omega) (by omega) (by rw [lw, lps])
      · rw [upd_ne (ne_of_none eP3 hpl)]
        exact eP3
      · rw [upd_ne (ne_of_none eD hpl)]
        exact eD

end
end W2
namespace W2
open PySem PySem.Spec PyProof.Rows L2
section
variable {P : Program} {w : World} {K : PySem.W.Frag} {mg : Str → Option Value} {base : Heap} {C fI : Addr}
theorem ok_fof (D : Def K mg "_law_forest_of" s_fof ["_law_plain_here"]) (T : Txt K mg)  (FC : ForC K mg C fI) {fdI : FuncData} (FI : FnOk P w K mg base CX0 4 fI fdI ["self", "parents", "worths"] (spInit C)) (bI : Binds K fdI ["self", "parents", "worths"] []) : Cal P w K mg base 6 "_law_forest_of" ["_law_plain_here"] (spFof C) := by
  refine D.cal sc_fof (fun vs H Q E h => ?_) (fun f cdv A outer s H vs Q E hr h => ?_)
  · obtain ⟨pl, p, q, ps, ws, rfl, _⟩ := h
    rfl
  · obtain ⟨pl, p, q, ps, ws, rfl, hPl, hp, hq, TR, h1, hz, hw, k⟩ := h
    refine ⟨_, (pss_one (ps_ret (pe_make FC.M FI (hr.mono (by decide)) rfl FC.mgC bI .nil pass0 (pa_cons (pe_callTy call_tuple_of (by rfl) T.n_tuple (by decide +kernel) (pa_cons (pe_ix (ix_listK (K := K) rfl) (pv 0) pe_int (fun _ _ => rfl)) pa_nil)) (pa_cons (pe_callTy call_tuple_of (by rfl) T.n_tuple (by decide +kernel) (pa_cons (pe_ix (ix_listK (K := K) rfl) (pv 0) pe_int (fun _ _ => rfl)) pa_nil)) pa_nil))))), ?_⟩
    refine ⟨_, rfl, pl, _, _, _, rfl, rfl, SqL.of hPl, rfl, p, _, rfl, .inl ⟨SqL.of hp, fun a ha => ?_⟩⟩
    have s1 : L2.Same H (L2.upd H a (.tup (ps.map ov))) := same_upd ha
    refine ⟨_, rfl, pl, _, _, _, rfl, rfl, SqL.of (s1 _ _ hPl), rfl, q, _, rfl, .inl ⟨SqL.of (s1 _ _ hq), fun b hb => ?_⟩⟩
    have s2 := s1.trans (same_upd (o := .tup (ws.map V.int)) hb)
    intro x dx hx hdx ne
    have nxa : a ≠ x := fun z => by subst z; rw [(same_upd (o := .tup (ws.map V.int)) hb) _ _ upd_same] at hx; cases hx
    have nda : a ≠ dx := fun z => by subst z; rw [(same_upd (o := .tup (ws.map V.int)) hb) _ _ upd_same] at hdx; cases hdx
    have nxb : b ≠ x := fun z => by subst z; rw [upd_same] at hx; cases hx
    have ndb : b ≠ dx := fun z => by subst z; rw [upd_same] at hdx; cases hdx
    have nab : a ≠ b := fun z => by subst z; rw [upd_same] at hb; cases hb
    refine ⟨x, dx, a, b, ps, ws, rfl, upd_same, by rw [upd_ne nxa, upd_ne nda, upd_ne nab, upd_same], by rw [upd_ne nxb, upd_ne ndb, upd_same], TR, h1, hz, hw, fun H' bt hx' => ⟨rfl, ?_⟩⟩
    refine k H' x dx a b (fun c o e => ?_) (s2.free hx) ⟨hx', bt _ _ nxa (by rw [upd_ne nxa, upd_ne nda, upd_ne nab, upd_same]), bt _ _ nxb (by rw [upd_ne nxb, upd_ne ndb, upd_same])⟩
    have e2 := s2 _ _ e
    exact bt _ _ (ne_of_none e2 hx) (by rw [upd_ne (ne_of_none e2 hx), upd_ne (ne_of_none e2 hdx)]; exact e2)

end
end W2
namespace W2
open PySem PySem.Spec PyProof.Rows L2
section
variable {P : Program} {w : World} {K : PySem.W.Frag} {mg : Str → Option Value} {base : Heap} {C fI : Addr}
theorem ok_lup (D : Def K mg "_law_up" s_lup ["_law_parents_here", "_law_house"]) (T : Txt K mg)  : Cal P w K mg base 1 "_law_up" ["_law_parents_here", "_law_house"] spLUp := by
  refine D.cal sc_lup (fun vs H Q E h => ?_) (fun f cdv A outer s H vs Q E hr h => ?_)
  · obtain ⟨p0, ps, h, rfl, _⟩ := h
    rfl
  · obtain ⟨p0, ps, h, rfl, ⟨hP, TR, hz⟩, hl, k⟩ := h
    obtain ⟨ch, cz⟩ := TR h hl
    obtain ⟨rest, eh⟩ := ch.head
    refine ⟨_, (pss_cons (ps_set (i := 2) sc_lup.nd rfl (Or.inl rfl) (pe_lst (pa_cons (pv 1) pa_nil)))
      (pss_cons (ps_for PassesOwn.never rfl (pi_range1 rfl T.n_range (pa_cons (pe_callB (call_lenK (K := K) rfl) (by rfl) T.n_len PySem.boot_len (pa_cons (pv 0) pa_nil)) pa_nil)) (pg_name (i := 3) sc_lup.nd rfl (Or.inl rfl)) (pss_cons (ps_if (pt_cmpR op_isN (pe_ix (ix_listK (K := K) rfl) (pv 0) (pe_ix (ix_listK (K := K) rfl) (pv 2) (pe_un un_neg pe_int) (fun _ _ => rfl)) (fun _ _ => rfl)) pe_non (nomark _)) (pss_one (ps_break)) pss_nil)
      (pss_one (ps_expr (pe_bm PySem.F.plainAttrs_list PySem.F.slot_list_append PySem.F.type_list_append mt_append (pv 2) (pa_cons (pe_ix (ix_listK (K := K) rfl) (pv 0) (pe_ix (ix_listK (K := K) rfl) (pv 2) (pe_un un_neg pe_int) (fun _ _ => rfl)) (fun _ _ => rfl)) pa_nil))))))
      (pss_one (ps_ret (pv 2))))), ?_⟩
    refine ⟨_, rfl, small (by show 1 ≤ 100000; decide), fun p hp => ?_⟩
    have s1 : L2.Same H (L2.upd H p (.lst [nv h])) := same_upd hp
    refine ⟨_, rfl, p0, _, rfl, .inl (SqL.of (s1 _ _ hP)), _, rfl, by omega, by rw [List.length_map]; omega, ?_⟩
    rw [List.length_map, Int.toNat_natCast]
    refine for_range (lo := 0) (n := ps.length) (fun i σ H' => i < (up ps h).length ∧ ∃ v3 : Option V, σ = [some (.ref p0), some (nv h), some (.ref p), v3] ∧ L2.Same H H' ∧ H' p = some (.lst (((up ps h).take (i + 1)).map nv)))
      ⟨by rw [eh]; simp, none, rfl, s1, by rw [upd_same, eh]; rfl⟩ ?_ ?_
    · rintro i σ H2 hi ⟨hi2, v3, rfl, s2, hL⟩
      have hP2 := s2 _ _ hP
      have hx : (up ps h)[i]? = some (up ps h)[i] := List.getElem?_eq_getElem hi2
      generalize (up ps h)[i] = x at hx
      have hlast : (((up ps h).take (i + 1)).map nv).getLast? = some (nv x) := by
        rw [List.getLast?_eq_getElem?, List.length_map, List.length_take, Nat.min_eq_left (by omega), List.getElem?_map, List.getElem?_take, if_pos (by omega), Nat.add_sub_cancel, hx]
        rfl
      rcases ch.next hx with ⟨e0, e1⟩ | ⟨y, e0, e1⟩
      · have hv : (ps.map ov)[x]? = some V.non := by rw [List.getElem?_map, e0]; rfl
        refine ⟨_, rfl, _, rfl, 1, rfl, p, _, _, _, rfl, rfl, SqL.of hL, atI_last hlast, p0, _, _, _, rfl, rfl, SqL.of hP2, atI_nat hv, rfl, _, rfl, iteT ?_⟩
        refine ⟨_, rfl, k _ p s2 hp ?_⟩
        rw [hL, e1, List.take_length]
      · have hv : (ps.map ov)[x]? = some (nv y) := by rw [List.getElem?_map, e0]; rfl
        refine ⟨_, rfl, _, rfl, 1, rfl, p, _, _, _, rfl, rfl, SqL.of hL, atI_last hlast, p0, _, _, _, rfl, rfl, SqL.of hP2, atI_nat hv, rfl, _, rfl, iteF ?_⟩
        refine ⟨_, rfl, .inl ⟨rfl, _, SqL.of hL⟩, _, rfl, _, rfl, 1, rfl, p, _, _, _, rfl, rfl, SqL.of hL, atI_last hlast, p0, _, _, _, rfl, rfl, SqL.of hP2, atI_nat hv, p, _, _, rfl, rfl, hL, ?_, ?_⟩
        · rw [List.length_map, List.length_take]
          exact smalls (by omega)
        · refine ⟨(List.getElem?_eq_some_iff.mp e1).1, _, rfl, Same.upd s2 hp, ?_⟩
          rw [upd_same, List.take_add_one (i := i + 1), e1, List.map_append]
          rfl
    · rintro σ H2 ⟨hi, _⟩
      omega

end
end W2
namespace W2
open PySem PySem.Spec PyProof.Rows L2
section
variable {P : Program} {w : World} {K : PySem.W.Frag} {mg : Str → Option Value} {base : Heap} {C fI : Addr}
theorem ok_lroot (D : Def K mg "_law_root" s_lroot ["_law_parents_here", "_law_house"]) (T : Txt K mg) (C_lup : Cal P w K mg base 1 "_law_up" ["_law_parents_here", "_law_house"] spLUp) : Cal P w K mg base 2 "_law_root" ["_law_parents_here", "_law_house"] spLRoot := by
  refine D.cal sc_lroot (fun vs H Q E h => ?_) (fun f cdv A outer s H vs Q E hr h => ?_)
  · obtain ⟨p0, ps, h, rfl, _⟩ := h
    rfl
  · obtain ⟨p0, ps, h, rfl, HS, hl, k⟩ := h
    refine ⟨_, (pss_one (ps_ret (pe_ix (ix_listK (K := K) rfl) (pcal C_lup hr (by decide) rfl (pa_cons (pv 0) (pa_cons (pv 1) pa_nil))) (pe_un un_neg pe_int) (fun _ _ => rfl)))), ?_⟩
    refine ⟨_, rfl, _, rfl, p0, ps, h, rfl, HS, hl, fun H1 p s1 hp hL => ⟨1, rfl, p, _, _, _, rfl, rfl, SqL.of hL, atI_last ?_, k _ s1⟩⟩
    obtain ⟨r, e1, _⟩ := (HS.2.1 h hl).1.last
    rw [List.getLast?_map, e1]
    show some (nv r) = some (nv (rt ps h))
    unfold rt
    rw [List.getLastD_eq_getLast?, e1]
    rfl

end
end W2
namespace W2
open PySem PySem.Spec PyProof.Rows L2
section
variable {P : Program} {w : World} {K : PySem.W.Frag} {mg : Str → Option Value} {base : Heap} {C fI : Addr}
theorem ok_lcommon (D : Def K mg "_law_common" s_lcommon ["_law_parents_here", "_law_one", "_law_other"]) (T : Txt K mg) (C_lup : Cal P w K mg base 1 "_law_up" ["_law_parents_here", "_law_house"] spLUp) : Cal P w K mg base 2 "_law_common" ["_law_parents_here", "_law_one", "_law_other"] spLCommon := by
  refine D.cal sc_lcommon (fun vs H Q E h => ?_) (fun f cdv A outer s H vs Q E hr h => ?_)
  · obtain ⟨p0, ps, h, g, rfl, _⟩ := h
    rfl
  · obtain ⟨p0, ps, h, g, rfl, HP, hl, gl, k⟩ := h
    refine ⟨_, (pss_cons (ps_set (i := 3) sc_lcommon.nd rfl (Or.inl rfl) (pcal C_lup hr (by decide) rfl (pa_cons (pv 0) (pa_cons (pv 2) pa_nil))))
      (pss_cons (ps_for PassesOwn.never rfl (pi_list (pcal C_lup hr (by decide) rfl (pa_cons (pv 0) (pa_cons (pv 1) pa_nil)))) (pg_name (i := 4) sc_lcommon.nd rfl (Or.inl rfl)) (pss_one (ps_if (pt_cmpR (op_inK (K := K) rfl) (pv 4) (pv 3) (by rfl)) (pss_one (ps_ret (pv 4))) pss_nil)))
      (pss_one (ps_ret pe_non)))), ?_⟩
    refine ⟨_, rfl, _, rfl, p0, ps, g, rfl, HP, gl, fun H1 p s1 hp hL => ?_⟩
    refine ⟨_, rfl, _, rfl, p0, ps, h, rfl, HP.same s1, hl, fun H2 q s2 hq hL2 => ⟨q, rfl, ⟨_, SqL.of hL2⟩, ?_⟩⟩
    have hL1 := s2 _ _ hL
    refine for_list (K := K) (a := q) (xs := (up ps h).map nv) (fun i σ H' => ∃ v4 : Option V, σ = [some (.ref p0), some (nv h), some (nv g), some (.ref p), v4] ∧ L2.Same H2 H' ∧ ∀ (j y : Nat), j < i → (up ps h)[j]? = some y → y ∉ up ps g)
      ⟨none, rfl, L2.Same.refl _, fun j y hj => by omega⟩ (fun i σ H' _ ⟨_, _, sm, _⟩ => SqL.of (sm _ _ hL2)) ?_ ?_
    · rintro i x σ H3 hx ⟨v4, rfl, s3, hn⟩
      rw [List.getElem?_map] at hx
      cases hy : (up ps h)[i]? with
      | none => rw [hy] at hx; cases hx
      | some y =>
        rw [hy] at hx
        have ez : x = nv y := (Option.some.inj hx).symm
        subst ez
        refine ⟨_, rfl, _, rfl, p, _, rfl, .inl (SqL.of (s3 _ _ hL1)), rfl, flat_nv _, _, rfl, ?_⟩
        show if (inV (nv y) ((up ps g).map nv)) = true then _ else _
        rw [inV_nv]
        refine iteB (fun e => ?_) (fun e => ?_)
        · refine ⟨_, rfl, ?_⟩
          have r := k _ ((s1.trans s2).trans s3)
          rw [fnd_some hy (of_decide_eq_true e) hn] at r
          exact r
        · refine ⟨_, rfl, s3, fun j z hj hz => ?_⟩
          by_cases ej : j = i
          · subst ej
            rw [hy] at hz
            cases hz
            exact of_decide_eq_false e
          · exact hn j z (by omega) hz
    · rintro σ H3 ⟨v4, rfl, s3, hn⟩
      have r := k _ ((s1.trans s2).trans s3)
      rw [fnd_none (fun j y hy => hn j y (by rw [List.length_map]; exact (List.getElem?_eq_some_iff.mp hy).1) hy)] at r
      exact r

end
end W2
namespace W2
open PySem PySem.Spec PyProof.Rows L2
section
variable {P : Program} {w : World} {K : PySem.W.Frag} {mg : Str → Option Value} {base : Heap} {C fI : Addr}
theorem ok_lway (D : Def K mg "_law_way" s_lway ["_law_parents_here", "_law_one", "_law_other"]) (T : Txt K mg) (C_lcommon : Cal P w K mg base 2 "_law_common" ["_law_parents_here", "_law_one", "_law_other"] spLCommon) (C_lup : Cal P w K mg base 1 "_law_up" ["_law_parents_here", "_law_house"] spLUp) : Cal P w K mg base 3 "_law_way" ["_law_parents_here", "_law_one", "_law_other"] spLWay := by
  refine D.cal sc_lway (fun vs H Q E h => ?_) (fun f cdv A outer s H vs Q E hr h => ?_)
  · obtain ⟨p0, ps, h, g, rfl, _⟩ := h
    rfl
  · obtain ⟨p0, ps, h, g, rfl, HP, hl, gl, k0, k1⟩ := h
    refine ⟨_, (pss_cons (ps_set (i := 3) sc_lway.nd rfl (Or.inl rfl) (pcal C_lcommon hr (by decide) rfl (pa_cons (pv 0) (pa_cons (pv 1) (pa_cons (pv 2) pa_nil)))))
      (pss_cons (ps_if (pt_cmpR op_isN (pv 3) pe_non (nomark _)) (pss_one (ps_ret pe_non)) pss_nil)
      (pss_cons (ps_set (i := 4) sc_lway.nd rfl (Or.inl rfl) (pcal C_lup hr (by decide) rfl (pa_cons (pv 0) (pa_cons (pv 1) pa_nil))))
      (pss_cons (ps_set (i := 5) sc_lway.nd rfl (Or.inl rfl) (pcal C_lup hr (by decide) rfl (pa_cons (pv 0) (pa_cons (pv 2) pa_nil))))
      (pss_cons (ps_set (i := 6) sc_lway.nd rfl (Or.inr rfl) (pe_slice sl_list (pv 5) po_none (po_some (pe_bm PySem.F.plainAttrs_list PySem.F.slot_list_index PySem.F.type_list_index mt_index (pv 5) (pa_cons (pv 3) pa_nil)))))
      (pss_one (ps_ret (pe_op op_cat (pe_slice sl_list (pv 4) po_none (po_some (pe_op op_add (pe_bm PySem.F.plainAttrs_list PySem.F.slot_list_index PySem.F.type_list_index mt_index (pv 4) (pa_cons (pv 3) pa_nil)) pe_int))) (pe_lc (own := [("_law_k", 7)]) (g := gName 7) (tt := tYes) (by rfl) sc_lway.nd (pi_range1 rfl T.n_range (pa_cons (pe_callB (call_lenK (K := K) rfl) (by rfl) T.n_len PySem.boot_len (pa_cons (pv 6) pa_nil)) pa_nil)) (blkOk_by (own := [("_law_k", 7)]) (N := ["_law_parents_here", "_law_one", "_law_other", "_law_top", "_law_first", "_law_later", "_law_back", "_law_k"]) (sc := defScope s_lway) (by decide +kernel)) (fun _ _ _ _ _ => pg_name (i := 7) sc_lway.nd rfl (Or.inl rfl)) (fun _ _ _ _ _ => pts_nil) (fun _ _ _ _ _ => (pe_ix (ix_listK (K := K) rfl) (pv 6) (pe_op op_sub (pe_op op_sub (pe_callB (call_lenK (K := K) rfl) (by rfl) T.n_len PySem.boot_len (pa_cons (pv 6) pa_nil)) pe_int) (pv 7)) (fun _ _ => rfl)))))))))))), ?_⟩
    have ch := HP.2.1 h hl
    have cg := HP.2.1 g gl
    have hz := HP.2.2
    refine ⟨_, rfl, _, rfl, _, rfl, p0, ps, h, g, rfl, HP, hl, gl, fun H1 s1 => ?_⟩
    cases e : fnd (up ps h) (up ps g) with
    | none =>
      refine ⟨_, rfl, rfl, _, rfl, iteT ?_⟩
      exact k0 e _ s1
    | some x =>
      obtain ⟨xm, pre, post, e1, _⟩ := fnd_split e
      have xl : x ∈ up ps h := by rw [e1]; simp
      have il : (up ps h).idxOf x < (up ps h).length := List.idxOf_lt_length_of_mem xl
      have im : (up ps g).idxOf x < (up ps g).length := List.idxOf_lt_length_of_mem xm
      refine ⟨_, rfl, rfl, _, rfl, iteF ?_⟩
      have HP1 := HP.same s1
      -- first, later
      refine ⟨_, rfl, _, rfl, p0, ps, h, rfl, HP1, hl, fun H2 r s2 hr hR => ?_⟩
      refine ⟨_, rfl, _, rfl, p0, ps, g, rfl, HP1.same s2, gl, fun H3 q s3 hq hF => ?_⟩
      have hR3 := s3 _ _ hR
      -- back = later[:later.index(top)]
      refine ⟨_, rfl, _, rfl, .inl ⟨rfl, _, SqL.of hF⟩, _, rfl, q, _, _, (up ps g).idxOf x, _, rfl, rfl, SqL.of hF, rfl, flat_nv _, idx_at xm, eqV_self x, idx_no, _, rfl, q, _, rfl, SqL.of hF, fun b hb => ?_⟩
      rw [cut_to _ _ (by rw [List.length_map]; omega)]
      have s4 : L2.Same H3 (L2.upd H3 b (.lst (((up ps g).map nv).take ((up ps g).idxOf x)))) := same_upd hb
      -- first[:first.index(top) + 1]
      refine ⟨_, rfl, _, rfl, .inl ⟨rfl, _, SqL.of (s4 _ _ hR3)⟩, _, rfl, r, _, _, (up ps h).idxOf x, _, rfl, rfl, SqL.of (s4 _ _ hR3), rfl, flat_nv _, idx_at xl, eqV_self x, idx_no, _, _, rfl, rfl, _, rfl, r, _, rfl, SqL.of (s4 _ _ hR3), fun a ha => ?_⟩
      have ec : cutV ((up ps h).map nv) none (some (((up ps h).idxOf x : Nat) + 1 : Int)) = ((up ps h).map nv).take ((up ps h).idxOf x + 1) := cut_to _ ((up ps h).idxOf x + 1) (by rw [List.length_map]; omega)
      rw [ec]
      have s5 := s4.trans (same_upd (o := .lst (((up ps h).map nv).take ((up ps h).idxOf x + 1))) ha)
      have nba : b ≠ a := fun z => by subst z; rw [upd_same] at ha; cases ha
      generalize hH5 : L2.upd (L2.upd H3 b _) a _ = H5 at ha s5
      have hA5 : H5 a = some (.lst (((up ps h).map nv).take ((up ps h).idxOf x + 1))) := by rw [← hH5]; exact upd_same
      have hB5 : H5 b = some (.lst (((up ps g).take ((up ps g).idxOf x)).map nv)) := by rw [← hH5, upd_ne nba, upd_same, List.map_take]
      generalize hbk : (up ps g).take ((up ps g).idxOf x) = bk at hB5
      have bz : bk.length ≤ 64 := by rw [← hbk, List.length_take]; omega
      -- [back[len(back) - 1 - k] for k in range(len(back))]
      refine ⟨_, rfl, b, _, rfl, .inl (SqL.of hB5), _, rfl, by omega, by rw [List.length_map]; omega, fun D hD => ?_⟩
      rw [List.length_map, Int.toNat_natCast]
      refine lc_range (lo := 0) (n := bk.length) (fun i H' => L2.Same H5 H' ∧ H' D = some (.lst (((List.range i).map fun k => bk.getD (bk.length - 1 - k) 0).map nv))) ⟨same_upd hD, by rw [upd_same]; rfl⟩ ?_ ?_
      · rintro i H6 hi ⟨s6, hd⟩
        rw [Int.zero_add]
        have hj : bk.length - 1 - i < bk.length := by omega
        have hat : atI (bk.map nv) (((bk.map nv).length : Int) - 1 - (i : Int)) = some (nv (bk.getD (bk.length - 1 - i) 0)) := by
          rw [List.length_map]
          refine at_of (j := bk.length - 1 - i) (by omega) ?_
          rw [List.getElem?_map, List.getD_eq_getElem?_getD, List.getElem?_eq_getElem hj]
          rfl
        refine ⟨rfl, _, rfl, _, rfl, b, _, rfl, .inl (SqL.of (s6 _ _ hB5)), _, _, rfl, rfl, _, rfl, _, _, rfl, rfl, b, _, _, _, rfl, rfl, SqL.of (s6 _ _ hB5), hat, _, hd, ?_, Same.upd s6 hD, ?_⟩
        · rw [List.length_map, List.length_map, List.length_range]
          exact smalls (by omega)
        · rw [upd_same, List.range_succ, List.map_append, List.map_append]
          rfl
      · rintro H6 ⟨s6, hd⟩
        rw [rev_idx] at hd
        refine ⟨a, D, _, _, rfl, rfl, s6 _ _ hA5, hd, ?_, fun t ht => ?_⟩
        · rw [List.length_map, List.length_reverse, List.length_take, List.length_map]
          exact small (by omega)
        · have sA := (((s1.trans s2).trans s3).trans s5).trans s6
          refine k1 x e _ t (sA.trans (same_upd ht)) (sA.free ht) ?_
          rw [upd_same]
          unfold wayOf
          rw [hbk, ← take_idx xl, List.map_append, List.map_take]

end
end W2
namespace W2
open PySem PySem.Spec PyProof.Rows L2
section
variable {P : Program} {w : World} {K : PySem.W.Frag} {mg : Str → Option Value} {base : Heap} {C fI : Addr}
theorem ok_lbelow (D : Def K mg "_law_below" s_lbelow ["_law_parents_here", "_law_house"]) (T : Txt K mg) (C_lup : Cal P w K mg base 1 "_law_up" ["_law_parents_here", "_law_house"] spLUp) : Cal P w K mg base 2 "_law_below" ["_law_parents_here", "_law_house"] spLBelow := by
  refine D.cal sc_lbelow (fun vs H Q E h => ?_) (fun f cdv A outer s H vs Q E hr h => ?_)
  · obtain ⟨p0, ps, h, rfl, _⟩ := h
    rfl
  · obtain ⟨p0, ps, h, rfl, HP, hl, k⟩ := h
    refine ⟨_, (pss_one (ps_ret (pe_lc (own := [("_law_other", 2)]) (g := gName 2) (by rfl) sc_lbelow.nd (pi_range1 rfl T.n_range (pa_cons (pe_callB (call_lenK (K := K) rfl) (by rfl) T.n_len PySem.boot_len (pa_cons (pv 0) pa_nil)) pa_nil)) (blkOk_by (own := [("_law_other", 2)]) (N := ["_law_parents_here", "_law_house", "_law_other"]) (sc := defScope s_lbelow) (by decide +kernel)) (fun _ _ _ _ _ => pg_name (i := 2) sc_lbelow.nd rfl (Or.inl rfl)) (fun _ _ _ _ _ => pts_one (pt_cmpR (op_inK (K := K) rfl) (pv 1) (pcal C_lup hr (by decide) rfl (pa_cons (pv 0) (pa_cons (pv 2) pa_nil))) (by rfl))) (fun _ _ _ _ _ => (pv 2))))), ?_⟩
    have hz := HP.2.2
    refine ⟨_, rfl, p0, _, rfl, .inl (SqL.of HP.1), _, rfl, by omega, by rw [List.length_map]; omega, fun D hD => ?_⟩
    rw [List.length_map, Int.toNat_natCast]
    refine lc_range (lo := 0) (n := ps.length) (fun i H' => L2.Same H H' ∧ H' D = some (.lst (((List.range i).filter fun s => decide (h ∈ up ps s)).map nv))) ⟨same_upd hD, by rw [upd_same]; rfl⟩ ?_ ?_
    · rintro i H3 hi ⟨s3, hd⟩
      rw [Int.zero_add]
      have lenb : (((List.range i).filter fun s => decide (h ∈ up ps s)).map nv).length ≤ i := by
        rw [List.length_map]
        exact Nat.le_trans (List.length_filter_le _ _) (by rw [List.length_range]; exact Nat.le_refl _)
      refine ⟨rfl, _, rfl, _, rfl, _, rfl, p0, ps, i, rfl, HP.same s3, hi, fun H4 q s4 hq hL => ⟨q, _, rfl, .inl (SqL.of hL), rfl, flat_nv _, _, rfl, ?_⟩⟩
      show if (inV (nv h) ((up ps i).map nv)) = true then _ else _
      rw [inV_nv]
      refine iteB (fun e => ?_) (fun e => ?_)
      · refine ⟨_, rfl, _, s4 _ _ hd, smalls (by omega), Same.upd (s3.trans s4) hD, ?_⟩
        rw [upd_same, List.range_succ, List.filter_append, List.filter_cons, if_pos e, List.map_append]
        rfl
      · refine ⟨s3.trans s4, ?_⟩
        rw [s4 _ _ hd, List.range_succ, List.filter_append, List.filter_cons, if_neg (by rw [e]; decide), List.map_append]
        simp
    · rintro H3 ⟨s3, hd⟩
      exact k _ D s3 hD hd

end
end W2
namespace W2
open PySem PySem.Spec PyProof.Rows L2
section
variable {P : Program} {w : World} {K : PySem.W.Frag} {mg : Str → Option Value} {base : Heap} {C fI : Addr}
theorem ok_law {f0 : Addr} {fd0 : FuncData} (F : Fun K "law" "law" s_law f0 fd0) (T : Txt K mg) (C_lhand : Cal P w K mg base 1 "_law_hand" ["_law_script"] (spHand K)) (C_plain : Cal P w K mg base 4 "_law_plain" ["_law_hand_here", "_law_sizes"] spPlain) (C_fof : Cal P w K mg base 6 "_law_forest_of" ["_law_plain_here"] (spFof C)) (C_take : Cal P w K mg base 1 "_law_take" ["_law_hand_here", "_law_size"] spTake) (C_pick : Cal P w K mg base 2 "_law_pick" ["_law_hand_here", "_law_things"] spPick) (C_lbelow : Cal P w K mg base 2 "_law_below" ["_law_parents_here", "_law_house"] spLBelow) (C_lroot : Cal P w K mg base 2 "_law_root" ["_law_parents_here", "_law_house"] spLRoot) (C_root : Cal P w K mg base 5 "root" ["forest", "house"] (spRoot C)) (C_depth : Cal P w K mg base 5 "depth" ["forest", "house"] (spDepth C)) (C_lup : Cal P w K mg base 1 "_law_up" ["_law_parents_here", "_law_house"] spLUp) (C_below : Cal P w K mg base 5 "below" ["forest", "house"] (spBelow C)) (C_lway : Cal P w K mg base 3 "_law_way" ["_law_parents_here", "_law_one", "_law_other"] spLWay) (C_way : Cal P w K mg base 6 "way" ["forest", "one", "other"] (spWay C)) (C_common : Cal P w K mg base 5 "common" ["forest", "one", "other"] (spCommon C)) (C_lcommon : Cal P w K mg base 2 "_law_common" ["_law_parents_here", "_law_one", "_law_other"] spLCommon) (C_same : Cal P w K mg base 5 "_law_same" ["_law_actual", "_law_due"] (spSame 3)) (FC : ForC K mg C fI) : FnOk P w K mg base CX0 10 f0 fd0 ["_law_script"] (spLaw K) := by
  refine F.ok sc_law (fun vs H Q E h => ?_) (fun cdv A outer s H vs Q E hr h => ?_)
  · obtain ⟨a, ns, rfl, _⟩ := h
    rfl
  · obtain ⟨sa, ns, rfl, hS, hlen, k⟩ := h
    refine ⟨_, (pss_cons (ps_set (i := 1) sc_law.nd rfl (Or.inl rfl) (pcal C_lhand hr (by decide) rfl (pa_cons (pv 0) pa_nil)))
      (pss_cons (ps_set (i := 2) sc_law.nd rfl (Or.inl rfl) (pcal C_plain hr (by decide) rfl (pa_cons (pv 1) (pa_cons (pe_lst (pa_cons pe_int (pa_cons pe_int (pa_cons pe_int (pa_cons pe_int (pa_cons pe_int (pa_cons pe_int (pa_cons pe_int pa_nil)))))))) pa_nil))))
      (pss_cons (ps_set (i := 3) sc_law.nd rfl (Or.inl rfl) (pcal C_fof hr (by decide) rfl (pa_cons (pv 2) pa_nil)))
      (pss_cons (ps_set (i := 4) sc_law.nd rfl (Or.inl rfl) (pe_ix (ix_listK (K := K) rfl) (pv 2) pe_int (fun _ _ => rfl)))
      (pss_cons (ps_for PassesOwn.never rfl (pi_range1 rfl T.n_range (pa_cons pe_int pa_nil)) (pg_name (i := 5) sc_law.nd rfl (Or.inl rfl)) (pss_cons (ps_set (i := 6) sc_law.nd rfl (Or.inl rfl) (pcal C_take hr (by decide) rfl (pa_cons (pv 1) (pa_cons (pe_callB (call_lenK (K := K) rfl) (by rfl) T.n_len PySem.boot_len (pa_cons (pv 4) pa_nil)) pa_nil))))
      (pss_cons (ps_set (i := 7) sc_law.nd rfl (Or.inl rfl) (pcal C_take hr (by decide) rfl (pa_cons (pv 1) (pa_cons (pe_callB (call_lenK (K := K) rfl) (by rfl) T.n_len PySem.boot_len (pa_cons (pv 4) pa_nil)) pa_nil))))
      (C8.pss_cut (ps_if (pt_cmpR op_eq (pcal C_take hr (by decide) rfl (pa_cons (pv 1) (pa_cons pe_int pa_nil))) pe_int (nomark _)) (pss_one (ps_set (i := 7) sc_law.nd rfl (Or.inl rfl) (pcal C_pick hr (by decide) rfl (pa_cons (pv 1) (pa_cons (pcal C_lbelow hr (by decide) rfl (pa_cons (pv 4) (pa_cons (pcal C_lroot hr (by decide) rfl (pa_cons (pv 4) (pa_cons (pv 6) pa_nil))) pa_nil))) pa_nil))))) pss_nil)
      (pss_cons (ps_if (pt_not (pt_val (pcal C_same hr (by decide) rfl (pa_cons (pcal C_root hr (by decide) rfl (pa_cons (pv 3) (pa_cons (pv 6) pa_nil))) (pa_cons (pcal C_lroot hr (by decide) rfl (pa_cons (pv 4) (pa_cons (pv 6) pa_nil))) pa_nil))))) (pss_one (ps_ret pe_bl)) pss_nil)
      (pss_cons (ps_if (pt_not (pt_val (pcal C_same hr (by decide) rfl (pa_cons (pcal C_depth hr (by decide) rfl (pa_cons (pv 3) (pa_cons (pv 6) pa_nil))) (pa_cons (pe_op op_sub (pe_callB (call_lenK (K := K) rfl) (by rfl) T.n_len PySem.boot_len (pa_cons (pcal C_lup hr (by decide) rfl (pa_cons (pv 4) (pa_cons (pv 6) pa_nil))) pa_nil)) pe_int) pa_nil))))) (pss_one (ps_ret pe_bl)) pss_nil)
      (pss_cons (ps_if (pt_not (pt_val (pcal C_same hr (by decide) rfl (pa_cons (pcal C_below hr (by decide) rfl (pa_cons (pv 3) (pa_cons (pv 6) pa_nil))) (pa_cons (pe_callTy call_tuple_of (by rfl) T.n_tuple (by decide +kernel) (pa_cons (pcal C_lbelow hr (by decide) rfl (pa_cons (pv 4) (pa_cons (pv 6) pa_nil))) pa_nil)) pa_nil))))) (pss_one (ps_ret pe_bl)) pss_nil)
      (pss_cons (ps_set (i := 8) sc_law.nd rfl (Or.inl rfl) (pcal C_lway hr (by decide) rfl (pa_cons (pv 4) (pa_cons (pv 6) (pa_cons (pv 7) pa_nil)))))
      (pss_cons (ps_if (pt_cmpR op_notN (pv 8) pe_non (nomark _)) (pss_one (ps_set (i := 8) sc_law.nd rfl (Or.inl rfl) (pe_callTy call_tuple_of (by rfl) T.n_tuple (by decide +kernel) (pa_cons (pv 8) pa_nil)))) pss_nil)
      (pss_one (ps_if (PW.pt (pw_or (pt_not (pt_val (pcal C_same hr (by decide) rfl (pa_cons (pcal C_way hr (by decide) rfl (pa_cons (pv 3) (pa_cons (pv 6) (pa_cons (pv 7) pa_nil)))) (pa_cons (pv 8) pa_nil))))) (pw_or1 (pt_not (pt_val (pcal C_same hr (by decide) rfl (pa_cons (pcal C_common hr (by decide) rfl (pa_cons (pv 3) (pa_cons (pv 6) (pa_cons (pv 7) pa_nil)))) (pa_cons (pcal C_lcommon hr (by decide) rfl (pa_cons (pv 4) (pa_cons (pv 6) (pa_cons (pv 7) pa_nil)))) pa_nil)))))))) (pss_one (ps_ret pe_bl)) pss_nil)))))))))))
      (pss_one (ps_ret (pcal C_same hr (by decide) rfl (pa_cons (pe_tup (pa_cons (pe_fld (pv 3) rfl) (pa_cons (pe_fld (pv 3) rfl) pa_nil))) (pa_cons (pe_tup (pa_cons (pe_callTy call_tuple_of (by rfl) T.n_tuple (by decide +kernel) (pa_cons (pv 4) pa_nil)) (pa_cons (pe_callTy call_tuple_of (by rfl) T.n_tuple (by decide +kernel) (pa_cons (pe_ix (ix_listK (K := K) rfl) (pv 2) pe_int (fun _ _ => rfl)) pa_nil)) pa_nil))) pa_nil)))))))))), ?_⟩
    refine ⟨_, rfl, sa, ns, rfl, hS, fun H1 h l s1 hh0 hand1 => ?_⟩
    refine ⟨_, rfl, small (by show 7 ≤ 100000; decide), fun t ht => ?_⟩
    obtain ⟨lh1, eh1⟩ := hand1.lst
    have nth : t ≠ h := (ne_of_none eh1 ht).symm
    refine ⟨h, l, t, [1, 2, 4, 9, 20, 33, 64], rfl, hand1.upd ht, upd_same, nth, by decide, by decide, by decide, fun H2 pl p q ps ws b2 hand2 hpl hp hq ePl eP eQ TR n1 n64 lw => ?_⟩
    have eh1' : (L2.upd H1 t (.lst [.int 1, .int 2, .int 4, .int 9, .int 20, .int 33, .int 64])) h = some (.lst lh1) := by rw [upd_ne nth.symm]; exact eh1
    have nplh : pl ≠ h := (ne_of_none eh1' hpl).symm
    have nph : p ≠ h := (ne_of_none eh1' hp).symm
    have nqh : q ≠ h := (ne_of_none eh1' hq).symm
    refine ⟨_, rfl, pl, p, q, ps, ws, rfl, ePl, eP, eQ, TR, n1, n64, lw, fun H3 f dx a b s3 hf FA => ?_⟩
    have g3 : Good C H3 h l pl p q f ps ws dx a b := ⟨hand2.same s3, FA, s3 _ _ ePl, s3 _ _ eP, s3 _ _ eQ⟩
    refine ⟨_, rfl, pl, _, _, _, rfl, rfl, SqL.of g3.ePl, rfl, ?_⟩
    refine ⟨_, rfl, by decide, by decide, ?_⟩
    refine for_range (lo := 0) (n := 5) (fun i σ H' => ∃ v5 v6 v7 v8 : Option V, σ = [some (.ref sa), some (.ref h), some (.ref pl), some (.ref f), some (.ref p), v5, v6, v7, v8] ∧ Good C H' h l pl p q f ps ws dx a b)
      ⟨none, none, none, none, rfl, g3⟩ ?_ ?_
    · rintro i σ H4 hi ⟨v5, v6, v7, v8, rfl, g4⟩
      -- one, other
      refine ⟨_, rfl, _, rfl, p, _, rfl, .inl (SqL.of g4.eP), h, l, _, rfl, g4.hand, by rw [List.length_map]; omega, by rw [List.length_map]; omega, fun H5 r1 b5 hh5 r10 r11 => ?_⟩
      rw [List.length_map] at r11
      have g5 := g4.bt nplh nph nqh b5 hh5
      refine ⟨_, rfl, _, rfl, p, _, rfl, .inl (SqL.of g5.eP), h, l, _, rfl, g5.hand, by rw [List.length_map]; omega, by rw [List.length_map]; omega, fun H6 r2 b6 hh6 r20 r21 => ?_⟩
      rw [List.length_map] at r21
      have g6 := g5.bt nplh nph nqh b6 hh6
      obtain ⟨one, rfl⟩ : ∃ one : Nat, r1 = (one : Int) := ⟨r1.toNat, by omega⟩
      obtain ⟨other0, rfl⟩ : ∃ o : Nat, r2 = (o : Int) := ⟨r2.toNat, by omega⟩
      have l1 : one < ps.length := by omega
      refine ⟨fun σ H' => ∃ other : Nat, other < ps.length ∧ σ = [some (.ref sa), some (.ref h), some (.ref pl), some (.ref f), some (.ref p), some (.int (0 + (i : Int))), some (nv one), some (nv other), v8] ∧ Good C H' h l pl p q f ps ws dx a b, ?_, ?_⟩
      · refine ⟨_, rfl, h, l, _, rfl, g6.hand, by decide, by decide, fun H7 r b7 hh7 r0 r1' => ⟨rfl, _, rfl, iteB (fun _ => ?_) (fun _ => ?_)⟩⟩
        · have g7 := g6.bt nplh nph nqh b7 hh7
          have P7 : Pl H7 p ps := ⟨g7.eP, TR, n64⟩
          refine ⟨_, rfl, _, rfl, _, rfl, _, rfl, p, ps, one, rfl, P7, l1, fun H8 s8 => ?_⟩
          refine ⟨p, ps, rt ps one, rfl, P7.same s8, rt_lt TR l1, fun H9 z s9 hz eZ => ?_⟩
          have g9 := (g7.same s8).same s9
          obtain ⟨lh8, eh8⟩ := (g7.same s8).hand.lst
          have nzh : z ≠ h := (ne_of_none eh8 hz).symm
          have mem : one ∈ bel ps (rt ps one) := bel_mem.mpr ⟨l1, rt_mem TR l1⟩
          refine ⟨h, l, z, _, rfl, g9.hand, eZ, nzh, ?_, ?_, fun H10 x b10 hh10 hx => ?_⟩
          · rw [List.length_map]
            exact List.length_pos_of_mem mem
          · rw [List.length_map]
            have := bel_len ps (rt ps one)
            omega
          · obtain ⟨y, hy, rfl⟩ := List.mem_map.mp hx
            exact ⟨y, (bel_mem.mp hy).1, rfl, g9.bt nplh nph nqh b10 hh10⟩
        · exact ⟨other0, by omega, rfl, g6.bt nplh nph nqh b7 hh7⟩
      · rintro σ H7 ⟨other, l2, rfl, g7⟩
        have hs : ∀ {H}, Good C H h l pl p q f ps ws dx a b → Hs C H f ps := fun g => ⟨⟨ws, dx, a, b, g.F⟩, TR, n64⟩
        have pl' : ∀ {H}, Good C H h l pl p q f ps ws dx a b → Pl H p ps := fun g => ⟨g.eP, TR, n64⟩
        -- root
        refine ⟨_, rfl, _, rfl, f, ps, one, rfl, hs g7, l1, fun H8 s8 => ?_⟩
        have g8 := g7.same s8
        refine ⟨_, rfl, _, rfl, p, ps, one, rfl, pl' g8, l1, fun H9 s9 => ⟨_, _, rfl, .inr (.inl ⟨_, rfl, rfl⟩), fun H10 s10 => ⟨true, rfl, iteF ?_⟩⟩⟩
        have g10 := (g8.same s9).same s10
        -- depth
        refine ⟨_, rfl, _, rfl, f, ps, one, rfl, hs g10, l1, fun H11 s11 => ?_⟩
        have g11 := g10.same s11
        refine ⟨_, rfl, _, rfl, p, ps, one, rfl, pl' g11, l1, fun H12 z s12 hz eZ => ⟨z, _, rfl, .inl (SqL.of eZ), _, _, rfl, rfl, _, _, rfl, .inr (.inl ⟨_, rfl, by rw [List.length_map]⟩), fun H13 s13 => ⟨true, rfl, iteF ?_⟩⟩⟩
        have g13 := (g11.same s12).same s13
        -- below
        refine ⟨_, rfl, _, rfl, f, ps, one, rfl, hs g13, l1, fun H14 u s14 hu eU => ?_⟩
        have g14 := g13.same s14
        refine ⟨_, rfl, _, rfl, p, ps, one, rfl, pl' g14, l1, fun H15 z2 s15 hz2 eZ2 => ⟨z2, _, rfl, .inl ⟨SqL.of eZ2, fun u2 hu2 => ?_⟩⟩⟩
        have eU2 := (s15.trans (same_upd (o := .tup ((bel ps one).map nv)) hu2)) _ _ eU
        refine ⟨_, _, rfl, eqs_flat (d := 1) eU2 upd_same (flat_nv2 _), fun H16 s16 => ⟨true, rfl, iteF ?_⟩⟩
        have g16 := ((g14.same s15).same (same_upd hu2)).same s16
        -- way, common
        refine ⟨_, rfl, _, rfl, _, rfl, p, ps, one, other, rfl, pl' g16, l1, l2, fun e H17 s17 => ?_, fun x e H17 z s17 hz eZ => ?_⟩
        · have g17 := g16.same s17
          refine ⟨_, rfl, rfl, _, rfl, iteF ?_⟩
          refine ⟨_, rfl, _, rfl, _, rfl, f, ps, one, other, rfl, hs g17, l1, l2, fun _ H18 s18 => ⟨_, rfl, _, _, rfl, .inl ⟨rfl, rfl⟩, fun H19 s19 => ⟨true, rfl, iteF ?_⟩⟩, fun x e2 => by rw [e] at e2; cases e2⟩
          have g19 := (g17.same s18).same s19
          refine ⟨_, rfl, _, rfl, _, rfl, f, ps, one, other, rfl, hs g19, l1, l2, fun H20 s20 => ?_⟩
          have g20 := g19.same s20
          refine ⟨_, rfl, _, rfl, _, rfl, p, ps, one, other, rfl, pl' g20, l1, l2, fun H21 s21 => ⟨_, _, rfl, ?_, fun H22 s22 => ⟨true, rfl, iteF ?_⟩⟩⟩
          · rw [e]
            exact .inl ⟨rfl, rfl⟩
          · exact ⟨_, _, _, _, rfl, (g20.same s21).same s22⟩
        · have g17 := g16.same s17
          refine ⟨_, rfl, rfl, _, rfl, iteT ?_⟩
          refine ⟨_, rfl, z, _, rfl, .inl ⟨SqL.of eZ, fun u3 hu3 => ?_⟩⟩
          have g18 := g17.same (same_upd (o := .tup ((wayOf (up ps one) (up ps other) x).map nv)) hu3)
          refine ⟨_, rfl, _, rfl, _, rfl, f, ps, one, other, rfl, hs g18, l1, l2, fun e2 => (by rw [e] at e2; cases e2), fun x2 e2 H19 u4 s19 hu4 eU4 => ?_⟩
          have ex : x2 = x := by rw [e] at e2; exact (Option.some.inj e2).symm
          subst ex
          have g19 := g18.same s19
          refine ⟨_, rfl, _, _, rfl, eqs_flat (d := 1) eU4 (s19 _ _ upd_same) (flat_nv2 _), fun H20 s20 => ⟨true, rfl, iteF ?_⟩⟩
          have g20 := g19.same s20
          refine ⟨_, rfl, _, rfl, _, rfl, f, ps, one, other, rfl, hs g20, l1, l2, fun H21 s21 => ?_⟩
          have g21 := g20.same s21
          refine ⟨_, rfl, _, rfl, _, rfl, p, ps, one, other, rfl, pl' g21, l1, l2, fun H22 s22 => ⟨_, _, rfl, ?_, fun H23 s23 => ⟨true, rfl, iteF ?_⟩⟩⟩
          · rw [e]
            exact .inr (.inl ⟨_, rfl, rfl⟩)
          · exact ⟨_, _, _, _, rfl, (g21.same s22).same s23⟩
    · rintro σ H4 ⟨v5, v6, v7, v8, rfl, g4⟩
      refine ⟨_, rfl, f, C, dx, _, _, rfl, g4.F.o, FC.cl, FC.nP, pf_parents a b, _, rfl, f, C, dx, _, _, rfl, g4.F.o, FC.cl, FC.nW, pf_worths a b, small (by show 2 ≤ 100000; decide), fun t1 ht1 => ?_⟩
      have g5 := g4.same (same_upd (o := .tup [.ref a, .ref b]) ht1)
      refine ⟨_, rfl, p, _, rfl, .inl ⟨SqL.of g5.eP, fun t2 ht2 => ?_⟩⟩
      have s5 := same_upd (o := .tup (ps.map ov)) ht2
      have g6 := g5.same s5
      refine ⟨_, rfl, pl, _, _, _, rfl, rfl, SqL.of g6.ePl, rfl, q, _, rfl, .inl ⟨SqL.of g6.eQ, fun t3 ht3 => ?_⟩⟩
      have s6 := same_upd (o := .tup (ws.map V.int)) ht3
      have g7 := g6.same s6
      refine ⟨small (by show 2 ≤ 100000; decide), fun t4 ht4 => ?_⟩
      have s7 := same_upd (o := .tup [.ref t2, .ref t3]) ht4
      have g8 := g7.same s7
      have e1 := s7 _ _ (s6 _ _ (s5 _ _ (upd_same (H := H4) (a := t1) (o := .tup [.ref a, .ref b]))))
      have e2 := s7 _ _ (s6 _ _ (upd_same (a := t2) (o := .tup (ps.map ov))))
      have e3 := s7 _ _ (upd_same (a := t3) (o := .tup (ws.map V.int)))
      refine ⟨_, _, rfl, .inr (.inr ⟨t1, t4, _, _, rfl, rfl, e1, upd_same, rfl, fun i x y hx hy => ?_⟩), fun H9 s9 => k _⟩
      match i, hx, hy with
      | 0, hx, hy =>
        cases hx
        cases hy
        exact eqs_flat (d := 0) g8.F.p e2 (flat_ov2 _)
      | 1, hx, hy =>
        cases hx
        cases hy
        exact eqs_flat (d := 0) g8.F.w e3 (flat_int2 _)
      | i + 2, hx, hy => cases hx

end
end W2
namespace W2
open PySem PySem.Spec PyProof.Rows L2

theorem def_mk {K : PySem.W.Frag} {h : Heap} {mg : Str → Option Value} (X : K.In h) (G : h.Ns mainGlobals mg) {x : Str} {st : Stmt} {ps : List Str} {f : Addr} {oc : Value} {od an : Option Addr} {osl : Array (Option Value)} {kV doc pm cdv ct : Value}
    (a : PySem.W.nsIn K mainGlobals x = some (some (.ref f))) (l : K.lookup f = some ⟨oc, od, .func (PySem.W.fnOf x x (defArgs st) (defBody st) (defScope st) .none kV doc pm an cdv ct), osl⟩) (c : PySem.W.codeIn K cdv x = true) (k : PySem.W.keepIn K (.ref f) = true)
    (b : ∀ (kV doc pm : Value) (an : Option Addr) (cdv ct : Value) (us : List Value), us.length = ps.length → bindArgs (PySem.W.fnOf x x (defArgs st) (defBody st) (defScope st) .none kV doc pm an cdv ct) ⟨us, []⟩ = pure (ps.zip us)) : Def K mg x st ps :=
  ⟨f, _, fun_mk (st := st) l c k, PySem.W.mg_of X G a, (fun_mk (st := st) l c k).binds b⟩
theorem txt_mk {K : PySem.W.Frag} {h : Heap} {mg : Str → Option Value} (X : K.In h) (G : h.Ns mainGlobals mg) {t : Tok} (n_len : PySem.W.nsIn K mainGlobals "len" = some none) (n_isinstance : PySem.W.nsIn K mainGlobals "isinstance" = some none) (n_int : PySem.W.nsIn K mainGlobals "int" = some none) (n_bool : PySem.W.nsIn K mainGlobals "bool" = some none) (n_str : PySem.W.nsIn K mainGlobals "str" = some none) (n_tuple : PySem.W.nsIn K mainGlobals "tuple" = some none) (n_list : PySem.W.nsIn K mainGlobals "list" = some none) (n_range : PySem.W.nsIn K mainGlobals "range" = some none) (n_zip : PySem.W.nsIn K mainGlobals "zip" = some none) (n_max : PySem.W.nsIn K mainGlobals "max" = some none) (n_all : PySem.W.nsIn K mainGlobals "all" = some none) (most : PySem.W.nsIn K mainGlobals "MOST_HOUSES" = some (some (.int 64 t))) : Txt K mg :=
  ⟨PySem.W.mg_none_of X G n_len, PySem.W.mg_none_of X G n_isinstance, PySem.W.mg_none_of X G n_int, PySem.W.mg_none_of X G n_bool, PySem.W.mg_none_of X G n_str, PySem.W.mg_none_of X G n_tuple, PySem.W.mg_none_of X G n_list, PySem.W.mg_none_of X G n_range, PySem.W.mg_none_of X G n_zip, PySem.W.mg_none_of X G n_max, PySem.W.mg_none_of X G n_all, ⟨t, PySem.W.mg_of X G most⟩⟩
/-- the law, from what the top has left -/
theorem ok_all {P : Program} {w : World} {K : PySem.W.Frag} {mg : Str → Option Value} {base : Heap} {C fI : Addr} {fdI : FuncData} (T : Txt K mg) (FC : ForC K mg C fI) (F : Fun K "__init__" "Forest.__init__" s_init fI fdI) (bI : Binds K fdI ["self", "parents", "worths"] [])
    {f0 : Addr} {fd0 : FuncData} (FL : Fun K "law" "law" s_law f0 fd0) (D_isint : Def K mg "is_integer" s_isint ["thing"]) (D_ishouse : Def K mg "is_house" s_ishouse ["many", "thing"]) (D_arepar : Def K mg "_are_parents" s_arepar ["thing"]) (D_come : Def K mg "_come_to_roots" s_come ["parents"]) (D_arewor : Def K mg "_are_worths" s_arewor ["thing", "houses"]) (D_many : Def K mg "many" s_many ["forest"]) (D_root : Def K mg "root" s_root ["forest", "house"]) (D_depth : Def K mg "depth" s_depth ["forest", "house"]) (D_below : Def K mg "below" s_below ["forest", "house"]) (D_way : Def K mg "way" s_way ["forest", "one", "other"]) (D_common : Def K mg "common" s_common ["forest", "one", "other"]) (D_wayup : Def K mg "_way_up" s_wayup ["forest", "house"]) (D_need : Def K mg "_need_house" s_need ["forest", "thing"]) (D_lhand : Def K mg "_law_hand" s_lhand ["_law_script"]) (D_take : Def K mg "_law_take" s_take ["_law_hand_here", "_law_size"]) (D_pick : Def K mg "_law_pick" s_pick ["_law_hand_here", "_law_things"]) (D_lisint : Def K mg "_law_is_integer" s_lisint ["_law_thing"]) (D_same : Def K mg "_law_same" s_same ["_law_actual", "_law_due"]) (D_value : Def K mg "_law_value" s_value ["_law_hand_here"]) (D_parents : Def K mg "_law_parents" s_parents ["_law_hand_here", "_law_size"]) (D_plain : Def K mg "_law_plain" s_plain ["_law_hand_here", "_law_sizes"]) (D_fof : Def K mg "_law_forest_of" s_fof ["_law_plain_here"]) (D_lup : Def K mg "_law_up" s_lup ["_law_parents_here", "_law_house"]) (D_lroot : Def K mg "_law_root" s_lroot ["_law_parents_here", "_law_house"]) (D_lcommon : Def K mg "_law_common" s_lcommon ["_law_parents_here", "_law_one", "_law_other"]) (D_lway : Def K mg "_law_way" s_lway ["_law_parents_here", "_law_one", "_law_other"]) (D_lbelow : Def K mg "_law_below" s_lbelow ["_law_parents_here", "_law_house"]) : FnOk P w K mg base CX0 10 f0 fd0 ["_law_script"] (spLaw K) := by
  have C_isint : Cal P w K mg base 1 "is_integer" ["thing"] spIsInt := ok_isint D_isint T
  have C_ishouse : Cal P w K mg base 2 "is_house" ["many", "thing"] spIsHouse := ok_ishouse D_ishouse T C_isint
  have C_come : Cal P w K mg base 1 "_come_to_roots" ["parents"] (spCome K) := ok_come D_come T
  have C_arepar : Cal P w K mg base 3 "_are_parents" ["thing"] (spAreP K) := ok_arepar D_arepar T C_ishouse C_come
  have C_arewor : Cal P w K mg base 2 "_are_worths" ["thing", "houses"] (spAreW K) := ok_arewor D_arewor T C_isint
  have C_many : Cal P w K mg base 1 "many" ["forest"] (spMany C) := ok_many D_many T  FC
  have C_need : Cal P w K mg base 3 "_need_house" ["forest", "thing"] (spNeed C) := ok_need D_need T C_ishouse C_many
  have C_wayup : Cal P w K mg base 4 "_way_up" ["forest", "house"] (spWayUp C) := ok_wayup D_wayup T C_need FC
  have C_root : Cal P w K mg base 5 "root" ["forest", "house"] (spRoot C) := ok_root D_root T C_wayup
  have C_depth : Cal P w K mg base 5 "depth" ["forest", "house"] (spDepth C) := ok_depth D_depth T C_wayup
  have C_below : Cal P w K mg base 5 "below" ["forest", "house"] (spBelow C) := ok_below D_below T C_need C_many C_wayup
  have C_common : Cal P w K mg base 5 "common" ["forest", "one", "other"] (spCommon C) := ok_common D_common T C_wayup
  have C_way : Cal P w K mg base 6 "way" ["forest", "one", "other"] (spWay C) := ok_way D_way T C_common C_wayup
  have C_lhand : Cal P w K mg base 1 "_law_hand" ["_law_script"] (spHand K) := ok_lhand D_lhand T
  have C_take : Cal P w K mg base 1 "_law_take" ["_law_hand_here", "_law_size"] spTake := ok_take D_take T
  have C_pick : Cal P w K mg base 2 "_law_pick" ["_law_hand_here", "_law_things"] spPick := ok_pick D_pick T C_take
  have C_lisint : Cal P w K mg base 1 "_law_is_integer" ["_law_thing"] spIsInt := ok_lisint D_lisint T
  have C_value : Cal P w K mg base 3 "_law_value" ["_law_hand_here"] spValue := ok_value D_value T C_pick C_take
  have C_parents : Cal P w K mg base 2 "_law_parents" ["_law_hand_here", "_law_size"] spParents := ok_parents D_parents T C_take
  have C_plain : Cal P w K mg base 4 "_law_plain" ["_law_hand_here", "_law_sizes"] spPlain := ok_plain D_plain T C_pick C_parents C_value
  have C_lup : Cal P w K mg base 1 "_law_up" ["_law_parents_here", "_law_house"] spLUp := ok_lup D_lup T
  have C_lroot : Cal P w K mg base 2 "_law_root" ["_law_parents_here", "_law_house"] spLRoot := ok_lroot D_lroot T C_lup
  have C_lcommon : Cal P w K mg base 2 "_law_common" ["_law_parents_here", "_law_one", "_law_other"] spLCommon := ok_lcommon D_lcommon T C_lup
  have C_lway : Cal P w K mg base 3 "_law_way" ["_law_parents_here", "_law_one", "_law_other"] spLWay := ok_lway D_lway T C_lcommon C_lup
  have C_lbelow : Cal P w K mg base 2 "_law_below" ["_law_parents_here", "_law_house"] spLBelow := ok_lbelow D_lbelow T C_lup
  have C_same : Cal P w K mg base 5 "_law_same" ["_law_actual", "_law_due"] (spSame 3) := ok_same D_same T C_lisint 3
  have FI : FnOk P w K mg base CX0 4 fI fdI ["self", "parents", "worths"] (spInit C) := ok_init F T FC C_arepar C_arewor
  have C_fof : Cal P w K mg base 6 "_law_forest_of" ["_law_plain_here"] (spFof C) := ok_fof D_fof T FC FI bI
  exact ok_law FL T C_lhand C_plain C_fof C_take C_pick C_lbelow C_lroot C_root C_depth C_lup C_below C_lway C_way C_common C_lcommon C_same FC
theorem walk {l : PySem.W.OpenLaw} {q : Program} {loose : List Str} {XP : (Str → Option Value) → Heap → Prop} {YP : World → Heap → Prop} {d : DefRec} {K : Params → PySem.W.Frag} (hn : l.most = some 63) (hdf : d.params.defaults = [])
    (hY : ∀ (w : World) (h : Heap), YP w h → (K w.params).In h)
    (F : ∀ (w : World) (mg : Str → Option Value) (fa : Addr) (h : Heap), (K w.params).In h → h.Ns mainGlobals mg → mg d.name = some (.ref fa) →
      ∃ fd : FuncData, (∀ (s : Shared) (u : Value), BindsTo s fd ⟨[u], []⟩ [("_law_script", u)]) ∧ ∀ base : Heap, (K w.params).In base → base.Ns mainGlobals mg → FnOk l.prog w (K w.params) mg base CX0 10 fa fd ["_law_script"] (spLaw (K w.params))) :
    PySem.W.WalkO q loose XP YP l.row.toRowW d [] (fun f vs => PySem.call f vs) :=
  L2.walk_of (n := 63) (k := 10) (x := "_law_script") (CX := fun _ => CX0) (sp := fun w => spLaw (K w.params)) hn (by decide) hdf ⟨rfl, by decide, by decide⟩ hY F (fun _ _ a ns hl _ hS => ⟨a, ns, rfl, hS, hl, fun _ => rfl⟩) fun _ _ _ _ _ z => z

theorem all_mk {P : Program} {w : World} {K : PySem.W.Frag} {h : Heap} {mg : Str → Option Value} {fa C f_isint f_ishouse f_init f_arepar f_come f_arewor f_many f_root f_depth f_below f_way f_common f_wayup f_need f_lhand f_take f_pick f_lisint f_same f_value f_parents f_plain f_fof f_lup f_lroot f_lcommon f_lway f_lbelow f_law : Addr} (X : K.In h) (G : h.Ns mainGlobals mg) (hfa : mg "law" = some (.ref fa))
    {od_isint an_isint : Option Addr} {sl_isint : Array (Option Value)} {oc_isint kV_isint dc_isint pm_isint cd_isint ct_isint : Value} (a_isint : PySem.W.nsIn K mainGlobals "is_integer" = some (some (.ref f_isint)))
    (l_isint : K.lookup f_isint = some ⟨oc_isint, od_isint, .func (PySem.W.fnOf "is_integer" "is_integer" (defArgs s_isint) (defBody s_isint) (defScope s_isint) .none kV_isint dc_isint pm_isint an_isint cd_isint ct_isint), sl_isint⟩) (c_isint : PySem.W.codeIn K cd_isint "is_integer" = true) (k_isint : PySem.W.keepIn K (.ref f_isint) = true)
    {od_ishouse an_ishouse : Option Addr} {sl_ishouse : Array (Option Value)} {oc_ishouse kV_ishouse dc_ishouse pm_ishouse cd_ishouse ct_ishouse : Value} (a_ishouse : PySem.W.nsIn K mainGlobals "is_house" = some (some (.ref f_ishouse)))
    (l_ishouse : K.lookup f_ishouse = some ⟨oc_ishouse, od_ishouse, .func (PySem.W.fnOf "is_house" "is_house" (defArgs s_ishouse) (defBody s_ishouse) (defScope s_ishouse) .none kV_ishouse dc_ishouse pm_ishouse an_ishouse cd_ishouse ct_ishouse), sl_ishouse⟩) (c_ishouse : PySem.W.codeIn K cd_ishouse "is_house" = true) (k_ishouse : PySem.W.keepIn K (.ref f_ishouse) = true)
    {od_init an_init : Option Addr} {sl_init : Array (Option Value)} {oc_init kV_init dc_init pm_init cd_init ct_init : Value} (a_init : PySem.W.findIn K (.ref C) "__init__" = some (some (.ref f_init)))
    (l_init : K.lookup f_init = some ⟨oc_init, od_init, .func (PySem.W.fnOf "__init__" "Forest.__init__" (defArgs s_init) (defBody s_init) (defScope s_init) .none kV_init dc_init pm_init an_init cd_init ct_init), sl_init⟩) (c_init : PySem.W.codeIn K cd_init "Forest.__init__" = true) (k_init : PySem.W.keepIn K (.ref f_init) = true)
    {od_arepar an_arepar : Option Addr} {sl_arepar : Array (Option Value)} {oc_arepar kV_arepar dc_arepar pm_arepar cd_arepar ct_arepar : Value} (a_arepar : PySem.W.nsIn K mainGlobals "_are_parents" = some (some (.ref f_arepar)))
    (l_arepar : K.lookup f_arepar = some ⟨oc_arepar, od_arepar, .func (PySem.W.fnOf "_are_parents" "_are_parents" (defArgs s_arepar) (defBody s_arepar) (defScope s_arepar) .none kV_arepar dc_arepar pm_arepar an_arepar cd_arepar ct_arepar), sl_arepar⟩) (c_arepar : PySem.W.codeIn K cd_arepar "_are_parents" = true) (k_arepar : PySem.W.keepIn K (.ref f_arepar) = true)
    {od_come an_come : Option Addr} {sl_come : Array (Option Value)} {oc_come kV_come dc_come pm_come cd_come ct_come : Value} (a_come : PySem.W.nsIn K mainGlobals "_come_to_roots" = some (some (.ref f_come)))
    (l_come : K.lookup f_come = some ⟨oc_come, od_come, .func (PySem.W.fnOf "_come_to_roots" "_come_to_roots" (defArgs s_come) (defBody s_come) (defScope s_come) .none kV_come dc_come pm_come an_come cd_come ct_come), sl_come⟩) (c_come : PySem.W.codeIn K cd_come "_come_to_roots" = true) (k_come : PySem.W.keepIn K (.ref f_come) = true)
    {od_arewor an_arewor : Option Addr} {sl_arewor : Array (Option Value)} {oc_arewor kV_arewor dc_arewor pm_arewor cd_arewor ct_arewor : Value} (a_arewor : PySem.W.nsIn K mainGlobals "_are_worths" = some (some (.ref f_arewor)))
    (l_arewor : K.lookup f_arewor = some ⟨oc_arewor, od_arewor, .func (PySem.W.fnOf "_are_worths" "_are_worths" (defArgs s_arewor) (defBody s_arewor) (defScope s_arewor) .none kV_arewor dc_arewor pm_arewor an_arewor cd_arewor ct_arewor), sl_arewor⟩) (c_arewor : PySem.W.codeIn K cd_arewor "_are_worths" = true) (k_arewor : PySem.W.keepIn K (.ref f_arewor) = true)
    {od_many an_many : Option Addr} {sl_many : Array (Option Value)} {oc_many kV_many dc_many pm_many cd_many ct_many : Value} (a_many : PySem.W.nsIn K mainGlobals "many" = some (some (.ref f_many)))
    (l_many : K.lookup f_many = some ⟨oc_many, od_many, .func (PySem.W.fnOf "many" "many" (defArgs s_many) (defBody s_many) (defScope s_many) .none kV_many dc_many pm_many an_many cd_many ct_many), sl_many⟩) (c_many : PySem.W.codeIn K cd_many "many" = true) (k_many : PySem.W.keepIn K (.ref f_many) = true)
    {od_root an_root : Option Addr} {sl_root : Array (Option Value)} {oc_root kV_root dc_root pm_root cd_root ct_root : Value} (a_root : PySem.W.nsIn K mainGlobals "root" = some (some (.ref f_root)))
    (l_root : K.lookup f_root = some ⟨oc_root, od_root, .func (PySem.W.fnOf "root" "root" (defArgs s_root) (defBody s_root) (defScope s_root) .none kV_root dc_root pm_root an_root cd_root ct_root), sl_root⟩) (c_root : PySem.W.codeIn K cd_root "root" = true) (k_root : PySem.W.keepIn K (.ref f_root) = true)
    {od_depth an_depth : Option Addr} {sl_depth : Array (Option Value)} {oc_depth kV_depth dc_depth pm_depth cd_depth ct_depth : Value} (a_depth : PySem.W.nsIn K mainGlobals "depth" = some (some (.ref f_depth)))
    (l_depth : K.lookup f_depth = some ⟨oc_depth, od_depth, .func (PySem.W.fnOf "depth" "depth" (defArgs s_depth) (defBody s_depth) (defScope s_depth) .none kV_depth dc_depth pm_depth an_depth cd_depth ct_depth), sl_depth⟩) (c_depth : PySem.W.codeIn K cd_depth "depth" = true) (k_depth : PySem.W.keepIn K (.ref f_depth) = true)
    {od_below an_below : Option Addr} {sl_below : Array (Option Value)} {oc_below kV_below dc_below pm_below cd_below ct_below : Value} (a_below : PySem.W.nsIn K mainGlobals "below" = some (some (.ref f_below)))
    (l_below : K.lookup f_below = some ⟨oc_below, od_below, .func (PySem.W.fnOf "below" "below" (defArgs s_below) (defBody s_below) (defScope s_below) .none kV_below dc_below pm_below an_below cd_below ct_below), sl_below⟩) (c_below : PySem.W.codeIn K cd_below "below" = true) (k_below : PySem.W.keepIn K (.ref f_below) = true)
    {od_way an_way : Option Addr} {sl_way : Array (Option Value)} {oc_way kV_way dc_way pm_way cd_way ct_way : Value} (a_way : PySem.W.nsIn K mainGlobals "way" = some (some (.ref f_way)))
    (l_way : K.lookup f_way = some ⟨oc_way, od_way, .func (PySem.W.fnOf "way" "way" (defArgs s_way) (defBody s_way) (defScope s_way) .none kV_way dc_way pm_way an_way cd_way ct_way), sl_way⟩) (c_way : PySem.W.codeIn K cd_way "way" = true) (k_way : PySem.W.keepIn K (.ref f_way) = true)
    {od_common an_common : Option Addr} {sl_common : Array (Option Value)} {oc_common kV_common dc_common pm_common cd_common ct_common : Value} (a_common : PySem.W.nsIn K mainGlobals "common" = some (some (.ref f_common)))
    (l_common : K.lookup f_common = some ⟨oc_common, od_common, .func (PySem.W.fnOf "common" "common" (defArgs s_common) (defBody s_common) (defScope s_common) .none kV_common dc_common pm_common an_common cd_common ct_common), sl_common⟩) (c_common : PySem.W.codeIn K cd_common "common" = true) (k_common : PySem.W.keepIn K (.ref f_common) = true)
    {od_wayup an_wayup : Option Addr} {sl_wayup : Array (Option Value)} {oc_wayup kV_wayup dc_wayup pm_wayup cd_wayup ct_wayup : Value} (a_wayup : PySem.W.nsIn K mainGlobals "_way_up" = some (some (.ref f_wayup)))
    (l_wayup : K.lookup f_wayup = some ⟨oc_wayup, od_wayup, .func (PySem.W.fnOf "_way_up" "_way_up" (defArgs s_wayup) (defBody s_wayup) (defScope s_wayup) .none kV_wayup dc_wayup pm_wayup an_wayup cd_wayup ct_wayup), sl_wayup⟩) (c_wayup : PySem.W.codeIn K cd_wayup "_way_up" = true) (k_wayup : PySem.W.keepIn K (.ref f_wayup) = true)
    {od_need an_need : Option Addr} {sl_need : Array (Option Value)} {oc_need kV_need dc_need pm_need cd_need ct_need : Value} (a_need : PySem.W.nsIn K mainGlobals "_need_house" = some (some (.ref f_need)))
    (l_need : K.lookup f_need = some ⟨oc_need, od_need, .func (PySem.W.fnOf "_need_house" "_need_house" (defArgs s_need) (defBody s_need) (defScope s_need) .none kV_need dc_need pm_need an_need cd_need ct_need), sl_need⟩) (c_need : PySem.W.codeIn K cd_need "_need_house" = true) (k_need : PySem.W.keepIn K (.ref f_need) = true)
    {od_lhand an_lhand : Option Addr} {sl_lhand : Array (Option Value)} {oc_lhand kV_lhand dc_lhand pm_lhand cd_lhand ct_lhand : Value} (a_lhand : PySem.W.nsIn K mainGlobals "_law_hand" = some (some (.ref f_lhand)))
    (l_lhand : K.lookup f_lhand = some ⟨oc_lhand, od_lhand, .func (PySem.W.fnOf "_law_hand" "_law_hand" (defArgs s_lhand) (defBody s_lhand) (defScope s_lhand) .none kV_lhand dc_lhand pm_lhand an_lhand cd_lhand ct_lhand), sl_lhand⟩) (c_lhand : PySem.W.codeIn K cd_lhand "_law_hand" = true) (k_lhand : PySem.W.keepIn K (.ref f_lhand) = true)
    {od_take an_take : Option Addr} {sl_take : Array (Option Value)} {oc_take kV_take dc_take pm_take cd_take ct_take : Value} (a_take : PySem.W.nsIn K mainGlobals "_law_take" = some (some (.ref f_take)))
    (l_take : K.lookup f_take = some ⟨oc_take, od_take, .func (PySem.W.fnOf "_law_take" "_law_take" (defArgs s_take) (defBody s_take) (defScope s_take) .none kV_take dc_take pm_take an_take cd_take ct_take), sl_take⟩) (c_take : PySem.W.codeIn K cd_take "_law_take" = true) (k_take : PySem.W.keepIn K (.ref f_take) = true)
    {od_pick an_pick : Option Addr} {sl_pick : Array (Option Value)} {oc_pick kV_pick dc_pick pm_pick cd_pick ct_pick : Value} (a_pick : PySem.W.nsIn K mainGlobals "_law_pick" = some (some (.ref f_pick)))
    (l_pick : K.lookup f_pick = some ⟨oc_pick, od_pick, .func (PySem.W.fnOf "_law_pick" "_law_pick" (defArgs s_pick) (defBody s_pick) (defScope s_pick) .none kV_pick dc_pick pm_pick an_pick cd_pick ct_pick), sl_pick⟩) (c_pick : PySem.W.codeIn K cd_pick "_law_pick" = true) (k_pick : PySem.W.keepIn K (.ref f_pick) = true)
    {od_lisint an_lisint : Option Addr} {sl_lisint : Array (Option Value)} {oc_lisint kV_lisint dc_lisint pm_lisint cd_lisint ct_lisint : Value} (a_lisint : PySem.W.nsIn K mainGlobals "_law_is_integer" = some (some (.ref f_lisint)))
    (l_lisint : K.lookup f_lisint = some ⟨oc_lisint, od_lisint, .func (PySem.W.fnOf "_law_is_integer" "_law_is_integer" (defArgs s_lisint) (defBody s_lisint) (defScope s_lisint) .none kV_lisint dc_lisint pm_lisint an_lisint cd_lisint ct_lisint), sl_lisint⟩) (c_lisint : PySem.W.codeIn K cd_lisint "_law_is_integer" = true) (k_lisint : PySem.W.keepIn K (.ref f_lisint) = true)
    {od_same an_same : Option Addr} {sl_same : Array (Option Value)} {oc_same kV_same dc_same pm_same cd_same ct_same : Value} (a_same : PySem.W.nsIn K mainGlobals "_law_same" = some (some (.ref f_same)))
    (l_same : K.lookup f_same = some ⟨oc_same, od_same, .func (PySem.W.fnOf "_law_same" "_law_same" (defArgs s_same) (defBody s_same) (defScope s_same) .none kV_same dc_same pm_same an_same cd_same ct_same), sl_same⟩) (c_same : PySem.W.codeIn K cd_same "_law_same" = true) (k_same : PySem.W.keepIn K (.ref f_same) = true)
    {od_value an_value : Option Addr} {sl_value : Array (Option Value)} {oc_value kV_value dc_value pm_value cd_value ct_value : Value} (a_value : PySem.W.nsIn K mainGlobals "_law_value" = some (some (.ref f_value)))
    (l_value : K.lookup f_value = some ⟨oc_value, od_value, .func (PySem.W.fnOf "_law_value" "_law_value" (defArgs s_value) (defBody s_value) (defScope s_value) .none kV_value dc_value pm_value an_value cd_value ct_value), sl_value⟩) (c_value : PySem.W.codeIn K cd_value "_law_value" = true) (k_value : PySem.W.keepIn K (.ref f_value) = true)
    {od_parents an_parents : Option Addr} {sl_parents : Array (Option Value)} {oc_parents kV_parents dc_parents pm_parents cd_parents ct_parents : Value} (a_parents : PySem.W.nsIn K mainGlobals "_law_parents" = some (some (.ref f_parents)))
    (l_parents : K.lookup f_parents = some ⟨oc_parents, od_parents, .func (PySem.W.fnOf "_law_parents" "_law_parents" (defArgs s_parents) (defBody s_parents) (defScope s_parents) .none kV_parents dc_parents pm_parents an_parents cd_parents ct_parents), sl_parents⟩) (c_parents : PySem.W.codeIn K cd_parents "_law_parents" = true) (k_parents : PySem.W.keepIn K (.ref f_parents) = true)
    {od_plain an_plain : Option Addr} {sl_plain : Array (Option Value)} {oc_plain kV_plain dc_plain pm_plain cd_plain ct_plain : Value} (a_plain : PySem.W.nsIn K mainGlobals "_law_plain" = some (some (.ref f_plain)))
    (l_plain : K.lookup f_plain = some ⟨oc_plain, od_plain, .func (PySem.W.fnOf "_law_plain" "_law_plain" (defArgs s_plain) (defBody s_plain) (defScope s_plain) .none kV_plain dc_plain pm_plain an_plain cd_plain ct_plain), sl_plain⟩) (c_plain : PySem.W.codeIn K cd_plain "_law_plain" = true) (k_plain : PySem.W.keepIn K (.ref f_plain) = true)
    {od_fof an_fof : Option Addr} {sl_fof : Array (Option Value)} {oc_fof kV_fof dc_fof pm_fof cd_fof ct_fof : Value} (a_fof : PySem.W.nsIn K mainGlobals "_law_forest_of" = some (some (.ref f_fof)))
    (l_fof : K.lookup f_fof = some ⟨oc_fof, od_fof, .func (PySem.W.fnOf "_law_forest_of" "_law_forest_of" (defArgs s_fof) (defBody s_fof) (defScope s_fof) .none kV_fof dc_fof pm_fof an_fof cd_fof ct_fof), sl_fof⟩) (c_fof : PySem.W.codeIn K cd_fof "_law_forest_of" = true) (k_fof : PySem.W.keepIn K (.ref f_fof) = true)
    {od_lup an_lup : Option Addr} {sl_lup : Array (Option Value)} {oc_lup kV_lup dc_lup pm_lup cd_lup ct_lup : Value} (a_lup : PySem.W.nsIn K mainGlobals "_law_up" = some (some (.ref f_lup)))
    (l_lup : K.lookup f_lup = some ⟨oc_lup, od_lup, .func (PySem.W.fnOf "_law_up" "_law_up" (defArgs s_lup) (defBody s_lup) (defScope s_lup) .none kV_lup dc_lup pm_lup an_lup cd_lup ct_lup), sl_lup⟩) (c_lup : PySem.W.codeIn K cd_lup "_law_up" = true) (k_lup : PySem.W.keepIn K (.ref f_lup) = true)
    {od_lroot an_lroot : Option Addr} {sl_lroot : Array (Option Value)} {oc_lroot kV_lroot dc_lroot pm_lroot cd_lroot ct_lroot : Value} (a_lroot : PySem.W.nsIn K mainGlobals "_law_root" = some (some (.ref f_lroot)))
    (l_lroot : K.lookup f_lroot = some ⟨oc_lroot, od_lroot, .func (PySem.W.fnOf "_law_root" "_law_root" (defArgs s_lroot) (defBody s_lroot) (defScope s_lroot) .none kV_lroot dc_lroot pm_lroot an_lroot cd_lroot ct_lroot), sl_lroot⟩) (c_lroot : PySem.W.codeIn K cd_lroot "_law_root" = true) (k_lroot : PySem.W.keepIn K (.ref f_lroot) = true)
    {od_lcommon an_lcommon : Option Addr} {sl_lcommon : Array (Option Value)} {oc_lcommon kV_lcommon dc_lcommon pm_lcommon cd_lcommon ct_lcommon : Value} (a_lcommon : PySem.W.nsIn K mainGlobals "_law_common" = some (some (.ref f_lcommon)))
    (l_lcommon : K.lookup f_lcommon = some ⟨oc_lcommon, od_lcommon, .func (PySem.W.fnOf "_law_common" "_law_common" (defArgs s_lcommon) (defBody s_lcommon) (defScope s_lcommon) .none kV_lcommon dc_lcommon pm_lcommon an_lcommon cd_lcommon ct_lcommon), sl_lcommon⟩) (c_lcommon : PySem.W.codeIn K cd_lcommon "_law_common" = true) (k_lcommon : PySem.W.keepIn K (.ref f_lcommon) = true)
    {od_lway an_lway : Option Addr} {sl_lway : Array (Option Value)} {oc_lway kV_lway dc_lway pm_lway cd_lway ct_lway : Value} (a_lway : PySem.W.nsIn K mainGlobals "_law_way" = some (some (.ref f_lway)))
    (l_lway : K.lookup f_lway = some ⟨oc_lway, od_lway, .func (PySem.W.fnOf "_law_way" "_law_way" (defArgs s_lway) (defBody s_lway) (defScope s_lway) .none kV_lway dc_lway pm_lway an_lway cd_lway ct_lway), sl_lway⟩) (c_lway : PySem.W.codeIn K cd_lway "_law_way" = true) (k_lway : PySem.W.keepIn K (.ref f_lway) = true)
    {od_lbelow an_lbelow : Option Addr} {sl_lbelow : Array (Option Value)} {oc_lbelow kV_lbelow dc_lbelow pm_lbelow cd_lbelow ct_lbelow : Value} (a_lbelow : PySem.W.nsIn K mainGlobals "_law_below" = some (some (.ref f_lbelow)))
    (l_lbelow : K.lookup f_lbelow = some ⟨oc_lbelow, od_lbelow, .func (PySem.W.fnOf "_law_below" "_law_below" (defArgs s_lbelow) (defBody s_lbelow) (defScope s_lbelow) .none kV_lbelow dc_lbelow pm_lbelow an_lbelow cd_lbelow ct_lbelow), sl_lbelow⟩) (c_lbelow : PySem.W.codeIn K cd_lbelow "_law_below" = true) (k_lbelow : PySem.W.keepIn K (.ref f_lbelow) = true)
    {od_law an_law : Option Addr} {sl_law : Array (Option Value)} {oc_law kV_law dc_law pm_law cd_law ct_law : Value} (a_law : PySem.W.nsIn K mainGlobals "law" = some (some (.ref f_law)))
    (l_law : K.lookup f_law = some ⟨oc_law, od_law, .func (PySem.W.fnOf "law" "law" (defArgs s_law) (defBody s_law) (defScope s_law) .none kV_law dc_law pm_law an_law cd_law ct_law), sl_law⟩) (c_law : PySem.W.codeIn K cd_law "law" = true) (k_law : PySem.W.keepIn K (.ref f_law) = true)
    (aC : PySem.W.nsIn K mainGlobals "Forest" = some (some (.ref C))) (iI : PySem.W.isFn K (.ref f_init) = true) (pg : PySem.W.plainGet K C Str.empty = true) (hd : PySem.W.hasDictIn K C = true) (po : PySem.W.plainOver K C = true) (sa : PySem.W.findIn K (.ref C) "__setattr__" = some (some (.builtin "object.__setattr__"))) (mk : PySem.W.makesIn K C = true) (kc : PySem.W.keepIn K (.ref C) = true)
    (nP : PySem.W.findIn K (.ref C) "parents" = some none) (nW : PySem.W.findIn K (.ref C) "worths" = some none)
    {t : Tok} (n_len : PySem.W.nsIn K mainGlobals "len" = some none) (n_isinstance : PySem.W.nsIn K mainGlobals "isinstance" = some none) (n_int : PySem.W.nsIn K mainGlobals "int" = some none) (n_bool : PySem.W.nsIn K mainGlobals "bool" = some none) (n_str : PySem.W.nsIn K mainGlobals "str" = some none) (n_tuple : PySem.W.nsIn K mainGlobals "tuple" = some none) (n_list : PySem.W.nsIn K mainGlobals "list" = some none) (n_range : PySem.W.nsIn K mainGlobals "range" = some none) (n_zip : PySem.W.nsIn K mainGlobals "zip" = some none) (n_max : PySem.W.nsIn K mainGlobals "max" = some none) (n_all : PySem.W.nsIn K mainGlobals "all" = some none) (most : PySem.W.nsIn K mainGlobals "MOST_HOUSES" = some (some (.int 64 t))) :
    ∃ fd : FuncData, (∀ (s : Shared) (v : Value), BindsTo s fd ⟨[v], []⟩ [("_law_script", v)]) ∧ ∀ base : Heap, K.In base → base.Ns mainGlobals mg → FnOk P w K mg base CX0 10 fa fd ["_law_script"] (spLaw K) := by
  have D_isint := def_mk (st := s_isint) (ps := ["thing"]) X G a_isint l_isint c_isint k_isint fun _ _ _ _ _ _ us hl => match us, hl with | [_], _ => rfl
  have D_ishouse := def_mk (st := s_ishouse) (ps := ["many", "thing"]) X G a_ishouse l_ishouse c_ishouse k_ishouse fun _ _ _ _ _ _ us hl => match us, hl with | [_, _], _ => rfl
  have D_arepar := def_mk (st := s_arepar) (ps := ["thing"]) X G a_arepar l_arepar c_arepar k_arepar fun _ _ _ _ _ _ us hl => match us, hl with | [_], _ => rfl
  have D_come := def_mk (st := s_come) (ps := ["parents"]) X G a_come l_come c_come k_come fun _ _ _ _ _ _ us hl => match us, hl with | [_], _ => rfl
  have D_arewor := def_mk (st := s_arewor) (ps := ["thing", "houses"]) X G a_arewor l_arewor c_arewor k_arewor fun _ _ _ _ _ _ us hl => match us, hl with | [_, _], _ => rfl
  have D_many := def_mk (st := s_many) (ps := ["forest"]) X G a_many l_many c_many k_many fun _ _ _ _ _ _ us hl => match us, hl with | [_], _ => rfl
  have D_root := def_mk (st := s_root) (ps := ["forest", "house"]) X G a_root l_root c_root k_root fun _ _ _ _ _ _ us hl => match us, hl with | [_, _], _ => rfl
  have D_depth := def_mk (st := s_depth) (ps := ["forest", "house"]) X G a_depth l_depth c_depth k_depth fun _ _ _ _ _ _ us hl => match us, hl with | [_, _], _ => rfl
  have D_below := def_mk (st := s_below) (ps := ["forest", "house"]) X G a_below l_below c_below k_below fun _ _ _ _ _ _ us hl => match us, hl with | [_, _], _ => rfl
  have D_way := def_mk (st := s_way) (ps := ["forest", "one", "other"]) X G a_way l_way c_way k_way fun _ _ _ _ _ _ us hl => match us, hl with | [_, _, _], _ => rfl
  have D_common := def_mk (st := s_common) (ps := ["forest", "one", "other"]) X G a_common l_common c_common k_common fun _ _ _ _ _ _ us hl => match us, hl with | [_, _, _], _ => rfl
  have D_wayup := def_mk (st := s_wayup) (ps := ["forest", "house"]) X G a_wayup l_wayup c_wayup k_wayup fun _ _ _ _ _ _ us hl => match us, hl with | [_, _], _ => rfl
  have D_need := def_mk (st := s_need) (ps := ["forest", "thing"]) X G a_need l_need c_need k_need fun _ _ _ _ _ _ us hl => match us, hl with | [_, _], _ => rfl
  have D_lhand := def_mk (st := s_lhand) (ps := ["_law_script"]) X G a_lhand l_lhand c_lhand k_lhand fun _ _ _ _ _ _ us hl => match us, hl with | [_], _ => rfl
  have D_take := def_mk (st := s_take) (ps := ["_law_hand_here", "_law_size"]) X G a_take l_take c_take k_take fun _ _ _ _ _ _ us hl => match us, hl with | [_, _], _ => rfl
  have D_pick := def_mk (st := s_pick) (ps := ["_law_hand_here", "_law_things"]) X G a_pick l_pick c_pick k_pick fun _ _ _ _ _ _ us hl => match us, hl with | [_, _], _ => rfl
  have D_lisint := def_mk (st := s_lisint) (ps := ["_law_thing"]) X G a_lisint l_lisint c_lisint k_lisint fun _ _ _ _ _ _ us hl => match us, hl with | [_], _ => rfl
  have D_same := def_mk (st := s_same) (ps := ["_law_actual", "_law_due"]) X G a_same l_same c_same k_same fun _ _ _ _ _ _ us hl => match us, hl with | [_, _], _ => rfl
  have D_value := def_mk (st := s_value) (ps := ["_law_hand_here"]) X G a_value l_value c_value k_value fun _ _ _ _ _ _ us hl => match us, hl with | [_], _ => rfl
  have D_parents := def_mk (st := s_parents) (ps := ["_law_hand_here", "_law_size"]) X G a_parents l_parents c_parents k_parents fun _ _ _ _ _ _ us hl => match us, hl with | [_, _], _ => rfl
  have D_plain := def_mk (st := s_plain) (ps := ["_law_hand_here", "_law_sizes"]) X G a_plain l_plain c_plain k_plain fun _ _ _ _ _ _ us hl => match us, hl with | [_, _], _ => rfl
  have D_fof := def_mk (st := s_fof) (ps := ["_law_plain_here"]) X G a_fof l_fof c_fof k_fof fun _ _ _ _ _ _ us hl => match us, hl with | [_], _ => rfl
  have D_lup := def_mk (st := s_lup) (ps := ["_law_parents_here", "_law_house"]) X G a_lup l_lup c_lup k_lup fun _ _ _ _ _ _ us hl => match us, hl with | [_, _], _ => rfl
  have D_lroot := def_mk (st := s_lroot) (ps := ["_law_parents_here", "_law_house"]) X G a_lroot l_lroot c_lroot k_lroot fun _ _ _ _ _ _ us hl => match us, hl with | [_, _], _ => rfl
  have D_lcommon := def_mk (st := s_lcommon) (ps := ["_law_parents_here", "_law_one", "_law_other"]) X G a_lcommon l_lcommon c_lcommon k_lcommon fun _ _ _ _ _ _ us hl => match us, hl with | [_, _, _], _ => rfl
  have D_lway := def_mk (st := s_lway) (ps := ["_law_parents_here", "_law_one", "_law_other"]) X G a_lway l_lway c_lway k_lway fun _ _ _ _ _ _ us hl => match us, hl with | [_, _, _], _ => rfl
  have D_lbelow := def_mk (st := s_lbelow) (ps := ["_law_parents_here", "_law_house"]) X G a_lbelow l_lbelow c_lbelow k_lbelow fun _ _ _ _ _ _ us hl => match us, hl with | [_, _], _ => rfl
  have T : Txt K mg := txt_mk X G n_len n_isinstance n_int n_bool n_str n_tuple n_list n_range n_zip n_max n_all most
  have FC : ForC K mg C f_init := ⟨⟨pg, hd, po, sa⟩, nP, nW, PySem.W.mg_of X G aC, ⟨mk, a_init, iI, kc⟩⟩
  have F := fun_mk (st := s_init) l_init c_init k_init
  have bI := F.binds (ps := ["self", "parents", "worths"]) fun _ _ _ _ _ _ us hl => match us, hl with | [_, _, _], _ => rfl
  have e := hfa.symm.trans (PySem.W.mg_of X G a_law)
  cases e
  refine ⟨PySem.W.fnOf "law" "law" (defArgs s_law) (defBody s_law) (defScope s_law) .none kV_law dc_law pm_law an_law cd_law ct_law, fun s v => .of_eq rfl, fun base _ _ => ?_⟩
  exact ok_all (P := P) (w := w) (base := base) T FC F bI (fun_mk (st := s_law) l_law c_law k_law) D_isint D_ishouse D_arepar D_come D_arewor D_many D_root D_depth D_below D_way D_common D_wayup D_need D_lhand D_take D_pick D_lisint D_same D_value D_parents D_plain D_fof D_lup D_lroot D_lcommon D_lway D_lbelow

end W2
open PySem PySem.W PyProof.Rows in
set_option maxRecDepth 100000 in
set_option maxHeartbeats 0 in
theorem PySem.Challenge.cw_cutlinked_k02_whole_walker_by_own_ways_holds : PySem.Challenge.rw_cutlinked_k02_whole_walker_by_own_ways.Holds := by
  w_on; o_law; k_head; (case hw => w_witness2)
  k_fill
  refine W2.walk (l := PySem.Challenge.rw_cutlinked_k02_whole_walker_by_own_ways) rfl rfl (fun w h Y => PySem.W.kIn_of Y) ?F
  case F =>
    intro w mg fa h KX G hmg
    refine' W2.all_mk KX G hmg ?a_isint ?l_isint ?c_isint ?k_isint ?a_ishouse ?l_ishouse ?c_ishouse ?k_ishouse ?a_init ?l_init ?c_init ?k_init ?a_arepar ?l_arepar ?c_arepar ?k_arepar ?a_come ?l_come ?c_come ?k_come ?a_arewor ?l_arewor ?c_arewor ?k_arewor ?a_many ?l_many ?c_many ?k_many ?a_root ?l_root ?c_root ?k_root ?a_depth ?l_depth ?c_depth ?k_depth ?a_below ?l_below ?c_below ?k_below ?a_way ?l_way ?c_way ?k_way ?a_common ?l_common ?c_common ?k_common ?a_wayup ?l_wayup ?c_wayup ?k_wayup ?a_need ?l_need ?c_need ?k_need ?a_lhand ?l_lhand ?c_lhand ?k_lhand ?a_take ?l_take ?c_take ?k_take ?a_pick ?l_pick ?c_pick ?k_pick ?a_lisint ?l_lisint ?c_lisint ?k_lisint ?a_same ?l_same ?c_same ?k_same ?a_value ?l_value ?c_value ?k_value ?a_parents ?l_parents ?c_parents ?k_parents ?a_plain ?l_plain ?c_plain ?k_plain ?a_fof ?l_fof ?c_fof ?k_fof ?a_lup ?l_lup ?c_lup ?k_lup ?a_lroot ?l_lroot ?c_lroot ?k_lroot ?a_lcommon ?l_lcommon ?c_lcommon ?k_lcommon ?a_lway ?l_lway ?c_lway ?k_lway ?a_lbelow ?l_lbelow ?c_lbelow ?k_lbelow ?a_law ?l_law ?c_law ?k_law ?aC ?iI ?pg ?hd ?po ?sa ?mk ?kc ?nP ?nW ?n_len ?n_isinstance ?n_int ?n_bool ?n_str ?n_tuple ?n_list ?n_range ?n_zip ?n_max ?n_all ?most
    (case aC => k_is)
    (case a_isint => k_is)
    (case l_isint => k_is)
    (case c_isint => k_is)
    (case k_isint => k_is)
    (case a_ishouse => k_is)
    (case l_ishouse => k_is)
    (case c_ishouse => k_is)
    (case k_ishouse => k_is)
    (case a_init => k_is)
    (case l_init => k_is)
    (case c_init => k_is)
    (case k_init => k_is)
    (case a_arepar => k_is)
    (case l_arepar => k_is)
    (case c_arepar => k_is)
    (case k_arepar => k_is)
    (case a_come => k_is)
    (case l_come => k_is)
    (case c_come => k_is)
    (case k_come => k_is)
    (case a_arewor => k_is)
    (case l_arewor => k_is)
    (case c_arewor => k_is)
    (case k_arewor => k_is)
    (case a_many => k_is)
    (case l_many => k_is)
    (case c_many => k_is)
    (case k_many => k_is)
    (case a_root => k_is)
    (case l_root => k_is)
    (case c_root => k_is)
    (case k_root => k_is)
    (case a_depth => k_is)
    (case l_depth => k_is)
    (case c_depth => k_is)
    (case k_depth => k_is)
    (case a_below => k_is)
    (case l_below => k_is)
    (case c_below => k_is)
    (case k_below => k_is)
    (case a_way => k_is)
    (case l_way => k_is)
    (case c_way => k_is)
    (case k_way => k_is)
    (case a_common => k_is)
    (case l_common => k_is)
    (case c_common => k_is)
    (case k_common => k_is)
    (case a_wayup => k_is)
    (case l_wayup => k_is)
    (case c_wayup => k_is)
    (case k_wayup => k_is)
    (case a_need => k_is)
    (case l_need => k_is)
    (case c_need => k_is)
    (case k_need => k_is)
    (case a_lhand => k_is)
    (case l_lhand => k_is)
    (case c_lhand => k_is)
    (case k_lhand => k_is)
    (case a_take => k_is)
    (case l_take => k_is)
    (case c_take => k_is)
    (case k_take => k_is)
    (case a_pick => k_is)
    (case l_pick => k_is)
    (case c_pick => k_is)
    (case k_pick => k_is)
    (case a_lisint => k_is)
    (case l_lisint => k_is)
    (case c_lisint => k_is)
    (case k_lisint => k_is)
    (case a_same => k_is)
    (case l_same => k_is)
    (case c_same => k_is)
    (case k_same => k_is)
    (case a_value => k_is)
    (case l_value => k_is)
    (case c_value => k_is)
    (case k_value => k_is)
    (case a_parents => k_is)
    (case l_parents => k_is)
    (case c_parents => k_is)
    (case k_parents => k_is)
    (case a_plain => k_is)
    (case l_plain => k_is)
    (case c_plain => k_is)
    (case k_plain => k_is)
    (case a_fof => k_is)
    (case l_fof => k_is)
    (case c_fof => k_is)
    (case k_fof => k_is)
    (case a_lup => k_is)
    (case l_lup => k_is)
    (case c_lup => k_is)
    (case k_lup => k_is)
    (case a_lroot => k_is)
    (case l_lroot => k_is)
    (case c_lroot => k_is)
    (case k_lroot => k_is)
    (case a_lcommon => k_is)
    (case l_lcommon => k_is)
    (case c_lcommon => k_is)
    (case k_lcommon => k_is)
    (case a_lway => k_is)
    (case l_lway => k_is)
    (case c_lway => k_is)
    (case k_lway => k_is)
    (case a_lbelow => k_is)
    (case l_lbelow => k_is)
    (case c_lbelow => k_is)
    (case k_lbelow => k_is)
    (case a_law => k_is)
    (case l_law => k_is)
    (case c_law => k_is)
    (case k_law => k_is)
    (case iI => k_is)
    (case pg => k_is)
    (case hd => k_is)
    (case po => k_is)
    (case sa => k_is)
    (case mk => k_is)
    (case kc => k_is)
    (case nP => k_is)
    (case nW => k_is)
    (case n_len => k_is)
    (case n_isinstance => k_is)
    (case n_int => k_is)
    (case n_bool => k_is)
    (case n_str => k_is)
    (case n_tuple => k_is)
    (case n_list => k_is)
    (case n_range => k_is)
    (case n_zip => k_is)
    (case n_max => k_is)
    (case n_all => k_is)
    (case most => k_is)
