import PyProof.Rows.All
import Wide.All
import OpenK.AllK
import Wide.FinOn
import HandS.ForMost
import HandS.IsInst
import HandS.Conv
import HandS.Zip
import HandS.Style
import HandS.Wide
import HandS.Codes
import HandS.TupAny
import HandS.TupMul
import HandS.SlotsOwn
import HandS.ForExc
import PyProof.EqLayable
import HandS.WideBits
import HandS.Walk
import HandS.TryOnly
import KE.GoesMore
import HandS.SetFor
import HandS.SortInts
import HandS.StrMore
import HandS.StrSplit
import HandS.RaiseMore
import KE.KDictCopyH
import KE.SortData
import HandS.SortKw
import PySem.Challenge.RW_cutlinked_k27_whole_longer_staying_ties
set_option Elab.async false
set_option linter.all false
set_option maxRecDepth 100000
set_option maxHeartbeats 4000000
namespace M3
open PySem PySem.Spec PyProof.Rows L2
/-! ### data that never changes -/
inductive P
  | non | bl (b : Bool) | int (i : Int) | str (s : Str)
  | tup (l : List P) | lst (l : List P) | dic (l : List (P × P)) | ins (C : Addr) (l : List (Str × P))
  | con (v : V) | scr (l : List Int)
/-- data, or an object by its number -/
inductive D
  | dat (p : P) | obj (i : Nat)
/-- what stands at a number -/
inductive O
  | lst (l : List D) | ins (C : Addr) (l : List (Str × D)) | dic (l : List (Key × D))
/-- a tuple, a list to be read, that never changes -/
def TupAt (K : PySem.W.Frag) (ι X : List Addr) (H : Hp) (a : Addr) (xs : List V) : Prop := (a ∉ ι ∧ a ∉ X ∧ Rd H a (.tup xs)) ∨
    ∃ (o : Obj) (its : Array Value) (n : Nat), K.lookup a = some o ∧ o.cls = .type "tuple" ∧ o.data = .seq its n ∧ its.size ≤ sizeLine ∧ Vals xs its.toList
def LstAt (K : PySem.W.Frag) (ι X : List Addr) (H : Hp) (a : Addr) (xs : List V) : Prop := (a ∉ ι ∧ a ∉ X ∧ Rd H a (.lst xs)) ∨
    ∃ (o : Obj) (its : Array Value) (n : Nat), K.lookup a = some o ∧ o.cls = .type "list" ∧ o.dict = none ∧ o.data = .seq its n ∧ its.size ≤ sizeLine ∧ Vals xs its.toList
theorem TupAt.sq {K : PySem.W.Frag} {ι X : List Addr} {H : Hp} {a : Addr} {xs : List V} (t : TupAt K ι X H a xs) : SqT K H a xs := t.imp (fun x => x.2.2) id
theorem LstAt.sq {K : PySem.W.Frag} {ι X : List Addr} {H : Hp} {a : Addr} {xs : List V} (t : LstAt K ι X H a xs) : SqL K H a xs := t.imp (fun x => x.2.2) id
section
variable (K : PySem.W.Frag) (ι X : List Addr) (H : Hp)
mutual
def RepP : P → V → Prop
  | .non, v => v = .non
  | .bl b, v => v = .bl b
  | .int i, v => v = .int i
  | .str s, v => v = .str s
  | .tup l, v => ∃ a xs, v = .ref a ∧ TupAt K ι X H a xs ∧ RepPs l xs
  | .lst l, v => ∃ a xs, v = .ref a ∧ a ∉ ι ∧ a ∉ X ∧ H a = some (.lst xs) ∧ RepPs l xs
  | .dic l, v => ∃ a xs, v = .ref a ∧ a ∉ ι ∧ a ∉ X ∧ H a = some (.dK xs) ∧ RepKs l xs
  | .ins C l, v => ∃ a dx xs, v = .ref a ∧ a ∉ ι ∧ a ∉ X ∧ H a = some (.ins C dx xs) ∧ RepFs l xs
  | .con w, v => v = w
  | .scr l, v => ∃ a, v = .ref a ∧ LstAt K ι X H a (l.map V.int)
def RepPs : List P → List V → Prop
  | [], xs => xs = []
  | p :: ps, xs => ∃ y ys, xs = y :: ys ∧ RepP p y ∧ RepPs ps ys
def RepKs : List (P × P) → List (Key × V) → Prop
  | [], xs => xs = []
  | (k, p) :: ps, xs => ∃ c y ys, xs = (c, y) :: ys ∧ RepP k (kV c) ∧ RepP p y ∧ RepKs ps ys
def RepFs : List (Str × P) → List (Str × V) → Prop
  | [], xs => xs = []
  | (f, p) :: ps, xs => ∃ y ys, xs = (f, y) :: ys ∧ RepP p y ∧ RepFs ps ys
end
def RepD : D → V → Prop
  | .dat p, v => RepP K ι X H p v
  | .obj i, v => ∃ a, ι[i]? = some a ∧ v = .ref a
def RepDs : List D → List V → Prop
  | [], xs => xs = []
  | p :: ps, xs => ∃ y ys, xs = y :: ys ∧ RepD K ι X H p y ∧ RepDs ps ys
def RepDF : List (Str × D) → List (Str × V) → Prop
  | [], xs => xs = []
  | (f, p) :: ps, xs => ∃ y ys, xs = (f, y) :: ys ∧ RepD K ι X H p y ∧ RepDF ps ys
def RepDK : List (Key × D) → List (Key × V) → Prop
  | [], xs => xs = []
  | (f, p) :: ps, xs => ∃ y ys, xs = (f, y) :: ys ∧ RepD K ι X H p y ∧ RepDK ps ys
def RepO : O → Addr → Prop
  | .lst l, a => ∃ xs, H a = some (.lst xs) ∧ RepDs K ι X H l xs
  | .ins C l, a => ∃ dx xs, H a = some (.ins C dx xs) ∧ RepDF K ι X H l xs
  | .dic l, a => ∃ xs, H a = some (.dK xs) ∧ RepDK K ι X H l xs
end
abbrev Store := List O
/-- the store lies in the heap; X: lists that are being made -/
structure Rel (K : PySem.W.Frag) (ι X : List Addr) (S : Store) (H : Hp) : Prop where
  len : ι.length = S.length
  nd : ι.Nodup
  at_ : ∀ (i : Nat) o a, S[i]? = some o → ι[i]? = some a → RepO K ι X H o a
  ex : ∀ a ∈ X, a ∉ ι ∧ ∃ o, H a = some o
/-- what stays -/
structure Ext (ι : List Addr) (H : Hp) (ι' : List Addr) (H' : Hp) : Prop where
  pre : ∃ t, ι' = ι ++ t
  old : ∀ b o, b ∉ ι → H b = some o → H' b = some o
  new : ∀ b, b ∈ ι' → b ∉ ι → H b = none
theorem Ext.refl {ι : List Addr} {H : Hp} : Ext ι H ι H := ⟨⟨[], by simp⟩, fun _ _ _ e => e, fun b h n => absurd h n⟩
theorem Ext.nin {ι ι' : List Addr} {H H' : Hp} (x : Ext ι H ι' H') {a : Addr} {o : HO} (n : a ∉ ι) (e : H a = some o) : a ∉ ι' := fun m => by
  rw [x.new a m n] at e
  cases e
theorem Ext.trans {ι ι1 ι2 : List Addr} {H H1 H2 : Hp} (x : Ext ι H ι1 H1) (y : Ext ι1 H1 ι2 H2) : Ext ι H ι2 H2 := by
  obtain ⟨t, et⟩ := x.pre
  obtain ⟨u, eu⟩ := y.pre
  refine ⟨⟨t ++ u, by rw [eu, et, List.append_assoc]⟩, fun b o n e => y.old b o (x.nin n e) (x.old b o n e), fun b m n => ?_⟩
  by_cases q : b ∈ ι1
  · exact x.new b q n
  · have h1 := y.new b m q
    cases e : H b with
    | none => rfl
    | some o => rw [x.old b o n e] at h1; cases h1
theorem Ext.at {ι ι' : List Addr} {H H' : Hp} (x : Ext ι H ι' H') {i : Nat} {a : Addr} (e : ι[i]? = some a) : ι'[i]? = some a := by
  obtain ⟨t, rfl⟩ := x.pre
  rw [List.getElem?_append_left (List.getElem?_eq_some_iff.mp e).1]
  exact e
theorem rd_ext {ι ι' : List Addr} {H H' : Hp} {a : Addr} {u : HO} (x : Ext ι H ι' H') (n : a ∉ ι) (r : Rd H a u) : Rd H' a u ∧ a ∉ ι' := by
  rcases r with r | ⟨o, r⟩
  · exact ⟨.inl (x.old _ _ n r), x.nin n r⟩
  · exact ⟨.inr ⟨o, x.old _ _ n r⟩, x.nin n r⟩
theorem TupAt.ext {K : PySem.W.Frag} {ι ι' X : List Addr} {H H' : Hp} {a : Addr} {xs : List V} (x : Ext ι H ι' H') (r : TupAt K ι X H a xs) : TupAt K ι' X H' a xs :=
  r.imp (fun ⟨n, m, r⟩ => let ⟨r, n⟩ := rd_ext x n r; ⟨n, m, r⟩) id
theorem LstAt.ext {K : PySem.W.Frag} {ι ι' X : List Addr} {H H' : Hp} {a : Addr} {xs : List V} (x : Ext ι H ι' H') (r : LstAt K ι X H a xs) : LstAt K ι' X H' a xs :=
  r.imp (fun ⟨n, m, r⟩ => let ⟨r, n⟩ := rd_ext x n r; ⟨n, m, r⟩) id
mutual
theorem RepP.ext {K : PySem.W.Frag} {ι ι' X : List Addr} {H H' : Hp} (x : Ext ι H ι' H') : ∀ {p : P} {v : V}, RepP K ι X H p v → RepP K ι' X H' p v
  | .non, _, r => by rw [RepP] at r ⊢; exact r
  | .bl _, _, r => by rw [RepP] at r ⊢; exact r
  | .int _, _, r => by rw [RepP] at r ⊢; exact r
  | .str _, _, r => by rw [RepP] at r ⊢; exact r
  | .con _, _, r => by rw [RepP] at r ⊢; exact r
  | .tup _, _, r => by
    rw [RepP] at r ⊢
    obtain ⟨a, xs, e, f, g⟩ := r
    exact ⟨a, xs, e, f.ext x, RepPs.ext x g⟩
  | .lst _, _, r => by
    rw [RepP] at r ⊢
    obtain ⟨a, xs, e, n, m, f, g⟩ := r
    exact ⟨a, xs, e, x.nin n f, m, x.old _ _ n f, RepPs.ext x g⟩
  | .dic _, _, r => by
    rw [RepP] at r ⊢
    obtain ⟨a, xs, e, n, m, f, g⟩ := r
    exact ⟨a, xs, e, x.nin n f, m, x.old _ _ n f, RepKs.ext x g⟩
  | .ins _ _, _, r => by
    rw [RepP] at r ⊢
    obtain ⟨a, dx, xs, e, n, m, f, g⟩ := r
    exact ⟨a, dx, xs, e, x.nin n f, m, x.old _ _ n f, RepFs.ext x g⟩
  | .scr _, _, r => by
    rw [RepP] at r ⊢
    obtain ⟨a, e, f⟩ := r
    exact ⟨a, e, f.ext x⟩
theorem RepPs.ext {K : PySem.W.Frag} {ι ι' X : List Addr} {H H' : Hp} (x : Ext ι H ι' H') : ∀ {p : List P} {v : List V}, RepPs K ι X H p v → RepPs K ι' X H' p v
  | [], _, r => by rw [RepPs] at r ⊢; exact r
  | _ :: _, _, r => by
    rw [RepPs] at r ⊢
    obtain ⟨y, ys, e, f, g⟩ := r
    exact ⟨y, ys, e, RepP.ext x f, RepPs.ext x g⟩
theorem RepKs.ext {K : PySem.W.Frag} {ι ι' X : List Addr} {H H' : Hp} (x : Ext ι H ι' H') : ∀ {p : List (P × P)} {v : List (Key × V)}, RepKs K ι X H p v → RepKs K ι' X H' p v
  | [], _, r => by rw [RepKs] at r ⊢; exact r
  | (_, _) :: _, _, r => by
    rw [RepKs] at r ⊢
    obtain ⟨c, y, ys, e, f, g, h⟩ := r
    exact ⟨c, y, ys, e, RepP.ext x f, RepP.ext x g, RepKs.ext x h⟩
theorem RepFs.ext {K : PySem.W.Frag} {ι ι' X : List Addr} {H H' : Hp} (x : Ext ι H ι' H') : ∀ {p : List (Str × P)} {v : List (Str × V)}, RepFs K ι X H p v → RepFs K ι' X H' p v
  | [], _, r => by rw [RepFs] at r ⊢; exact r
  | (_, _) :: _, _, r => by
    rw [RepFs] at r ⊢
    obtain ⟨y, ys, e, f, g⟩ := r
    exact ⟨y, ys, e, RepP.ext x f, RepFs.ext x g⟩
end
theorem RepD.ext {K : PySem.W.Frag} {ι ι' X : List Addr} {H H' : Hp} (x : Ext ι H ι' H') : ∀ {p : D} {v : V}, RepD K ι X H p v → RepD K ι' X H' p v
  | .dat _, _, r => RepP.ext x r
  | .obj _, _, ⟨a, e, h⟩ => ⟨a, x.at e, h⟩
theorem RepDs.ext {K : PySem.W.Frag} {ι ι' X : List Addr} {H H' : Hp} (x : Ext ι H ι' H') : ∀ {p : List D} {v : List V}, RepDs K ι X H p v → RepDs K ι' X H' p v
  | [], _, r => r
  | _ :: _, _, ⟨y, ys, e, f, g⟩ => ⟨y, ys, e, f.ext x, RepDs.ext x g⟩
theorem RepDF.ext {K : PySem.W.Frag} {ι ι' X : List Addr} {H H' : Hp} (x : Ext ι H ι' H') : ∀ {p : List (Str × D)} {v : List (Str × V)}, RepDF K ι X H p v → RepDF K ι' X H' p v
  | [], _, r => r
  | (_, _) :: _, _, ⟨y, ys, e, f, g⟩ => ⟨y, ys, e, f.ext x, RepDF.ext x g⟩
theorem RepDK.ext {K : PySem.W.Frag} {ι ι' X : List Addr} {H H' : Hp} (x : Ext ι H ι' H') : ∀ {p : List (Key × D)} {v : List (Key × V)}, RepDK K ι X H p v → RepDK K ι' X H' p v
  | [], _, r => r
  | (_, _) :: _, _, ⟨y, ys, e, f, g⟩ => ⟨y, ys, e, f.ext x, RepDK.ext x g⟩
/-! ### a change that no data sees: at tracked places, at places in X, at places that were free -/
structure OutP (ι X : List Addr) (H : Hp) (ι' X' : List Addr) (H' : Hp) : Prop where
  ok : ∀ a o, a ∉ ι → a ∉ X → H a = some o → H' a = some o ∧ a ∉ ι' ∧ a ∉ X'
structure Out1 (ι X : List Addr) (H : Hp) (ι' X' : List Addr) (H' : Hp) : Prop where
  at_ : ∀ {i : Nat} {a : Addr}, ι[i]? = some a → ι'[i]? = some a
  ok : ∀ a o, a ∉ ι → a ∉ X → H a = some o → H' a = some o ∧ a ∉ ι' ∧ a ∉ X'
theorem TupAt.out {K : PySem.W.Frag} {ι X ι' X' : List Addr} {H H' : Hp} {a : Addr} {xs : List V} (x : OutP ι X H ι' X' H') (r : TupAt K ι X H a xs) : TupAt K ι' X' H' a xs :=
  r.imp (fun ⟨n, m, r⟩ => by
    rcases r with r | ⟨o, r⟩
    · obtain ⟨p, q, s⟩ := x.ok _ _ n m r
      exact ⟨q, s, .inl p⟩
    · obtain ⟨p, q, s⟩ := x.ok _ _ n m r
      exact ⟨q, s, .inr ⟨o, p⟩⟩) id
theorem LstAt.out {K : PySem.W.Frag} {ι X ι' X' : List Addr} {H H' : Hp} {a : Addr} {xs : List V} (x : OutP ι X H ι' X' H') (r : LstAt K ι X H a xs) : LstAt K ι' X' H' a xs :=
  r.imp (fun ⟨n, m, r⟩ => by
    rcases r with r | ⟨o, r⟩
    · obtain ⟨p, q, s⟩ := x.ok _ _ n m r
      exact ⟨q, s, .inl p⟩
    · obtain ⟨p, q, s⟩ := x.ok _ _ n m r
      exact ⟨q, s, .inr ⟨o, p⟩⟩) id
mutual
theorem RepP.out {K : PySem.W.Frag} {ι X ι' X' : List Addr} {H H' : Hp} (x : OutP ι X H ι' X' H') : ∀ {p : P} {v : V}, RepP K ι X H p v → RepP K ι' X' H' p v
  | .non, _, r => by rw [RepP] at r ⊢; exact r
  | .bl _, _, r => by rw [RepP] at r ⊢; exact r
  | .int _, _, r => by rw [RepP] at r ⊢; exact r
  | .str _, _, r => by rw [RepP] at r ⊢; exact r
  | .con _, _, r => by rw [RepP] at r ⊢; exact r
  | .tup _, _, r => by
    rw [RepP] at r ⊢
    obtain ⟨a, xs, e, f, g⟩ := r
    exact ⟨a, xs, e, f.out x, RepPs.out x g⟩
  | .lst _, _, r => by
    rw [RepP] at r ⊢
    obtain ⟨a, xs, e, n, m, f, g⟩ := r
    obtain ⟨p, q, s⟩ := x.ok _ _ n m f
    exact ⟨a, xs, e, q, s, p, RepPs.out x g⟩
  | .dic _, _, r => by
    rw [RepP] at r ⊢
    obtain ⟨a, xs, e, n, m, f, g⟩ := r
    obtain ⟨p, q, s⟩ := x.ok _ _ n m f
    exact ⟨a, xs, e, q, s, p, RepKs.out x g⟩
  | .ins _ _, _, r => by
    rw [RepP] at r ⊢
    obtain ⟨a, dx, xs, e, n, m, f, g⟩ := r
    obtain ⟨p, q, s⟩ := x.ok _ _ n m f
    exact ⟨a, dx, xs, e, q, s, p, RepFs.out x g⟩
  | .scr _, _, r => by
    rw [RepP] at r ⊢
    obtain ⟨a, e, f⟩ := r
    exact ⟨a, e, f.out x⟩
theorem RepPs.out {K : PySem.W.Frag} {ι X ι' X' : List Addr} {H H' : Hp} (x : OutP ι X H ι' X' H') : ∀ {p : List P} {v : List V}, RepPs K ι X H p v → RepPs K ι' X' H' p v
  | [], _, r => by rw [RepPs] at r ⊢; exact r
  | _ :: _, _, r => by
    rw [RepPs] at r ⊢
    obtain ⟨y, ys, e, f, g⟩ := r
    exact ⟨y, ys, e, RepP.out x f, RepPs.out x g⟩
theorem RepKs.out {K : PySem.W.Frag} {ι X ι' X' : List Addr} {H H' : Hp} (x : OutP ι X H ι' X' H') : ∀ {p : List (P × P)} {v : List (Key × V)}, RepKs K ι X H p v → RepKs K ι' X' H' p v
  | [], _, r => by rw [RepKs] at r ⊢; exact r
  | (_, _) :: _, _, r => by
    rw [RepKs] at r ⊢
    obtain ⟨c, y, ys, e, f, g, h⟩ := r
    exact ⟨c, y, ys, e, RepP.out x f, RepP.out x g, RepKs.out x h⟩
theorem RepFs.out {K : PySem.W.Frag} {ι X ι' X' : List Addr} {H H' : Hp} (x : OutP ι X H ι' X' H') : ∀ {p : List (Str × P)} {v : List (Str × V)}, RepFs K ι X H p v → RepFs K ι' X' H' p v
  | [], _, r => by rw [RepFs] at r ⊢; exact r
  | (_, _) :: _, _, r => by
    rw [RepFs] at r ⊢
    obtain ⟨y, ys, e, f, g⟩ := r
    exact ⟨y, ys, e, RepP.out x f, RepFs.out x g⟩
end
section
variable {K : PySem.W.Frag} {ι X ι' X' : List Addr} {H H' : Hp} (x : Out1 ι X H ι' X' H')
include x
theorem Out1.p : OutP ι X H ι' X' H' := ⟨x.ok⟩
theorem RepD.out : ∀ {p : D} {v : V}, RepD K ι X H p v → RepD K ι' X' H' p v
  | .dat _, _, r => RepP.out (Out1.p x) r
  | .obj _, _, ⟨a, e, h⟩ => ⟨a, x.at_ e, h⟩
theorem RepDs.out : ∀ {p : List D} {v : List V}, RepDs K ι X H p v → RepDs K ι' X' H' p v
  | [], _, r => r
  | _ :: _, _, ⟨y, ys, e, f, g⟩ => ⟨y, ys, e, RepD.out x f, RepDs.out g⟩
theorem RepDF.out : ∀ {p : List (Str × D)} {v : List (Str × V)}, RepDF K ι X H p v → RepDF K ι' X' H' p v
  | [], _, r => r
  | (_, _) :: _, _, ⟨y, ys, e, f, g⟩ => ⟨y, ys, e, RepD.out x f, RepDF.out g⟩
theorem RepDK.out : ∀ {p : List (Key × D)} {v : List (Key × V)}, RepDK K ι X H p v → RepDK K ι' X' H' p v
  | [], _, r => r
  | (_, _) :: _, _, ⟨y, ys, e, f, g⟩ => ⟨y, ys, e, RepD.out x f, RepDK.out g⟩
end
theorem Out1.ext {ι ι' X : List Addr} {H H' : Hp} (x : Ext ι H ι' H') : Out1 ι X H ι' X H' := ⟨fun e => x.at e, fun a o n m e => ⟨x.old a o n e, x.nin n e, m⟩⟩
end M3
namespace M3
open PySem PySem.Spec PyProof.Rows L2
/-! ### results -/
inductive R (α : Type)
  | ok (a : α) (S : Store) | exc (C : Addr) (x : Option (Str × P)) (S : Store) | fail
def R.bind {α β : Type} (r : R α) (f : α → Store → R β) : R β := match r with
  | .ok a S => f a S
  | .exc C x S => .exc C x S
  | .fail => .fail
@[simp] theorem R.bind_ok {α β : Type} {a : α} {S : Store} {f : α → Store → R β} : (R.ok a S).bind f = f a S := rfl
@[simp] theorem R.bind_exc {α β : Type} {C : Addr} {x : Option (Str × P)} {S : Store} {f : α → Store → R β} : (R.exc C x S : R α).bind f = .exc C x S := rfl
@[simp] theorem R.bind_fail {α β : Type} {f : α → Store → R β} : (R.fail : R α).bind f = .fail := rfl
abbrev DEnv := List (Option D)
abbrev DE := DEnv → Store → R D
abbrev DA := DEnv → Store → R (List D)
abbrev DT := DEnv → Store → R Bool
/-- a statement's end -/
inductive Out
  | nx (δ : DEnv) | rt (d : D) | bk (δ : DEnv) | ct (δ : DEnv) | ex (C : Addr) (x : Option (Str × P)) (δ : DEnv)
abbrev DS := DEnv → Store → R Out
section
variable (K : PySem.W.Frag)
def RepX (ι X : List Addr) (H : Hp) : Option (Str × P) → Option Addr → Prop
  | none, da => da = none
  | some (f, p), da => ∃ d v, da = some d ∧ H d = some (.xd [(f, v)]) ∧ RepP K ι X H p v
def RepE (ι X : List Addr) (H : Hp) (δ : DEnv) (σ : L2.St) : Prop := δ.length = σ.length ∧ ∀ (i : Nat) d, δ[i]? = some (some d) → ∃ v, σ[i]? = some (some v) ∧ RepD K ι X H d v
abbrev WK := Value → Option Addr → Hp → Prop
def Post {α β : Type} (X ι : List Addr) (H : Hp) (W : WK) (r : R α) (Rp : List Addr → Hp → α → β → Prop) (Q : β → Hp → Prop) : Prop := match r with
  | .ok a S' => ∀ ι' H' v, Ext ι H ι' H' → Rel K ι' X S' H' → Rp ι' H' a v → Q v H'
  | .exc C x S' => ∀ ι' H' da, Ext ι H ι' H' → Rel K ι' X S' H' → RepX K ι' X H' x da → W (.ref C) da H'
  | .fail => False
end
section
variable {K : PySem.W.Frag} {X ι : List Addr} {H : Hp} {α β γ ε : Type} {W : WK}
theorem Post.ext {r : R α} {Rp : List Addr → Hp → α → β → Prop} {Q : β → Hp → Prop} {ι1 : List Addr} {H1 : Hp} (x : Ext ι H ι1 H1) (h : Post K X ι H W r Rp Q) : Post K X ι1 H1 W r Rp Q := by
  cases r with
  | ok a S => exact fun ι' H' v y => h ι' H' v (x.trans y)
  | exc C z S => exact fun ι' H' v y => h ι' H' v (x.trans y)
  | fail => exact h
theorem Post.bind {r : R α} {f : α → Store → R γ} {Rp : List Addr → Hp → γ → ε → Prop} {Q : ε → Hp → Prop} {Rp1 : List Addr → Hp → α → β → Prop} {Q1 : β → Hp → Prop} (h : Post K X ι H W (r.bind f) Rp Q)
    (k : ∀ ι1 H1 a S1 v, Ext ι H ι1 H1 → Rel K ι1 X S1 H1 → Rp1 ι1 H1 a v → Post K X ι1 H1 W (f a S1) Rp Q → Q1 v H1) : Post K X ι H W r Rp1 Q1 := by
  cases r with
  | ok a S => exact fun ι' H' v x rel rp => k ι' H' a S v x rel rp (Post.ext x h)
  | exc C z S => exact h
  | fail => exact h
theorem Post.mono {r : R α} {Rp : List Addr → Hp → α → β → Prop} {Q : β → Hp → Prop} {Rp1 : List Addr → Hp → α → ε → Prop} {Q1 : ε → Hp → Prop} (h : Post K X ι H W r Rp Q)
    (k : ∀ ι1 H1 a v, Ext ι H ι1 H1 → Rp1 ι1 H1 a v → ∃ u, Rp ι1 H1 a u ∧ (Q u H1 → Q1 v H1)) : Post K X ι H W r Rp1 Q1 := by
  cases r with
  | ok a S => exact fun ι' H' v x rel rp => let ⟨u, a, b⟩ := k ι' H' _ v x rp; b (h ι' H' u x rel a)
  | exc C z S => exact h
  | fail => exact h
end
theorem RepE.ext {K : PySem.W.Frag} {ι ι' X : List Addr} {H H' : Hp} {δ : DEnv} {σ : L2.St} (x : Ext ι H ι' H') (r : RepE K ι X H δ σ) : RepE K ι' X H' δ σ := ⟨r.1, fun i d e => let ⟨v, a, b⟩ := r.2 i d e; ⟨v, a, b.ext x⟩⟩
theorem RepE.out {K : PySem.W.Frag} {ι ι' X X' : List Addr} {H H' : Hp} {δ : DEnv} {σ : L2.St} (x : Out1 ι X H ι' X' H') (r : RepE K ι X H δ σ) : RepE K ι' X' H' δ σ := ⟨r.1, fun i d e => let ⟨v, a, b⟩ := r.2 i d e; ⟨v, a, b.out x⟩⟩
theorem RepE.set {K : PySem.W.Frag} {ι X : List Addr} {H : Hp} {δ : DEnv} {σ : L2.St} {d : D} {v : V} {i : Nat} (r : RepE K ι X H δ σ) (q : RepD K ι X H d v) : RepE K ι X H (δ.set i (some d)) (σ.set i (some v)) := by
  refine ⟨by rw [List.length_set, List.length_set]; exact r.1, fun j e h => ?_⟩
  by_cases z : i = j
  · subst z
    have hi : i < δ.length := by have := (List.getElem?_eq_some_iff.mp h).1; rwa [List.length_set] at this
    rw [List.getElem?_set_self hi] at h
    cases h
    exact ⟨v, List.getElem?_set_self (by rw [← r.1]; exact hi), q⟩
  · rw [List.getElem?_set_ne z] at h
    obtain ⟨u, a, b⟩ := r.2 j e h
    exact ⟨u, by rw [List.getElem?_set_ne z]; exact a, b⟩
theorem RepE.wipe1 {K : PySem.W.Frag} {ι X : List Addr} {H : Hp} {δ : DEnv} {σ : L2.St} {i : Nat} (r : RepE K ι X H δ σ) : RepE K ι X H (δ.set i none) (σ.set i none) := by
  refine ⟨by rw [List.length_set, List.length_set]; exact r.1, fun j e h => ?_⟩
  by_cases z : i = j
  · subst z
    have hi : i < δ.length := by have := (List.getElem?_eq_some_iff.mp h).1; rwa [List.length_set] at this
    rw [List.getElem?_set_self hi] at h
    cases h
  · rw [List.getElem?_set_ne z] at h
    obtain ⟨u, a, b⟩ := r.2 j e h
    exact ⟨u, by rw [List.getElem?_set_ne z]; exact a, b⟩
def wipeD (δ : DEnv) : List Nat → DEnv
  | [] => δ
  | v :: vs => (wipeD δ vs).set v none
theorem RepE.wipe {K : PySem.W.Frag} {ι X : List Addr} {H : Hp} {δ : DEnv} {σ : L2.St} (r : RepE K ι X H δ σ) : ∀ vs, RepE K ι X H (wipeD δ vs) (wipe σ vs)
  | [] => r
  | v :: vs => (RepE.wipe r vs).wipe1
/-! ### the judgements: a reading is answered by a function of data -/
section
variable (K : PySem.W.Frag) (W : L2.St → WK)
def SE (t : TE) (m : DE) : Prop := ∀ ι X S H σ δ Q, Rel K ι X S H → RepE K ι X H δ σ → Post K X ι H (W σ) (m δ S) (fun ι' H' d v => RepD K ι' X H' d v) Q → t σ H Q
def SA (t : TA) (m : DA) : Prop := ∀ ι X S H σ δ Q, Rel K ι X S H → RepE K ι X H δ σ → Post K X ι H (W σ) (m δ S) (fun ι' H' d v => RepDs K ι' X H' d v) Q → t σ H Q
def ST (t : TT) (m : DT) : Prop := ∀ ι X S H σ δ Q, Rel K ι X S H → RepE K ι X H δ σ → Post K X ι H (W σ) (m δ S) (fun _ _ d v => v = d) Q → t σ H Q
/-- a new list, that nothing else knows -/
def PostL (X ι : List Addr) (H : Hp) (W : WK) (r : R (List D)) (Q : V → Hp → Prop) : Prop := match r with
  | .ok ds S' => ∀ ι' H' p xs, Ext ι H ι' H' → Rel K ι' (p :: X) S' H' → H p = none → H' p = some (.lst xs) → RepDs K ι' (p :: X) H' ds xs → Q (.ref p) H'
  | .exc C x S' => ∀ ι' H' da, Ext ι H ι' H' → Rel K ι' X S' H' → RepX K ι' X H' x da → W (.ref C) da H'
  | .fail => False
def SL (t : TE) (m : DA) : Prop := ∀ ι X S H σ δ Q, Rel K ι X S H → RepE K ι X H δ σ → PostL K X ι H (W σ) (m δ S) Q → t σ H Q
def PostS (X ι : List Addr) (H : Hp) (r : R Out) (E : Ends) : Prop := match r with
  | .ok (.nx δ) S' => ∀ ι' H' σ, Ext ι H ι' H' → Rel K ι' X S' H' → RepE K ι' X H' δ σ → E.nx σ H'
  | .ok (.bk δ) S' => ∀ ι' H' σ, Ext ι H ι' H' → Rel K ι' X S' H' → RepE K ι' X H' δ σ → E.bk σ H'
  | .ok (.ct δ) S' => ∀ ι' H' σ, Ext ι H ι' H' → Rel K ι' X S' H' → RepE K ι' X H' δ σ → E.ct σ H'
  | .ok (.rt d) S' => ∀ ι' H' v, Ext ι H ι' H' → Rel K ι' X S' H' → RepD K ι' X H' d v → E.rt v H'
  | .ok (.ex C x δ) S' => ∀ ι' H' da σ, Ext ι H ι' H' → Rel K ι' X S' H' → RepX K ι' X H' x da → RepE K ι' X H' δ σ → W σ (.ref C) da H'
  | .exc _ _ _ => False
  | .fail => False
def SS (t : TS) (m : DS) : Prop := ∀ ι X S H σ δ E, Rel K ι X S H → RepE K ι X H δ σ → PostS K W X ι H (m δ S) E → t E σ H
end
theorem ext_free {ι ι' : List Addr} {H H' : Hp} (x : Ext ι H ι' H') {p : Addr} (n : p ∉ ι') (e : H' p = none) : H p = none := by
  cases h : H p with
  | none => rfl
  | some u =>
    have z : p ∉ ι := fun m => by
      obtain ⟨t, et⟩ := x.pre
      exact n (by rw [et]; exact List.mem_append_left _ m)
    rw [x.old p u z h] at e
    cases e
theorem PostS.ext {K : PySem.W.Frag} {W : L2.St → WK} {X ι : List Addr} {H : Hp} {r : R Out} {E : Ends} {ι1 : List Addr} {H1 : Hp} (x : Ext ι H ι1 H1) (h : PostS K W X ι H r E) : PostS K W X ι1 H1 r E := by
  cases r with
  | ok o S => cases o with
    | nx => exact fun ι' H' v y => h ι' H' v (x.trans y)
    | bk => exact fun ι' H' v y => h ι' H' v (x.trans y)
    | ct => exact fun ι' H' v y => h ι' H' v (x.trans y)
    | rt => exact fun ι' H' v y => h ι' H' v (x.trans y)
    | ex => exact fun ι' H' v σ y => h ι' H' v σ (x.trans y)
  | exc C z S => exact h
  | fail => exact h
/-- an expression's result within a statement -/
def R.st {α : Type} (r : R α) (δ : DEnv) (f : α → Store → R Out) : R Out := match r with
  | .ok a S => f a S
  | .exc C x S => .ok (.ex C x δ) S
  | .fail => .fail
@[simp] theorem R.st_ok {α : Type} {a : α} {S : Store} {δ : DEnv} {f : α → Store → R Out} : (R.ok a S).st δ f = f a S := rfl
@[simp] theorem R.st_exc {α : Type} {C : Addr} {x : Option (Str × P)} {S : Store} {δ : DEnv} {f : α → Store → R Out} : (R.exc C x S : R α).st δ f = .ok (.ex C x δ) S := rfl
@[simp] theorem R.st_fail {α : Type} {δ : DEnv} {f : α → Store → R Out} : (R.fail : R α).st δ f = .fail := rfl
theorem PostS.st {K : PySem.W.Frag} {W : L2.St → WK} {X ι : List Addr} {H : Hp} {α β : Type} {r : R α} {δ : DEnv} {σ : L2.St} {f : α → Store → R Out} {E : Ends} {Rp : List Addr → Hp → α → β → Prop} {Q : β → Hp → Prop} (re : RepE K ι X H δ σ) (h : PostS K W X ι H (r.st δ f) E)
    (k : ∀ ι1 H1 a S1 v, Ext ι H ι1 H1 → Rel K ι1 X S1 H1 → Rp ι1 H1 a v → PostS K W X ι1 H1 (f a S1) E → Q v H1) : Post K X ι H (W σ) r Rp Q := by
  cases r with
  | ok a S => exact fun ι' H' v x rel rp => k ι' H' a S v x rel rp (PostS.ext x h)
  | exc C z S => exact fun ι' H' da x rel rx => h ι' H' da σ x rel rx (re.ext x)
  | fail => exact h
end M3
namespace M3
open PySem PySem.Spec PyProof.Rows L2
/-! ### functions of data: what each construct does -/
def oR {α : Type} (o : Option α) (S : Store) : R α := match o with
  | some a => .ok a S
  | none => .fail
@[simp] theorem oR_some {α : Type} {a : α} {S : Store} : oR (some a) S = .ok a S := rfl
@[simp] theorem oR_none {α : Type} {S : Store} : (oR none S : R α) = .fail := rfl
def mVar (i : Nat) : DE := fun δ S => match δ[i]? with
  | some (some d) => .ok d S
  | _ => .fail
def mC (p : P) : DE := fun _ S => .ok (.dat p) S
def mOp (f : Store → D → D → Option D) (a b : DE) : DE := fun δ S => (a δ S).bind fun x S1 => (b δ S1).bind fun y S2 => oR (f S2 x y) S2
def mUn (f : Store → D → Option D) (a : DE) : DE := fun δ S => (a δ S).bind fun x S1 => oR (f S1 x) S1
def mNil : DA := fun _ S => .ok [] S
def mCons (a : DE) (r : DA) : DA := fun δ S => (a δ S).bind fun x S1 => (r δ S1).bind fun xs S2 => .ok (x :: xs) S2
/-- all are data -/
def datAll : List D → Option (List P)
  | [] => some []
  | .dat p :: ds => (datAll ds).map (p :: ·)
  | .obj _ :: _ => none
def mTup (a : DA) : DE := fun δ S => (a δ S).bind fun ds S1 => match datAll ds with
  | some ps => if ps.length ≤ 100000 then .ok (.dat (.tup ps)) S1 else .fail
  | none => .fail
def mLst (a : DA) : DA := fun δ S => (a δ S).bind fun ds S1 => if ds.length ≤ 100000 then .ok ds S1 else .fail
/-- a new list that will not change -/
def mFrz (a : DA) : DE := fun δ S => (a δ S).bind fun ds S1 => match datAll ds with
  | some ps => .ok (.dat (.lst ps)) S1
  | none => .fail
/-- a new list that may change -/
def mTrk (a : DA) : DE := fun δ S => (a δ S).bind fun ds S1 => .ok (.obj S1.length) (S1 ++ [.lst ds])
def asB : D → Option Bool
  | .dat (.bl b) => some b
  | _ => none
def mAnd (a b : DE) : DE := fun δ S => (a δ S).bind fun x S1 => match asB x with
  | some true => b δ S1
  | some false => .ok (.dat (.bl false)) S1
  | none => .fail
def mOr (a b : DE) : DE := fun δ S => (a δ S).bind fun x S1 => match asB x with
  | some true => .ok (.dat (.bl true)) S1
  | some false => b δ S1
  | none => .fail
def mNot (a : DE) : DE := fun δ S => (a δ S).bind fun x S1 => match asB x with
  | some b => .ok (.dat (.bl (!b))) S1
  | none => .fail
def mTst (a : DE) : DT := fun δ S => (a δ S).bind fun x S1 => oR (asB x) S1
def mAndT (a b : DT) : DT := fun δ S => (a δ S).bind fun x S1 => match x with
  | true => b δ S1
  | false => .ok false S1
def mOrT (a b : DT) : DT := fun δ S => (a δ S).bind fun x S1 => match x with
  | true => .ok true S1
  | false => b δ S1
def mNotT (a : DT) : DT := fun δ S => (a δ S).bind fun x S1 => .ok (!x) S1
def mIf (c : DT) (a b : DE) : DE := fun δ S => (c δ S).bind fun x S1 => match x with
  | true => a δ S1
  | false => b δ S1
def mChain (f g : Store → D → D → Option D) (a b c : DE) : DE := fun δ S => (a δ S).bind fun x S1 => (b δ S1).bind fun y S2 => (oR (f S2 x y) S2).bind fun z S3 => match asB z with
  | some true => (c δ S3).bind fun w S4 => oR (g S4 y w) S4
  | some false => .ok (.dat (.bl false)) S3
  | none => .fail
def mCall (f : Store → List D → Option D) (a : DA) : DE := fun δ S => (a δ S).bind fun ds S1 => oR (f S1 ds) S1
/-- a call of a def -/
def mDef (n : Nat) (f : List D → Store → R D) (a : DA) : DE := fun δ S => (a δ S).bind fun ds S1 => if ds.length = n then f ds S1 else .fail
/-! ### statements -/
def mNext : DS := fun δ S => .ok (.nx δ) S
def mSeq (a b : DS) : DS := fun δ S => match a δ S with
  | .ok (.nx δ1) S1 => b δ1 S1
  | r => r
def mRet (a : DE) : DS := fun δ S => (a δ S).st δ fun d S1 => .ok (.rt d) S1
def mRetN : DS := fun δ S => .ok (.rt (.dat .non)) S
def mDrop (a : DE) : DS := fun δ S => (a δ S).st δ fun _ S1 => .ok (.nx δ) S1
def mSet (i : Nat) (a : DE) : DS := fun δ S => (a δ S).st δ fun d S1 => .ok (.nx (δ.set i (some d))) S1
def mIfS (c : DT) (a b : DS) : DS := fun δ S => (c δ S).st δ fun x S1 => match x with
  | true => a δ S1
  | false => b δ S1
def mBrk : DS := fun δ S => .ok (.bk δ) S
def mCnt : DS := fun δ S => .ok (.ct δ) S
def mPar (i j : Nat) (a : DA) : DS := fun δ S => (a δ S).st δ fun ds S1 => match ds with
  | [x, y] => .ok (.nx ((δ.set i (some x)).set j (some y))) S1
  | _ => .fail
/-- targets -/
abbrev DG := D → DEnv → Store → R DEnv
abbrev DGs := List D → DEnv → Store → R DEnv
def gmName (i : Nat) : DG := fun d δ S => .ok (δ.set i (some d)) S
def gmNil : DGs := fun ds δ S => match ds with
  | [] => .ok δ S
  | _ => .fail
def gmCons (g : DG) (r : DGs) : DGs := fun ds δ S => match ds with
  | d :: ds => (g d δ S).bind fun δ1 S1 => r ds δ1 S1
  | [] => .fail
def gmTup (n : Nat) (g : DGs) : DG := fun d δ S => match d with
  | .dat (.tup ps) => if ps.length = n then g (ps.map .dat) δ S else .fail
  | _ => .fail
def mAsg (a : DE) (g : DG) : DS := fun δ S => (a δ S).st δ fun d S1 => (g d δ S1).st δ fun δ1 S2 => .ok (.nx δ1) S2
/-! ### loops -/
/-- a turn's end: go on, or leave -/
def mTurn (o : R Out) (next : DEnv → Store → R Out) : R Out := match o with
  | .ok (.nx δ) S => next δ S
  | .ok (.ct δ) S => next δ S
  | .ok (.bk δ) S => .ok (.nx δ) S
  | r => r
def mWhileN (c : DT) (b : DS) : Nat → DS
  | 0 => fun _ _ => .fail
  | n + 1 => fun δ S => (c δ S).st δ fun x S1 => match x with
    | true => mTurn (b δ S1) (mWhileN c b n)
    | false => .ok (.nx δ) S1
def FUEL : Nat := 1000000000
def mWhile (c : DT) (b : DS) : DS := mWhileN c b FUEL
def mForL (g : DG) (b : DS) : List D → DS
  | [] => fun δ S => .ok (.nx δ) S
  | d :: ds => fun δ S => mTurn ((g d δ S).st δ b) (mForL g b ds)
/-- over a list that may change; its length does not -/
def mForO (g : DG) (b : DS) (o n : Nat) : Nat → Nat → DS
  | 0, _ => fun δ S => match S[o]? with
    | some (.lst l) => if l.length = n then .ok (.nx δ) S else .fail
    | _ => .fail
  | k + 1, i => fun δ S => match S[o]? with
    | some (.lst l) => if l.length = n then (match l[i]? with
      | some d => mTurn ((g d δ S).st δ b) (mForO g b o n k (i + 1))
      | none => .fail) else .fail
    | _ => .fail
/-- what is walked: items that stay, or an object -/
inductive Wk | items (l : List D) | ob (o : Nat)
abbrev DI := DEnv → Store → R Wk
def mFor (w : DI) (g : DG) (b : DS) : DS := fun δ S => (w δ S).st δ fun k S1 => match k with
  | .items l => mForL g b l δ S1
  | .ob o => match S1[o]? with
    | some (.lst l) => mForO g b o l.length l.length 0 δ S1
    | _ => .fail
/-- comprehensions: what is raised within them is not carried -/
def R.bnf {α β : Type} (r : R α) (f : α → Store → R β) : R β := match r with
  | .ok a S => f a S
  | _ => .fail
@[simp] theorem R.bnf_ok {α β : Type} {a : α} {S : Store} {f : α → Store → R β} : (R.ok a S).bnf f = f a S := rfl
@[simp] theorem R.bnf_exc {α β : Type} {C : Addr} {x : Option (Str × P)} {S : Store} {f : α → Store → R β} : (R.exc C x S : R α).bnf f = .fail := rfl
@[simp] theorem R.bnf_fail {α β : Type} {f : α → Store → R β} : (R.fail : R α).bnf f = .fail := rfl
def mLcL (g : DG) (t : DT) (e : DE) (vs : List Nat) (δ0 : DEnv) : List D → List D → Store → R (List D)
  | [], acc, S => .ok acc S
  | d :: ds, acc, S => (g d (wipeD δ0 vs) S).bnf fun δ1 S1 => (t δ1 S1).bnf fun b S2 => match b with
    | true => (e δ1 S2).bnf fun y S3 => if acc.length < 100000 then mLcL g t e vs δ0 ds (acc ++ [y]) S3 else .fail
    | false => mLcL g t e vs δ0 ds acc S2
def mLcO (g : DG) (t : DT) (e : DE) (vs : List Nat) (δ0 : DEnv) (o n : Nat) : Nat → Nat → List D → Store → R (List D)
  | 0, _, acc, S => match S[o]? with
    | some (.lst l) => if l.length = n then .ok acc S else .fail
    | _ => .fail
  | k + 1, i, acc, S => match S[o]? with
    | some (.lst l) => if l.length = n then (match l[i]? with
      | some d => (g d (wipeD δ0 vs) S).bnf fun δ1 S1 => (t δ1 S1).bnf fun b S2 => match b with
        | true => (e δ1 S2).bnf fun y S3 => if acc.length < 100000 then mLcO g t e vs δ0 o n k (i + 1) (acc ++ [y]) S3 else .fail
        | false => mLcO g t e vs δ0 o n k (i + 1) acc S2
      | none => .fail) else .fail
    | _ => .fail
def mYes : DT := fun _ S => .ok true S
def mLc (w : DI) (g : DG) (t : DT) (e : DE) (vs : List Nat) : DA := fun δ S => (w δ S).bind fun k S1 => match k with
  | .items l => (mLcL g t e vs δ l [] S1).bnf fun ds S2 => .ok ds S2
  | .ob o => match S1[o]? with
    | some (.lst l) => (mLcO g t e vs δ o l.length l.length 0 [] S1).bnf fun ds S2 => .ok ds S2
    | _ => .fail
/-! ### a def -/
def mBody (N : Nat) (b : DS) (ds : List D) (S : Store) : R D := match b (ds.map some ++ List.replicate (N - ds.length) none) S with
  | .ok (.nx _) S' => .ok (.dat .non) S'
  | .ok (.rt d) S' => .ok d S'
  | .ok (.ex C x _) S' => .exc C x S'
  | _ => .fail
/-- fields of data -/
def datF : List (Str × D) → Option (List (Str × P))
  | [] => some []
  | (f, .dat p) :: ds => (datF ds).map ((f, p) :: ·)
  | (_, .obj _) :: _ => none
/-- an object taken out of its store -/
def frz1 (S : Store) (i : Nat) : Option P := match S[i]? with
  | some (.lst l) => (datAll l).map .lst
  | some (.ins C l) => (datF l).map (.ins C)
  | _ => none
def D.lt (n : Nat) : D → Bool
  | .dat _ => true
  | .obj i => decide (i < n)
def O.lt (n : Nat) : O → Bool
  | .lst l => l.all (D.lt n)
  | .ins _ l => l.all fun p => p.2.lt n
  | .dic l => l.all fun p => p.2.lt n
/-- a def that sees data alone, and leaves nothing: its objects are its own -/
def mPure (f : List D → Store → R D) (ds : List D) (S : Store) : R D := match datAll ds with
  | none => .fail
  | some _ => match f ds [] with
    | .ok (.dat p) _ => .ok (.dat p) S
    | .ok (.obj i) S' => (match frz1 S' i with
        | some p => .ok (.dat p) S
        | none => .fail)
    | .exc C x _ => .exc C x S
    | .fail => .fail
/-- a def whose own objects go when it ends -/
def mScope (f : List D → Store → R D) (ds : List D) (S : Store) : R D := match f ds S with
  | .ok (.dat p) S' => if (S'.take S.length).all (O.lt S.length) = true then .ok (.dat p) (S'.take S.length) else .fail
  | .ok (.obj i) S' => if (S'.take S.length).all (O.lt S.length) = true then (if i < S.length then .ok (.obj i) (S'.take S.length) else match frz1 S' i with
      | some p => .ok (.dat p) (S'.take S.length)
      | none => .fail) else .fail
  | .exc C x S' => if (S'.take S.length).all (O.lt S.length) = true then .exc C x (S'.take S.length) else .fail
  | .fail => .fail
/-- a new instance, then its __init__ -/
def mkC (C : Addr) (f : List D → Store → R D) (ds : List D) (S : Store) : R D := (f (.obj S.length :: ds) (S ++ [.ins C []])).bind fun d S' => match d with
  | .dat .non => .ok (.obj S.length) S'
  | _ => .fail
end M3
namespace M3
open PySem PySem.Spec PyProof.Rows L2
/-! ### the store under changes -/
theorem nd_inj {α : Type} : ∀ {l : List α} {i j : Nat} {a : α}, l.Nodup → l[i]? = some a → l[j]? = some a → i = j
  | [], i, j, a, _, e, _ => by simp at e
  | b :: l, 0, 0, a, _, _, _ => rfl
  | b :: l, 0, j + 1, a, nd, e, f => by
    have e1 : b = a := by simpa using e
    subst e1
    exact absurd (List.mem_of_getElem? (by simpa using f)) (List.nodup_cons.mp nd).1
  | b :: l, i + 1, 0, a, nd, e, f => by
    have e1 : b = a := by simpa using f
    subst e1
    exact absurd (List.mem_of_getElem? (by simpa using e)) (List.nodup_cons.mp nd).1
  | b :: l, i + 1, j + 1, a, nd, e, f => congrArg (· + 1) (nd_inj (l := l) (i := i) (j := j) (a := a) (List.nodup_cons.mp nd).2 (by simpa using e) (by simpa using f))
section
variable {K : PySem.W.Frag} {ι X : List Addr} {S : Store} {H : Hp}
theorem Rel.obj (r : Rel K ι X S H) {i : Nat} {a : Addr} (e : ι[i]? = some a) : ∃ o, S[i]? = some o ∧ RepO K ι X H o a := by
  have hi : i < S.length := by rw [← r.len]; exact (List.getElem?_eq_some_iff.mp e).1
  exact ⟨S[i], List.getElem?_eq_getElem hi, r.at_ i _ a (List.getElem?_eq_getElem hi) e⟩
theorem RepO.some {o : O} {a : Addr} (r : RepO K ι X H o a) : ∃ u, H a = some u := by
  cases o with
  | lst l => obtain ⟨xs, e, _⟩ := r; exact ⟨_, e⟩
  | ins C l => obtain ⟨dx, xs, e, _⟩ := r; exact ⟨_, e⟩
  | dic l => obtain ⟨xs, e, _⟩ := r; exact ⟨_, e⟩
theorem Rel.mem (r : Rel K ι X S H) {a : Addr} (m : a ∈ ι) : ∃ u, H a = some u := by
  obtain ⟨i, hi, e⟩ := List.getElem_of_mem m
  obtain ⟨o, _, q⟩ := r.obj (List.getElem?_eq_some_iff.mpr ⟨hi, e⟩)
  exact q.some
theorem Rel.nin (r : Rel K ι X S H) {p : Addr} (hp : H p = none) : p ∉ ι ∧ p ∉ X := by
  constructor
  · intro m
    obtain ⟨u, e⟩ := r.mem m
    rw [hp] at e
    cases e
  · intro m
    obtain ⟨_, u, e⟩ := r.ex p m
    rw [hp] at e
    cases e
theorem Rel.addr (r : Rel K ι X S H) {i : Nat} {o : O} (e : S[i]? = some o) : ∃ a, ι[i]? = some a ∧ RepO K ι X H o a := by
  have hi : i < ι.length := by rw [r.len]; exact (List.getElem?_eq_some_iff.mp e).1
  exact ⟨ι[i], List.getElem?_eq_getElem hi, r.at_ i o _ e (List.getElem?_eq_getElem hi)⟩
theorem RepO.out {ι' X' : List Addr} {H' : Hp} {o : O} {a : Addr} (x : Out1 ι X H ι' X' H') (e : H' a = H a) (r : RepO K ι X H o a) : RepO K ι' X' H' o a := by
  cases o with
  | lst l => obtain ⟨xs, f, g⟩ := r; exact ⟨xs, by rw [e]; exact f, g.out x⟩
  | ins C l => obtain ⟨dx, xs, f, g⟩ := r; exact ⟨dx, xs, by rw [e]; exact f, g.out x⟩
  | dic l => obtain ⟨xs, f, g⟩ := r; exact ⟨xs, by rw [e]; exact f, g.out x⟩
theorem ext_alloc {p : Addr} {o : HO} (r : Rel K ι X S H) (hp : H p = none) : Ext ι H ι (upd H p o) :=
  ⟨⟨[], by simp⟩, fun b u _ e => by rw [upd_ne (ne_of_none e hp)]; exact e, fun b m n => absurd m n⟩
/-- a new object that is not tracked -/
theorem Rel.alloc {p : Addr} {o : HO} (r : Rel K ι X S H) (hp : H p = none) : Rel K ι X S (upd H p o) := by
  have x := Out1.ext (X := X) (ext_alloc (o := o) r hp)
  refine ⟨r.len, r.nd, fun i u a e f => ?_, fun a m => ⟨(r.ex a m).1, ?_⟩⟩
  · have q := r.at_ i u a e f
    obtain ⟨w, hw⟩ := q.some
    exact q.out x (upd_ne (ne_of_none hw hp))
  · obtain ⟨_, u, e⟩ := r.ex a m
    exact ⟨u, by rw [upd_ne (ne_of_none e hp)]; exact e⟩
/-- a change that is seen nowhere else -/
theorem Rel.keep {ι' X' : List Addr} {H' : Hp} (r : Rel K ι X S H) (x : Out1 ι X H ι' X' H') (hi : ι' = ι) (k : ∀ a ∈ ι, H' a = H a) (hX : ∀ a ∈ X', a ∉ ι' ∧ ∃ o, H' a = some o) : Rel K ι' X' S H' := by
  subst hi
  exact ⟨r.len, r.nd, fun i u a e f => (r.at_ i u a e f).out x (k a (List.mem_of_getElem? f)), hX⟩
/-- an object changes -/
theorem Rel.put {i : Nat} {a : Addr} {o : O} {u : HO} (r : Rel K ι X S H) (e : ι[i]? = some a) (new : RepO K ι X (upd H a u) o a) : Rel K ι X (S.set i o) (upd H a u) ∧ Ext ι H ι (upd H a u) := by
  have ma : a ∈ ι := List.mem_of_getElem? e
  have x : Ext ι H ι (upd H a u) := ⟨⟨[], by simp⟩, fun b w n h => by rw [upd_ne (fun z => n (by rw [z]; exact ma))]; exact h, fun b m n => absurd m n⟩
  refine ⟨⟨by rw [List.length_set]; exact r.len, r.nd, fun j w b hw hb => ?_, fun b m => ⟨(r.ex b m).1, ?_⟩⟩, x⟩
  · by_cases z : i = j
    · subst z
      have hi : i < S.length := by have := (List.getElem?_eq_some_iff.mp hw).1; rwa [List.length_set] at this
      rw [List.getElem?_set_self hi] at hw
      cases hw
      rw [e] at hb
      cases hb
      exact new
    · rw [List.getElem?_set_ne z] at hw
      have ne : b ≠ a := fun q => by
        subst q
        exact z (nd_inj r.nd e hb)
      exact (r.at_ j w b hw hb).out (Out1.ext x) (upd_ne ne)
  · obtain ⟨n, w, h⟩ := r.ex b m
    exact ⟨w, by rw [upd_ne (fun z => n (by rw [z]; exact ma))]; exact h⟩
/-- a new object that is tracked -/
theorem Rel.track {Y : List Addr} {a : Addr} {o : O} {ι0 : List Addr} {H0 : Hp} (x : Ext ι0 H0 ι H) (h0 : H0 a = none) (r : Rel K ι X S H) (n : a ∉ ι) (m : a ∉ Y) (hY : ∀ b ∈ Y, b ∈ X) (hr : RepO K (ι ++ [a]) Y H o a)
    (k : ∀ b ∈ ι, ∀ w, RepO K ι X H w b → RepO K (ι ++ [a]) Y H w b) : Rel K (ι ++ [a]) Y (S ++ [o]) H ∧ Ext ι0 H0 (ι ++ [a]) H := by
  refine ⟨⟨by rw [List.length_append, List.length_append, r.len]; rfl, ?_, fun i w b hw hb => ?_, fun b mb => ⟨fun q => ?_, (r.ex b (hY b mb)).2⟩⟩, ?_⟩
  · refine List.nodup_append.mpr ⟨r.nd, by simp, fun b mb c mc => ?_⟩
    rw [List.mem_singleton.mp mc]
    exact fun q => n (q ▸ mb)
  · by_cases z : i < S.length
    · rw [List.getElem?_append_left z] at hw
      rw [List.getElem?_append_left (by rw [r.len]; exact z)] at hb
      exact k b (List.mem_of_getElem? hb) w (r.at_ i w b hw hb)
    · rw [List.getElem?_append_right (by omega)] at hw
      rw [List.getElem?_append_right (by rw [r.len]; omega), r.len] at hb
      have zi : i - S.length = 0 := by
        have := (List.getElem?_eq_some_iff.mp hw).1
        simp at this
        omega
      rw [zi] at hw hb
      cases hw
      cases hb
      exact hr
  · rcases List.mem_append.mp q with q | q
    · exact (r.ex b (hY b mb)).1 q
    · rw [List.mem_singleton.mp q] at mb
      exact m mb
  · obtain ⟨t, et⟩ := x.pre
    refine ⟨⟨t ++ [a], by rw [et, List.append_assoc]⟩, x.old, fun b mb nb => ?_⟩
    rcases List.mem_append.mp mb with q | q
    · exact x.new b q nb
    · rw [List.mem_singleton.mp q]
      exact h0
end
section
variable {K : PySem.W.Frag} {W : L2.St → WK}
/-! ### names, constants -/
theorem se_var {i : Nat} : SE K W (tVar i) (mVar i) := by
  intro ι X S H σ δ Q rel re h
  unfold mVar at h
  split at h
  · rename_i d e
    obtain ⟨v, e2, rv⟩ := re.2 i d e
    exact ⟨v, e2, h ι H v Ext.refl rel rv⟩
  · exact h.elim
theorem se_c {v : V} {p : P} (hv : ∀ ι X H, RepP K ι X H p v) : SE K W (tC v) (mC p) := fun ι X S H σ δ Q rel re h => h ι H v Ext.refl rel (hv ι X H)
theorem rp_non {ι X : List Addr} {H : Hp} : RepP K ι X H .non .non := by rw [RepP]
theorem rp_bl {ι X : List Addr} {H : Hp} {b : Bool} : RepP K ι X H (.bl b) (.bl b) := by rw [RepP]
theorem rp_int {ι X : List Addr} {H : Hp} {b : Int} : RepP K ι X H (.int b) (.int b) := by rw [RepP]
theorem rp_str {ι X : List Addr} {H : Hp} {b : Str} : RepP K ι X H (.str b) (.str b) := by rw [RepP]
theorem rp_con {ι X : List Addr} {H : Hp} {b : V} : RepP K ι X H (.con b) b := by rw [RepP]
theorem rd_non {ι X : List Addr} {H : Hp} : RepD K ι X H (.dat .non) .non := by
  show RepP K ι X H _ _
  rw [RepP]
theorem rd_bl {ι X : List Addr} {H : Hp} {b : Bool} : RepD K ι X H (.dat (.bl b)) (.bl b) := by
  show RepP K ι X H _ _
  rw [RepP]
theorem rd_int {ι X : List Addr} {H : Hp} {b : Int} : RepD K ι X H (.dat (.int b)) (.int b) := by
  show RepP K ι X H _ _
  rw [RepP]
theorem rd_str {ι X : List Addr} {H : Hp} {b : Str} : RepD K ι X H (.dat (.str b)) (.str b) := by
  show RepP K ι X H _ _
  rw [RepP]
theorem se_int {i : Int} : SE K W (tC (.int i)) (mC (.int i)) := se_c fun _ _ _ => rp_int
theorem se_bl {i : Bool} : SE K W (tC (.bl i)) (mC (.bl i)) := se_c fun _ _ _ => rp_bl
theorem se_non : SE K W (tC .non) (mC .non) := se_c fun _ _ _ => rp_non
theorem se_str {i : Str} : SE K W (tC (.str i)) (mC (.str i)) := se_c fun _ _ _ => rp_str
theorem se_con {v : V} : SE K W (tC v) (mC (.con v)) := se_c fun _ _ _ => rp_con
/-! ### operators -/
/-- an operator by values, answered by a function of data -/
def R2S (K : PySem.W.Frag) (r : R2) (f : Store → D → D → Option D) : Prop := ∀ ι X S H x y v u d Q, Rel K ι X S H → RepD K ι X H x v → RepD K ι X H y u → f S x y = some d →
  (∀ H' w, Ext ι H ι H' → Rel K ι X S H' → RepD K ι X H' d w → Q w H') → r v u H Q
def R1S (K : PySem.W.Frag) (r : V → Hp → VK → Prop) (f : Store → D → Option D) : Prop := ∀ ι X S H x v d Q, Rel K ι X S H → RepD K ι X H x v → f S x = some d →
  (∀ H' w, Ext ι H ι H' → Rel K ι X S H' → RepD K ι X H' d w → Q w H') → r v H Q
def RCS (K : PySem.W.Frag) (r : List V → Hp → VK → Prop) (f : Store → List D → Option D) : Prop := ∀ ι X S H ds vs d Q, Rel K ι X S H → RepDs K ι X H ds vs → f S ds = some d →
  (∀ H' w, Ext ι H ι H' → Rel K ι X S H' → RepD K ι X H' d w → Q w H') → r vs H Q
theorem post_oR {X ι : List Addr} {S : Store} {H : Hp} {W : WK} {o : Option D} {Q : V → Hp → Prop} (h : Post K X ι H W (oR o S) (fun ι' H' d v => RepD K ι' X H' d v) Q) :
    ∃ d, o = some d ∧ ∀ H' w, Ext ι H ι H' → Rel K ι X S H' → RepD K ι X H' d w → Q w H' := by
  cases o with
  | none => exact h.elim
  | some d => exact ⟨d, rfl, fun H' w x r q => h ι H' w x r q⟩
theorem se_op {r : R2} {f : Store → D → D → Option D} {ta tb : TE} {a b : DE} (hr : R2S K r f) (ha : SE K W ta a) (hb : SE K W tb b) : SE K W (tOp r ta tb) (mOp f a b) := by
  intro ι X S H σ δ Q rel re h
  refine ha ι X S H σ δ _ rel re (Post.bind h fun ι1 H1 x S1 v x1 rel1 rv h1 => ?_)
  refine hb ι1 X S1 H1 σ δ _ rel1 (re.ext x1) (Post.bind h1 fun ι2 H2 y S2 u x2 rel2 ru h2 => ?_)
  obtain ⟨d, e, k⟩ := post_oR h2
  exact hr ι2 X S2 H2 x y v u d Q rel2 (rv.ext x2) ru e k
theorem se_un {r : V → Hp → VK → Prop} {f : Store → D → Option D} {ta : TE} {a : DE} (hr : R1S K r f) (ha : SE K W ta a) : SE K W (tUn r ta) (mUn f a) := by
  intro ι X S H σ δ Q rel re h
  refine ha ι X S H σ δ _ rel re (Post.bind h fun ι1 H1 x S1 v x1 rel1 rv h1 => ?_)
  obtain ⟨d, e, k⟩ := post_oR h1
  exact hr ι1 X S1 H1 x v d Q rel1 rv e k
theorem sa_nil : SA K W tNil mNil := fun ι X S H σ δ Q rel re h => h ι H [] Ext.refl rel rfl
theorem sa_cons {ta : TE} {tr : TA} {a : DE} {r : DA} (ha : SE K W ta a) (hr : SA K W tr r) : SA K W (tCons ta tr) (mCons a r) := by
  intro ι X S H σ δ Q rel re h
  refine ha ι X S H σ δ _ rel re (Post.bind h fun ι1 H1 x S1 v x1 rel1 rv h1 => ?_)
  refine hr ι1 X S1 H1 σ δ _ rel1 (re.ext x1) (Post.bind h1 fun ι2 H2 y S2 u x2 rel2 ru h2 => ?_)
  exact h2 ι2 H2 _ Ext.refl rel2 ⟨v, u, rfl, rv.ext x2, ru⟩
theorem se_call {r : List V → Hp → VK → Prop} {f : Store → List D → Option D} {t : TA} {a : DA} (hr : RCS K r f) (ha : SA K W t a) : SE K W (tCB r t) (mCall f a) := by
  intro ι X S H σ δ Q rel re h
  refine ha ι X S H σ δ _ rel re (Post.bind h fun ι1 H1 x S1 v x1 rel1 rv h1 => ?_)
  obtain ⟨d, e, k⟩ := post_oR h1
  exact hr ι1 X S1 H1 x v d Q rel1 rv e k
theorem datAll_rep {ι X : List Addr} {H : Hp} : ∀ {ds : List D} {ps : List P} {vs : List V}, datAll ds = some ps → RepDs K ι X H ds vs → RepPs K ι X H ps vs
  | [], ps, vs, e, r => by
    cases e
    rw [RepPs]
    exact r
  | .dat p :: ds, ps, vs, e, ⟨y, ys, ev, f, g⟩ => by
    unfold datAll at e
    cases q : datAll ds with
    | none => rw [q] at e; cases e
    | some qs =>
      rw [q] at e
      cases e
      rw [RepPs]
      exact ⟨y, ys, ev, f, datAll_rep q g⟩
  | .obj _ :: ds, ps, vs, e, r => by cases e
theorem repDs_dat {ι X : List Addr} {H : Hp} : ∀ {ps : List P} {vs : List V}, RepPs K ι X H ps vs → RepDs K ι X H (ps.map .dat) vs
  | [], vs, r => by rw [RepPs] at r; exact r
  | p :: ps, vs, r => by
    rw [RepPs] at r
    obtain ⟨y, ys, e, f, g⟩ := r
    exact ⟨y, ys, e, f, repDs_dat g⟩
@[simp] theorem datAll_map (ps : List P) : datAll (ps.map .dat) = some ps := by
  induction ps with
  | nil => rfl
  | cons p ps ih => rw [List.map_cons, datAll, ih]; rfl
theorem datAll_len : ∀ {ds : List D} {ps : List P}, datAll ds = some ps → ps.length = ds.length
  | [], _, e => by cases e; rfl
  | .dat p :: ds, ps, e => by
    unfold datAll at e
    cases q : datAll ds with
    | none => rw [q] at e; cases e
    | some qs =>
      rw [q] at e
      cases e
      rw [List.length_cons, List.length_cons, datAll_len q]
  | .obj _ :: ds, ps, e => by cases e
theorem repPs_len {ι X : List Addr} {H : Hp} : ∀ {ps : List P} {vs : List V}, RepPs K ι X H ps vs → vs.length = ps.length
  | [], vs, r => by rw [RepPs] at r; rw [r]; rfl
  | p :: ps, vs, r => by
    rw [RepPs] at r
    obtain ⟨y, ys, e, f, g⟩ := r
    rw [e, List.length_cons, List.length_cons, repPs_len g]
theorem repDs_len {ι X : List Addr} {H : Hp} : ∀ {ps : List D} {vs : List V}, RepDs K ι X H ps vs → vs.length = ps.length
  | [], vs, r => by rw [show vs = [] from r]; rfl
  | p :: ps, vs, ⟨y, ys, e, f, g⟩ => by rw [e, List.length_cons, List.length_cons, repDs_len g]
theorem small {n : Nat} (h : n ≤ 100000) : n ≤ sizeLine := Nat.le_trans h (by decide)
theorem smalls {n : Nat} (h : n < 100000) : n < sizeLine := Nat.lt_of_lt_of_le h (by decide)
/-- a new tuple -/
theorem new_tup {ι X : List Addr} {S : Store} {H : Hp} {ps : List P} {vs : List V} {Q : V → Hp → Prop} (rel : Rel K ι X S H) (r : RepPs K ι X H ps vs) {p : Addr} (hp : H p = none)
    (k : ∀ H' w, Ext ι H ι H' → Rel K ι X S H' → RepD K ι X H' (.dat (.tup ps)) w → Q w H') : Q (.ref p) (upd H p (.tup vs)) := by
  have x := ext_alloc (o := .tup vs) rel hp
  obtain ⟨n, m⟩ := rel.nin hp
  refine k _ _ x (rel.alloc hp) ?_
  show RepP K ι X _ _ _
  rw [RepP]
  exact ⟨p, vs, rfl, .inl ⟨n, m, .inl upd_same⟩, r.ext x⟩
theorem new_lst {ι X : List Addr} {S : Store} {H : Hp} {ps : List P} {vs : List V} {Q : V → Hp → Prop} (rel : Rel K ι X S H) (r : RepPs K ι X H ps vs) {p : Addr} (hp : H p = none)
    (k : ∀ H' w, Ext ι H ι H' → Rel K ι X S H' → RepD K ι X H' (.dat (.lst ps)) w → Q w H') : Q (.ref p) (upd H p (.lst vs)) := by
  have x := ext_alloc (o := .lst vs) rel hp
  obtain ⟨n, m⟩ := rel.nin hp
  refine k _ _ x (rel.alloc hp) ?_
  show RepP K ι X _ _ _
  rw [RepP]
  exact ⟨p, vs, rfl, n, m, upd_same, r.ext x⟩
theorem se_tup {t : TA} {a : DA} (ha : SA K W t a) : SE K W (tTup t) (mTup a) := by
  intro ι X S H σ δ Q rel re h
  refine ha ι X S H σ δ _ rel re (Post.bind h fun ι1 H1 ds S1 vs x1 rel1 rv h1 => ?_)
  cases e : datAll ds with
  | none => simp only [e] at h1; exact h1.elim
  | some ps =>
    simp only [e] at h1
    have rp := datAll_rep e rv
    by_cases hl : ps.length ≤ 100000
    · rw [if_pos hl] at h1
      refine ⟨small (by rw [repPs_len rp]; exact hl), fun p hp => ?_⟩
      exact new_tup rel1 rp hp fun H' w x r q => h1 ι1 H' w x r q
    · rw [if_neg hl] at h1
      exact h1.elim
theorem Out1.more {ι X : List Addr} {H : Hp} {p : Addr} {o : HO} (hp : H p = none) : Out1 ι X H ι (p :: X) (upd H p o) := ⟨fun e => e, fun a u n m e => by
  have ne : a ≠ p := ne_of_none e hp
  refine ⟨by rw [upd_ne ne]; exact e, n, fun z => ?_⟩
  rcases List.mem_cons.mp z with z | z
  · exact ne z
  · exact m z⟩
theorem Out1.less {ι X : List Addr} {H : Hp} {p : Addr} : Out1 ι (p :: X) H ι X H := ⟨fun e => e, fun a u n m e => ⟨e, n, fun z => m (List.mem_cons_of_mem _ z)⟩⟩
theorem Rel.more {ι X : List Addr} {S : Store} {H : Hp} {p : Addr} {o : HO} (r : Rel K ι X S H) (hp : H p = none) : Rel K ι (p :: X) S (upd H p o) := by
  refine r.keep (Out1.more hp) rfl (fun a m => ?_) fun a m => ?_
  · obtain ⟨u, e⟩ := r.mem m
    exact upd_ne (ne_of_none e hp)
  · rcases List.mem_cons.mp m with z | z
    · subst z
      exact ⟨(r.nin hp).1, _, upd_same⟩
    · obtain ⟨n, u, e⟩ := r.ex a z
      exact ⟨n, u, by rw [upd_ne (ne_of_none e hp)]; exact e⟩
theorem Rel.less {ι X : List Addr} {S : Store} {H : Hp} {p : Addr} (r : Rel K ι (p :: X) S H) : Rel K ι X S H :=
  r.keep Out1.less rfl (fun _ _ => rfl) fun a m => r.ex a (List.mem_cons_of_mem _ m)
/-- the new list is tracked -/
theorem Out1.trk {ι X : List Addr} {H : Hp} {p : Addr} : Out1 ι (p :: X) H (ι ++ [p]) X H := by
  refine ⟨fun {i a} e => ?_, fun a u n m e => ⟨e, fun z => ?_, fun z => m (List.mem_cons_of_mem _ z)⟩⟩
  · rw [List.getElem?_append_left (List.getElem?_eq_some_iff.mp e).1]
    exact e
  · rcases List.mem_append.mp z with z | z
    · exact n z
    · rw [List.mem_singleton.mp z] at m
      exact m List.mem_cons_self
theorem Rel.trk {ι0 ι X : List Addr} {S : Store} {H0 H : Hp} {p : Addr} {o : O} (r : Rel K ι (p :: X) S H) (x : Ext ι0 H0 ι H) (h0 : H0 p = none) (hX : p ∉ X) (ro : RepO K ι (p :: X) H o p) :
    Rel K (ι ++ [p]) X (S ++ [o]) H ∧ Ext ι0 H0 (ι ++ [p]) H := by
  have n := (r.ex p List.mem_cons_self).1
  exact Rel.track x h0 r n hX (fun b m => List.mem_cons_of_mem _ m) (ro.out Out1.trk rfl) fun b mb w q => q.out Out1.trk rfl
theorem sl_lst {t : TA} {a : DA} (ha : SA K W t a) : SL K W (tLst t) (mLst a) := by
  intro ι X S H σ δ Q rel re h
  refine ha ι X S H σ δ (fun vs H1 => vs.length ≤ sizeLine ∧ ∀ p, H1 p = none → Q (.ref p) (upd H1 p (.lst vs))) rel re ?_
  unfold mLst at h
  cases e : a δ S with
  | fail => rw [e] at h; exact h
  | exc C x S1 => rw [e] at h; exact h
  | ok ds S1 =>
    rw [e, R.bind_ok] at h
    intro ι1 H1 vs x1 rel1 rv
    by_cases hl : ds.length ≤ 100000
    · rw [if_pos hl] at h
      refine ⟨small (by rw [repDs_len rv]; exact hl), fun p hp => ?_⟩
      have x := ext_alloc (o := .lst vs) rel1 hp
      exact h ι1 _ p vs (x1.trans x) (rel1.more hp) (ext_free x1 (rel1.nin hp).1 hp) upd_same (rv.out (Out1.more hp))
    · rw [if_neg hl] at h
      exact h.elim
/-! ### lists that stay, lists that may change -/
theorem se_frz {t : TE} {a : DA} (ha : SL K W t a) : SE K W t (mFrz a) := by
  intro ι X S H σ δ Q rel re h
  refine ha ι X S H σ δ Q rel re ?_
  unfold mFrz at h
  cases e : a δ S with
  | fail => rw [e] at h; exact h
  | exc C x S1 => rw [e] at h; exact h
  | ok ds S1 =>
    rw [e, R.bind_ok] at h
    intro ι1 H1 p xs x1 rel1 h0 ep rv
    cases q : datAll ds with
    | none => simp only [q] at h; exact h.elim
    | some ps =>
      simp only [q] at h
      refine h ι1 H1 _ x1 rel1.less ?_
      show RepP K ι1 X _ _ _
      rw [RepP]
      have hX : p ∉ X := fun m => by
        obtain ⟨_, u, e⟩ := rel.ex p m
        rw [h0] at e
        cases e
      exact ⟨p, xs, rfl, (rel1.ex p List.mem_cons_self).1, hX, ep, datAll_rep q (rv.out Out1.less)⟩
theorem se_trk {t : TE} {a : DA} (ha : SL K W t a) : SE K W t (mTrk a) := by
  intro ι X S H σ δ Q rel re h
  refine ha ι X S H σ δ Q rel re ?_
  unfold mTrk at h
  cases e : a δ S with
  | fail => rw [e] at h; exact h
  | exc C x S1 => rw [e] at h; exact h
  | ok ds S1 =>
    rw [e, R.bind_ok] at h
    intro ι1 H1 p xs x1 rel1 h0 ep rv
    have hX : p ∉ X := fun m => by
      obtain ⟨_, u, e⟩ := rel.ex p m
      rw [h0] at e
      cases e
    obtain ⟨r2, x2⟩ := rel1.trk (o := .lst ds) x1 h0 hX ⟨xs, ep, rv⟩
    refine h _ H1 _ x2 r2 ⟨p, ?_, rfl⟩
    rw [← rel1.len, List.getElem?_append_right (Nat.le_refl _), Nat.sub_self]
    rfl
end
end M3
namespace M3
open PySem PySem.Spec PyProof.Rows L2
section
variable {K : PySem.W.Frag} {W : L2.St → WK}
theorem asB_rep {ι X : List Addr} {H : Hp} {d : D} {v : V} {b : Bool} (e : asB d = some b) (r : RepD K ι X H d v) : v = .bl b := by
  unfold asB at e
  split at e
  · cases e
    have r : RepP K ι X H (.bl _) v := r
    rw [RepP] at r
    exact r
  · cases e
theorem se_and {ta tb : TE} {a b : DE} (ha : SE K W ta a) (hb : SE K W tb b) : SE K W (tAndV ta tb) (mAnd a b) := by
  intro ι X S H σ δ Q rel re h
  refine ha ι X S H σ δ _ rel re (Post.bind h fun ι1 H1 x S1 v x1 rel1 rv h1 => ?_)
  cases e : asB x with
  | none => simp only [e] at h1; exact h1.elim
  | some c =>
    simp only [e] at h1
    refine ⟨c, asB_rep e rv, ?_⟩
    cases c with
    | true => exact hb ι1 X S1 H1 σ δ Q rel1 (re.ext x1) h1
    | false => exact h1 ι1 H1 _ Ext.refl rel1 rd_bl
theorem se_or {ta tb : TE} {a b : DE} (ha : SE K W ta a) (hb : SE K W tb b) : SE K W (tOrV ta tb) (mOr a b) := by
  intro ι X S H σ δ Q rel re h
  refine ha ι X S H σ δ _ rel re (Post.bind h fun ι1 H1 x S1 v x1 rel1 rv h1 => ?_)
  cases e : asB x with
  | none => simp only [e] at h1; exact h1.elim
  | some c =>
    simp only [e] at h1
    refine ⟨c, asB_rep e rv, ?_⟩
    cases c with
    | true => exact h1 ι1 H1 _ Ext.refl rel1 rd_bl
    | false => exact hb ι1 X S1 H1 σ δ Q rel1 (re.ext x1) h1
theorem se_not {ta : TE} {a : DE} (ha : SE K W ta a) : SE K W (tNotV ta) (mNot a) := by
  intro ι X S H σ δ Q rel re h
  refine ha ι X S H σ δ _ rel re (Post.bind h fun ι1 H1 x S1 v x1 rel1 rv h1 => ?_)
  cases e : asB x with
  | none => simp only [e] at h1; exact h1.elim
  | some c =>
    simp only [e] at h1
    exact ⟨c, asB_rep e rv, h1 ι1 H1 _ Ext.refl rel1 rd_bl⟩
theorem post_oT {X ι : List Addr} {S : Store} {H : Hp} {W : WK} {o : Option Bool} {Q : Bool → Hp → Prop} (rel : Rel K ι X S H) (h : Post K X ι H W (oR o S) (fun _ _ d v => v = d) Q) : ∃ b, o = some b ∧ Q b H := by
  cases o with
  | none => exact h.elim
  | some d => exact ⟨d, rfl, h ι H d Ext.refl rel rfl⟩
theorem st_tst {ta : TE} {a : DE} (ha : SE K W ta a) : ST K W (tB ta) (mTst a) := by
  intro ι X S H σ δ Q rel re h
  refine ha ι X S H σ δ _ rel re (Post.bind h fun ι1 H1 x S1 v x1 rel1 rv h1 => ?_)
  obtain ⟨b, e, q⟩ := post_oT rel1 h1
  exact ⟨b, asB_rep e rv, q⟩
theorem st_test {ta : TE} {a : DE} (ha : SE K W ta a) : ST K W (tTest ta) (mTst a) := by
  intro ι X S H σ δ Q rel re h
  refine ha ι X S H σ δ _ rel re (Post.bind h fun ι1 H1 x S1 v x1 rel1 rv h1 => ?_)
  obtain ⟨b, e, q⟩ := post_oT rel1 h1
  exact ⟨b, asB_rep e rv, q⟩
theorem st_and {ta tb : TT} {a b : DT} (ha : ST K W ta a) (hb : ST K W tb b) : ST K W (tAnd ta tb) (mAndT a b) := by
  intro ι X S H σ δ Q rel re h
  refine ha ι X S H σ δ _ rel re (Post.bind h fun ι1 H1 x S1 v x1 rel1 rv h1 => ?_)
  subst rv
  cases v with
  | true => exact hb ι1 X S1 H1 σ δ Q rel1 (re.ext x1) h1
  | false => exact h1 ι1 H1 _ Ext.refl rel1 rfl
theorem st_or {ta tb : TT} {a b : DT} (ha : ST K W ta a) (hb : ST K W tb b) : ST K W (tOr ta tb) (mOrT a b) := by
  intro ι X S H σ δ Q rel re h
  refine ha ι X S H σ δ _ rel re (Post.bind h fun ι1 H1 x S1 v x1 rel1 rv h1 => ?_)
  subst rv
  cases v with
  | true => exact h1 ι1 H1 _ Ext.refl rel1 rfl
  | false => exact hb ι1 X S1 H1 σ δ Q rel1 (re.ext x1) h1
theorem st_not {ta : TT} {a : DT} (ha : ST K W ta a) : ST K W (tNot ta) (mNotT a) := by
  intro ι X S H σ δ Q rel re h
  refine ha ι X S H σ δ _ rel re (Post.bind h fun ι1 H1 x S1 v x1 rel1 rv h1 => ?_)
  subst rv
  exact h1 ι1 H1 _ Ext.refl rel1 rfl
theorem se_if {tc : TT} {ta tb : TE} {c : DT} {a b : DE} (hc : ST K W tc c) (ha : SE K W ta a) (hb : SE K W tb b) : SE K W (tIf tc ta tb) (mIf c a b) := by
  intro ι X S H σ δ Q rel re h
  refine hc ι X S H σ δ _ rel re (Post.bind h fun ι1 H1 x S1 v x1 rel1 rv h1 => ?_)
  subst rv
  cases v with
  | true => exact ha ι1 X S1 H1 σ δ Q rel1 (re.ext x1) h1
  | false => exact hb ι1 X S1 H1 σ δ Q rel1 (re.ext x1) h1
theorem se_chain {r r' : R2} {f g : Store → D → D → Option D} {ta tb tc : TE} {a b c : DE} (hr : R2S K r f) (hr' : R2S K r' g) (ha : SE K W ta a) (hb : SE K W tb b) (hc : SE K W tc c) : SE K W (tChain r r' ta tb tc) (mChain f g a b c) := by
  intro ι X S H σ δ Q rel re h
  refine ha ι X S H σ δ _ rel re (Post.bind h fun ι1 H1 x S1 v x1 rel1 rv h1 => ?_)
  refine hb ι1 X S1 H1 σ δ _ rel1 (re.ext x1) (Post.bind h1 fun ι2 H2 y S2 u x2 rel2 ru h2 => ?_)
  cases e : f S2 x y with
  | none => simp only [e] at h2; exact h2.elim
  | some z =>
    simp only [e, oR_some, R.bind_ok] at h2
    refine hr ι2 X S2 H2 x y v u z _ rel2 (rv.ext x2) ru e fun H3 w x3 rel3 rw3 => ?_
    cases q : asB z with
    | none => simp only [q] at h2; exact h2.elim
    | some k =>
      simp only [q] at h2
      refine ⟨k, asB_rep q rw3, ?_⟩
      cases k with
      | false => exact (h2.ext x3) ι2 H3 _ Ext.refl rel3 rd_bl
      | true =>
        refine hc ι2 X S2 H3 σ δ _ rel3 ((re.ext x1).ext (x2.trans x3)) (Post.bind (h2.ext x3) fun ι4 H4 w' S4 v4 x4 rel4 rv4 h4 => ?_)
        obtain ⟨d, e5, k5⟩ := post_oR h4
        exact hr' ι4 X S4 H4 y w' u v4 d Q rel4 (ru.ext (x3.trans x4)) rv4 e5 k5
/-! ### statements -/
theorem ss_next : SS K W tNext mNext := fun ι X S H σ δ E rel re h => h ι H σ Ext.refl rel re
theorem ss_brk : SS K W tBreak mBrk := fun ι X S H σ δ E rel re h => h ι H σ Ext.refl rel re
theorem ss_cnt : SS K W tCont mCnt := fun ι X S H σ δ E rel re h => h ι H σ Ext.refl rel re
theorem ss_retN : SS K W tRetN mRetN := fun ι X S H σ δ E rel re h => h ι H _ Ext.refl rel rd_non
theorem ss_seq {t u : TS} {a b : DS} (ha : SS K W t a) (hb : SS K W u b) : SS K W (tSeq t u) (mSeq a b) := by
  intro ι X S H σ δ E rel re h
  refine ha ι X S H σ δ _ rel re ?_
  unfold mSeq at h
  cases e : a δ S with
  | fail => rw [e] at h; exact h
  | exc C x S1 => rw [e] at h; exact h
  | ok o S1 =>
    rw [e] at h
    cases o with
    | nx δ1 => exact fun ι1 H1 σ1 x1 rel1 re1 => hb ι1 X S1 H1 σ1 δ1 E rel1 re1 (PostS.ext x1 h)
    | rt d => exact h
    | bk δ1 => exact h
    | ct δ1 => exact h
    | ex C x δ1 => exact h
theorem ss_ret {t : TE} {a : DE} (ha : SE K W t a) : SS K W (tRet t) (mRet a) := by
  intro ι X S H σ δ E rel re h
  exact ha ι X S H σ δ _ rel re (PostS.st re h fun ι1 H1 d S1 v x1 rel1 rv h1 => h1 ι1 H1 v Ext.refl rel1 rv)
theorem ss_drop {t : TE} {a : DE} (ha : SE K W t a) : SS K W (tDrop t) (mDrop a) := by
  intro ι X S H σ δ E rel re h
  exact ha ι X S H σ δ _ rel re (PostS.st re h fun ι1 H1 d S1 v x1 rel1 rv h1 => h1 ι1 H1 σ Ext.refl rel1 (re.ext x1))
/-- x = e, whatever form its reading has -/
theorem ss_asg {t : TE} {g : TG} {a : DE} {m : DG} (ha : SE K W t a)
    (hg : ∀ ι X S H σ δ d v (N : L2.St → Hp → Prop), Rel K ι X S H → RepE K ι X H δ σ → RepD K ι X H d v → Post K X ι H (W σ) (m d δ S) (fun ι' H' δ' σ' => RepE K ι' X H' δ' σ') N → g v σ H N) : SS K W (tAsg t g) (mAsg a m) := by
  intro ι X S H σ δ E rel re h
  refine ha ι X S H σ δ _ rel re (PostS.st re h fun ι1 H1 d S1 v x1 rel1 rv h1 => ?_)
  refine hg ι1 X S1 H1 σ δ d v _ rel1 (re.ext x1) rv ?_
  exact PostS.st (re.ext x1) h1 fun ι2 H2 δ2 S2 σ2 x2 rel2 re2 h2 => h2 ι2 H2 σ2 Ext.refl rel2 re2
/-- a target -/
def SG (K : PySem.W.Frag) (W : L2.St → WK) (g : TG) (m : DG) : Prop := ∀ ι X S H σ δ d v (N : L2.St → Hp → Prop), Rel K ι X S H → RepE K ι X H δ σ → RepD K ι X H d v → Post K X ι H (W σ) (m d δ S) (fun ι' H' δ' σ' => RepE K ι' X H' δ' σ') N → g v σ H N
def SGs (K : PySem.W.Frag) (W : L2.St → WK) (g : TGs) (m : DGs) : Prop := ∀ ι X S H σ δ d v (N : L2.St → Hp → Prop), Rel K ι X S H → RepE K ι X H δ σ → RepDs K ι X H d v → Post K X ι H (W σ) (m d δ S) (fun ι' H' δ' σ' => RepE K ι' X H' δ' σ') N → g v σ H N
theorem sg_name {i : Nat} : SG K W (gName i) (gmName i) := fun ι X S H σ δ d v N rel re rv h => h ι H _ Ext.refl rel (re.set rv)
/-- targets that fail in nothing may be read under any wish -/
theorem sgs_nil : SGs K W gNil gmNil := fun ι X S H σ δ d v N rel re rv h => by
  cases d with
  | nil => exact ⟨rv, h ι H _ Ext.refl rel re⟩
  | cons a b => exact h.elim
theorem sgs_cons {g : TG} {m : DG} {gs : TGs} {ms : DGs} (hw : ∀ σ σ', W σ = W σ') (hg : SG K W g m) (hs : SGs K W gs ms) : SGs K W (gCons g gs) (gmCons m ms) := fun ι X S H σ δ d v N rel re rv h => by
  cases d with
  | nil => exact h.elim
  | cons a b =>
    obtain ⟨y, ys, e, f, k⟩ := rv
    refine ⟨y, ys, e, hg ι X S H σ δ a y _ rel re f (Post.bind h fun ι1 H1 δ1 S1 σ1 x1 rel1 re1 h1 => ?_)⟩
    refine hs ι1 X S1 H1 σ1 δ1 b ys N rel1 re1 (k.ext x1) ?_
    rw [← hw σ σ1]
    exact h1
theorem sg_tup {n : Nat} {gs : TGs} {ms : DGs} (hs : SGs K W gs ms) : SG K W (gTup K n gs) (gmTup n ms) := fun ι X S H σ δ d v N rel re rv h => by
  unfold gmTup at h
  split at h
  · rename_i ps
    have rv : RepP K ι X H (.tup ps) v := rv
    rw [RepP] at rv
    obtain ⟨a, xs, e, f, k⟩ := rv
    split at h
    · rename_i hl
      exact ⟨a, xs, e, f.sq, by rw [repPs_len k]; exact hl, hs ι X S H σ δ _ xs N rel re (repDs_dat k) h⟩
    · exact h.elim
  · exact h.elim
theorem ss_asgG {t : TE} {g : TG} {a : DE} {m : DG} (ha : SE K W t a) (hg : SG K W g m) : SS K W (tAsg t g) (mAsg a m) := ss_asg ha hg
theorem ss_ifS {tc : TT} {t u : TS} {c : DT} {a b : DS} (hc : ST K W tc c) (ha : SS K W t a) (hb : SS K W u b) : SS K W (tIfS tc t u) (mIfS c a b) := by
  intro ι X S H σ δ E rel re h
  refine hc ι X S H σ δ _ rel re (PostS.st re h fun ι1 H1 x S1 v x1 rel1 rv h1 => ?_)
  subst rv
  cases v with
  | true => exact ha ι1 X S1 H1 σ δ E rel1 (re.ext x1) h1
  | false => exact hb ι1 X S1 H1 σ δ E rel1 (re.ext x1) h1
theorem ss_par {i j : Nat} {t : TA} {a : DA} (ha : SA K W t a) : SS K W (tPar i j t) (mPar i j a) := by
  intro ι X S H σ δ E rel re h
  refine ha ι X S H σ δ _ rel re (PostS.st re h fun ι1 H1 ds S1 vs x1 rel1 rv h1 => ?_)
  match ds, rv, h1 with
  | [], _, h1 => exact h1.elim
  | [_], _, h1 => exact h1.elim
  | [x, y], ⟨v, _, e1, r1, w, _, e2, r2, e3⟩, h1 =>
    cases e3
    cases e2
    exact ⟨v, w, e1, h1 ι1 H1 _ Ext.refl rel1 (((re.ext x1).set r1).set r2)⟩
  | _ :: _ :: _ :: _, _, h1 => exact h1.elim
/-! ### loops -/
/-- what a turn of a loop is to reach -/
theorem turn_ok {X ι : List Addr} {H : Hp} {o : R Out} {nxt : DEnv → Store → R Out} {E : Ends} (h : PostS K W X ι H (mTurn o nxt) E) {N : L2.St → Hp → Prop}
    (k : ∀ ι' H' σ δ S, Ext ι H ι' H' → Rel K ι' X S H' → RepE K ι' X H' δ σ → PostS K W X ι' H' (nxt δ S) E → N σ H') : PostS K W X ι H o { E with nx := N, ct := N, bk := E.nx } := by
  cases o with
  | fail => exact h
  | exc C x S => exact h
  | ok o S => cases o with
    | nx δ => exact fun ι' H' σ x rel re => k ι' H' σ δ S x rel re (PostS.ext x h)
    | ct δ => exact fun ι' H' σ x rel re => k ι' H' σ δ S x rel re (PostS.ext x h)
    | bk δ => exact h
    | rt d => exact h
    | ex C x δ => exact h
theorem ss_while {tc : TT} {tb : TS} {c : DT} {b : DS} (hc : ST K W tc c) (hb : SS K W tb b) : SS K W (tWhile tc tb) (mWhile c b) := by
  intro ι X S H σ δ E rel re h
  refine ⟨fun m σ' H' => ∃ ι1 δ1 S1, Rel K ι1 X S1 H' ∧ RepE K ι1 X H' δ1 σ' ∧ PostS K W X ι1 H' (mWhileN c b m δ1 S1) E, ⟨FUEL, ι, δ, S, rel, re, h⟩, ?_⟩
  rintro m σ1 H1 ⟨ι1, δ1, S1, rel1, re1, h1⟩
  cases m with
  | zero => exact h1.elim
  | succ n =>
    unfold mWhileN at h1
    refine hc ι1 X S1 H1 σ1 δ1 _ rel1 re1 (PostS.st re1 h1 fun ι2 H2 x S2 v x2 rel2 rv h2 => ?_)
    subst rv
    cases v with
    | false => exact h2 ι2 H2 σ1 Ext.refl rel2 (re1.ext x2)
    | true =>
      rw [if_pos rfl]
      refine ⟨fun σ' H' => ∃ ι1 δ1 S1, Rel K ι1 X S1 H' ∧ RepE K ι1 X H' δ1 σ' ∧ PostS K W X ι1 H' (mWhileN c b n δ1 S1) E, fun σ' H' q => ⟨n, Nat.lt_succ_self n, q⟩, ?_⟩
      refine hb ι2 X S2 H2 σ1 δ1 _ rel2 (re1.ext x2) (turn_ok h2 fun ι3 H3 σ3 δ3 S3 x3 rel3 re3 h3 => ⟨ι3, δ3, S3, rel3, re3, h3⟩)
end
end M3
namespace M3
open PySem PySem.Spec PyProof.Rows L2
section
variable {K : PySem.W.Frag}
theorem Out1.trans {ι X ι1 X1 ι2 X2 : List Addr} {H H1 H2 : Hp} (x : Out1 ι X H ι1 X1 H1) (y : Out1 ι1 X1 H1 ι2 X2 H2) : Out1 ι X H ι2 X2 H2 :=
  ⟨fun e => y.at_ (x.at_ e), fun a o n m e => let ⟨p, q, r⟩ := x.ok a o n m e; y.ok a o q r p⟩
theorem Out1.refl {ι X : List Addr} {H : Hp} : Out1 ι X H ι X H := ⟨fun e => e, fun a o n m e => ⟨e, n, m⟩⟩
/-- a walk of these items, whatever changes that data do not see -/
structure ItNow (K : PySem.W.Frag) (J : It) (l : List D) (ι X : List Addr) (H : Hp) : Prop where
  go : ∀ i, i < l.length → J.go i H
  stop : J.stop l.length H
  yld : ∀ i x H' d S, J.yld i H x H' → l[i]? = some d → Rel K ι X S H → Rel K ι X S H' ∧ Ext ι H ι H' ∧ RepD K ι X H' d x
def ItOk (K : PySem.W.Frag) (J : It) (l : List D) (ι X : List Addr) (H : Hp) : Prop := ∀ ι' X' H', Out1 ι X H ι' X' H' → ItNow K J l ι' X' H'
theorem ItOk.out {J : It} {l : List D} {ι X ι' X' : List Addr} {H H' : Hp} (k : ItOk K J l ι X H) (x : Out1 ι X H ι' X' H') : ItOk K J l ι' X' H' := fun ι2 X2 H2 y => k ι2 X2 H2 (x.trans y)
theorem ItOk.now {J : It} {l : List D} {ι X : List Addr} {H : Hp} (k : ItOk K J l ι X H) : ItNow K J l ι X H := k ι X H Out1.refl
variable {W : L2.St → WK}
def PostI (K : PySem.W.Frag) (X ι : List Addr) (H : Hp) (W : WK) (r : R Wk) (Q : It → Hp → Prop) : Prop := match r with
  | .ok (.items l) S' => ∀ ι' H' J, Ext ι H ι' H' → Rel K ι' X S' H' → ItOk K J l ι' X H' → Q J H'
  | .ok (.ob o) S' => ∀ ι' H' a, Ext ι H ι' H' → Rel K ι' X S' H' → ι'[o]? = some a → Q (Itl K a) H'
  | .exc C x S' => ∀ ι' H' da, Ext ι H ι' H' → Rel K ι' X S' H' → RepX K ι' X H' x da → W (.ref C) da H'
  | .fail => False
def SI (K : PySem.W.Frag) (W : L2.St → WK) (t : TI) (m : DI) : Prop := ∀ ι X S H σ δ Q, Rel K ι X S H → RepE K ι X H δ σ → PostI K X ι H (W σ) (m δ S) Q → t σ H Q
theorem PostI.ext {X ι : List Addr} {H : Hp} {W : WK} {r : R Wk} {Q : It → Hp → Prop} {ι1 : List Addr} {H1 : Hp} (x : Ext ι H ι1 H1) (h : PostI K X ι H W r Q) : PostI K X ι1 H1 W r Q := by
  cases r with
  | ok a S => cases a with
    | items l => exact fun ι' H' v y => h ι' H' v (x.trans y)
    | ob o => exact fun ι' H' v y => h ι' H' v (x.trans y)
  | exc C z S => exact fun ι' H' v y => h ι' H' v (x.trans y)
  | fail => exact h
/-! ### for -/
theorem obj_now {ι X : List Addr} {S : Store} {H : Hp} (rel : Rel K ι X S H) {o : Nat} {a : Addr} (ea : ι[o]? = some a) {l : List D} (es : S[o]? = some (.lst l)) : ∃ xs, H a = some (.lst xs) ∧ RepDs K ι X H l xs := rel.at_ o _ a es ea
theorem repDs_at {ι X : List Addr} {H : Hp} : ∀ {l : List D} {xs : List V} {i : Nat} {d : D}, RepDs K ι X H l xs → l[i]? = some d → ∃ x, xs[i]? = some x ∧ RepD K ι X H d x
  | [], xs, i, d, r, e => by simp at e
  | p :: ps, _, 0, d, ⟨y, ys, rfl, f, g⟩, e => by
    have : p = d := by simpa using e
    subst this
    exact ⟨y, rfl, f⟩
  | p :: ps, _, i + 1, d, ⟨y, ys, rfl, f, g⟩, e => repDs_at (i := i) g (by simpa using e)
theorem sqL_un {H : Hp} {a : Addr} {xs : List V} (e : H a = some (.lst xs)) (hk : ∀ ys, SqL K H a ys → ys = xs) {i : Nat} {x : V} (q : xs[i]? = some x) : ∀ ys, SqL K H a ys → ys[i]? = some x := fun ys s => by rw [hk ys s]; exact q
theorem ss_for {wi : TI} {g : TG} {tb : TS} {w : DI} {m : DG} {b : DS} (hw : SI K W wi w) (hg : SG K W g m) (hb : SS K W tb b) : SS K W (tFor wi g tb) (mFor w m b) := by
  intro ι X S H σ δ E rel re h
  refine hw ι X S H σ δ _ rel re ?_
  unfold mFor at h
  cases e : w δ S with
  | fail => rw [e] at h; exact h
  | exc C x S1 => rw [e] at h; exact fun ι' H' da x rel rx => h ι' H' da σ x rel rx (re.ext x)
  | ok k S1 =>
    rw [e, R.st_ok] at h
    cases k with
    | items l =>
      simp only at h
      intro ι1 H1 J x1 rel1 it
      refine ⟨fun i n σ' H' => ∃ ι2 δ2 S2, n = l.length - i ∧ i ≤ l.length ∧ Ext ι1 H1 ι2 H' ∧ Rel K ι2 X S2 H' ∧ RepE K ι2 X H' δ2 σ' ∧ PostS K W X ι2 H' (mForL m b (l.drop i) δ2 S2) E,
        ⟨l.length, ι1, δ, S1, rfl, Nat.zero_le _, Ext.refl, rel1, re.ext x1, PostS.ext x1 h⟩, ?_⟩
      rintro i n σ2 H2 ⟨ι2, δ2, S2, rfl, hi, x2, rel2, re2, h2⟩
      have now := (it.out (Out1.ext x2)).now
      by_cases hl : i < l.length
      · have ed : l.drop i = l[i] :: l.drop (i + 1) := List.drop_eq_getElem_cons hl
        have eg : l[i]? = some l[i] := List.getElem?_eq_getElem hl
        rw [ed] at h2
        generalize l[i] = d at h2 eg
        refine .inr ⟨now.go i hl, fun σ' H' => ∃ ι3 δ3 S3, Ext ι1 H1 ι3 H' ∧ Rel K ι3 X S3 H' ∧ RepE K ι3 X H' δ3 σ' ∧ PostS K W X ι3 H' (mForL m b (l.drop (i + 1)) δ3 S3) E,
          fun σ' H' ⟨ι3, δ3, S3, q⟩ => ⟨_, Nat.sub_lt_sub_left hl (Nat.lt_succ_self i), ι3, δ3, S3, rfl, hl, q⟩, fun x H3 y => ?_⟩
        obtain ⟨rel3, x3, rd⟩ := now.yld i x H3 d S2 y eg rel2
        unfold mForL at h2
        have h3 := turn_ok (PostS.ext x3 h2) (N := fun σ' H' => ∃ ι3 δ3 S3, Ext ι1 H1 ι3 H' ∧ Rel K ι3 X S3 H' ∧ RepE K ι3 X H' δ3 σ' ∧ PostS K W X ι3 H' (mForL m b (l.drop (i + 1)) δ3 S3) E)
          fun ι' H' σ' δ' S' x4 rel4 re4 h4 => ⟨ι', δ', S', (x2.trans x3).trans x4, rel4, re4, h4⟩
        have re3 := re2.ext x3
        refine hg ι2 X S2 H3 σ2 δ2 d x _ rel3 re3 rd (PostS.st re3 h3 fun ι5 H5 δ5 S5 σ5 x5 rel5 re5 h5 => ?_)
        exact hb ι5 X S5 H5 σ5 δ5 _ rel5 re5 h5
      · have ei : i = l.length := by omega
        subst ei
        rw [List.drop_length] at h2
        exact .inl ⟨now.stop, h2 ι2 H2 σ2 Ext.refl rel2 re2⟩
    | ob o =>
      simp only at h
      intro ι1 H1 a x1 rel1 ea
      cases es : S1[o]? with
      | none => rw [es] at h; exact h.elim
      | some ob =>
        cases ob with
        | ins C fs => simp only [es] at h; exact h.elim
        | dic fs => simp only [es] at h; exact h.elim
        | lst l =>
          simp only [es] at h
          refine ⟨fun i n σ' H' => ∃ ι2 δ2 S2, i + n = l.length ∧ Ext ι1 H1 ι2 H' ∧ Rel K ι2 X S2 H' ∧ RepE K ι2 X H' δ2 σ' ∧ PostS K W X ι2 H' (mForO m b o l.length n i δ2 S2) E,
            ⟨l.length, ι1, δ, S1, by omega, Ext.refl, rel1, re.ext x1, PostS.ext x1 h⟩, ?_⟩
          rintro i n σ2 H2 ⟨ι2, δ2, S2, hi, x2, rel2, re2, h2⟩
          have ea2 := x2.at ea
          cases n with
          | zero =>
            unfold mForO at h2
            cases es2 : S2[o]? with
            | none => simp only [es2] at h2; exact h2.elim
            | some ob =>
              cases ob with
              | ins C fs => simp only [es2] at h2; exact h2.elim
              | dic fs => simp only [es2] at h2; exact h2.elim
              | lst l2 =>
                simp only [es2] at h2
                by_cases hl : l2.length = l.length
                · rw [if_pos hl] at h2
                  obtain ⟨xs, ex, rx⟩ := obj_now rel2 ea2 es2
                  exact .inl ⟨⟨xs, SqL.of ex, by rw [repDs_len rx]; omega⟩, h2 ι2 H2 σ2 Ext.refl rel2 re2⟩
                · rw [if_neg hl] at h2; exact h2.elim
          | succ n =>
            unfold mForO at h2
            cases es2 : S2[o]? with
            | none => simp only [es2] at h2; exact h2.elim
            | some ob =>
              cases ob with
              | ins C fs => simp only [es2] at h2; exact h2.elim
              | dic fs => simp only [es2] at h2; exact h2.elim
              | lst l2 =>
                simp only [es2] at h2
                by_cases hl : l2.length = l.length
                · rw [if_pos hl] at h2
                  cases ed : l2[i]? with
                  | none => simp only [ed] at h2; exact h2.elim
                  | some d =>
                    simp only [ed] at h2
                    obtain ⟨xs, ex, rx⟩ := obj_now rel2 ea2 es2
                    obtain ⟨y, ey, ry⟩ := repDs_at rx ed
                    refine .inr ⟨⟨xs, y, SqL.of ex, ey⟩, fun σ' H' => ∃ ι3 δ3 S3, Ext ι1 H1 ι3 H' ∧ Rel K ι3 X S3 H' ∧ RepE K ι3 X H' δ3 σ' ∧ PostS K W X ι3 H' (mForO m b o l.length n (i + 1) δ3 S3) E,
                      fun σ' H' ⟨ι3, δ3, S3, q⟩ => ⟨n, Nat.lt_succ_self n, ι3, δ3, S3, by omega, q⟩, fun x H3 yy => ?_⟩
                    obtain ⟨rfl, yy⟩ := yy
                    have exy : x = y := by
                      have := yy xs (SqL.of ex)
                      rw [ey] at this
                      exact (Option.some.inj this).symm
                    subst exy
                    have h3 := turn_ok h2 (N := fun σ' H' => ∃ ι3 δ3 S3, Ext ι1 H1 ι3 H' ∧ Rel K ι3 X S3 H' ∧ RepE K ι3 X H' δ3 σ' ∧ PostS K W X ι3 H' (mForO m b o l.length n (i + 1) δ3 S3) E)
                      fun ι' H' σ' δ' S' x4 rel4 re4 h4 => ⟨ι', δ', S', x2.trans x4, rel4, re4, h4⟩
                    refine hg ι2 X S2 _ σ2 δ2 d x _ rel2 re2 ry (PostS.st re2 h3 fun ι5 H5 δ5 S5 σ5 x5 rel5 re5 h5 => ?_)
                    exact hb ι5 X S5 H5 σ5 δ5 _ rel5 re5 h5
                · rw [if_neg hl] at h2; exact h2.elim
end
end M3
namespace M3
open PySem PySem.Spec PyProof.Rows L2
/-- within a comprehension nothing may be raised -/
def WF : L2.St → WK := fun _ _ _ _ => False
theorem wipe_set {σ : L2.St} {i : Nat} {x : Option V} : ∀ {vs : List Nat}, i ∈ vs → wipe (σ.set i x) vs = wipe σ vs
  | [], h => by cases h
  | v :: vs, h => by
    unfold wipe
    by_cases m : i ∈ vs
    · rw [wipe_set m]
    · rcases List.mem_cons.mp h with rfl | h
      · have go : ∀ us : List Nat, i ∉ us → wipe (σ.set i x) us = (wipe σ us).set i x := by
          intro us
          induction us with
          | nil => intro _; rfl
          | cons u us ih =>
            intro hn
            unfold wipe
            rw [ih (fun z => hn (List.mem_cons_of_mem _ z)), List.set_comm _ _ (fun z => hn (by rw [z]; exact List.mem_cons_self))]
        rw [go vs m, List.set_set]
      · exact absurd h m
section
variable {K : PySem.W.Frag} {W : L2.St → WK}
/-- a target that sets names among vs alone -/
def SGv (K : PySem.W.Frag) (vs : List Nat) (g : TG) (m : DG) : Prop := ∀ ι X S H σ δ d v (N : L2.St → Hp → Prop), Rel K ι X S H → RepE K ι X H δ σ → RepD K ι X H d v →
  Post K X ι H (WF σ) (m d δ S) (fun ι' H' δ' σ' => RepE K ι' X H' δ' σ' ∧ L2.wipe σ' vs = L2.wipe σ vs) N → g v σ H N
def SGvs (K : PySem.W.Frag) (vs : List Nat) (g : TGs) (m : DGs) : Prop := ∀ ι X S H σ δ d v (N : L2.St → Hp → Prop), Rel K ι X S H → RepE K ι X H δ σ → RepDs K ι X H d v →
  Post K X ι H (WF σ) (m d δ S) (fun ι' H' δ' σ' => RepE K ι' X H' δ' σ' ∧ L2.wipe σ' vs = L2.wipe σ vs) N → g v σ H N
theorem sgv_name {i : Nat} {vs : List Nat} (h : i ∈ vs) : SGv K vs (gName i) (gmName i) := fun ι X S H σ δ d v N rel re rv hq => hq ι H _ Ext.refl rel ⟨re.set rv, wipe_set h⟩
theorem sgvs_nil {vs : List Nat} : SGvs K vs gNil gmNil := fun ι X S H σ δ d v N rel re rv h => by
  cases d with
  | nil => exact ⟨rv, h ι H _ Ext.refl rel ⟨re, rfl⟩⟩
  | cons a b => exact h.elim
theorem sgvs_cons {vs : List Nat} {g : TG} {m : DG} {gs : TGs} {ms : DGs} (hg : SGv K vs g m) (hs : SGvs K vs gs ms) : SGvs K vs (gCons g gs) (gmCons m ms) := fun ι X S H σ δ d v N rel re rv h => by
  cases d with
  | nil => exact h.elim
  | cons a b =>
    obtain ⟨y, ys, e, f, k⟩ := rv
    refine ⟨y, ys, e, hg ι X S H σ δ a y _ rel re f (Post.bind h fun ι1 H1 δ1 S1 σ1 x1 rel1 re1 h1 => ?_)⟩
    refine hs ι1 X S1 H1 σ1 δ1 b ys N rel1 re1.1 (k.ext x1) ?_
    exact Post.mono h1 fun ι2 H2 a' v' x2 q => ⟨v', ⟨q.1, q.2.trans re1.2⟩, id⟩
theorem sgv_tup {vs : List Nat} {n : Nat} {gs : TGs} {ms : DGs} (hs : SGvs K vs gs ms) : SGv K vs (gTup K n gs) (gmTup n ms) := fun ι X S H σ δ d v N rel re rv h => by
  unfold gmTup at h
  split at h
  · rename_i ps
    have rv : RepP K ι X H (.tup ps) v := rv
    rw [RepP] at rv
    obtain ⟨a, xs, e, f, k⟩ := rv
    split at h
    · rename_i hl
      exact ⟨a, xs, e, f.sq, by rw [repPs_len k]; exact hl, hs ι X S H σ δ _ xs N rel re (repDs_dat k) h⟩
    · exact h.elim
  · exact h.elim
theorem Post.bnf {X ι : List Addr} {H : Hp} {α β γ : Type} {r : R α} {f : α → Store → R β} {T : R β → Prop} {Rp : List Addr → Hp → α → γ → Prop} {Q1 : γ → Hp → Prop} {W : WK} (h : T (r.bnf f)) (hf : ¬ T .fail)
    (k : ∀ ι1 H1 a S1 v, Ext ι H ι1 H1 → Rel K ι1 X S1 H1 → Rp ι1 H1 a v → T (f a S1) → Q1 v H1) : Post K X ι H W r Rp Q1 := by
  cases r with
  | ok a S => exact fun ι' H' v x rel rp => k ι' H' a S v x rel rp h
  | exc C z S => exact (hf h).elim
  | fail => exact (hf h).elim
theorem st_yes : ST K W tYes mYes := fun ι X S H σ δ Q rel re h => h ι H true Ext.refl rel rfl
theorem repDs_snoc {ι X : List Addr} {H : Hp} : ∀ {ds : List D} {xs : List V} {d : D} {v : V}, RepDs K ι X H ds xs → RepD K ι X H d v → RepDs K ι X H (ds ++ [d]) (xs ++ [v])
  | [], xs, d, v, r, q => by
    rw [show xs = [] from r]
    exact ⟨v, [], rfl, q, rfl⟩
  | p :: ps, _, d, v, ⟨y, ys, rfl, f, g⟩, q => ⟨y, ys ++ [v], rfl, f, repDs_snoc g q⟩
/-- the list that is being made grows -/
theorem Out1.mine {ι X : List Addr} {H : Hp} {p : Addr} {o : HO} (m : p ∈ X) : Out1 ι X H ι X (upd H p o) := ⟨fun e => e, fun a u n k e => ⟨by rw [upd_ne (fun z => k (by rw [z]; exact m))]; exact e, n, k⟩⟩
theorem Rel.mine {ι X : List Addr} {S : Store} {H : Hp} {p : Addr} {o : HO} (r : Rel K ι X S H) (m : p ∈ X) : Rel K ι X S (upd H p o) := by
  refine r.keep (Out1.mine m) rfl (fun a ma => upd_ne (fun z => (r.ex p m).1 (by rw [← z]; exact ma))) fun a ma => ?_
  obtain ⟨n, u, e⟩ := r.ex a ma
  refine ⟨n, ?_⟩
  by_cases z : a = p
  · exact ⟨o, by rw [z]; exact upd_same⟩
  · exact ⟨u, by rw [upd_ne z]; exact e⟩
theorem ext_mine {ι ι' : List Addr} {H H' : Hp} {p : Addr} {o : HO} (x : Ext ι H ι' H') (h0 : H p = none) : Ext ι H ι' (upd H' p o) :=
  ⟨x.pre, fun b u n e => by rw [upd_ne (ne_of_none e h0)]; exact x.old b u n e, x.new⟩
/-- at the list D, what is to come -/
def LcT (K : PySem.W.Frag) (X ι : List Addr) (H : Hp) (Q : VK) (r : R (List D)) : Prop := match r with
  | .ok ds S' => ∀ ι' H' p xs, Ext ι H ι' H' → Rel K ι' (p :: X) S' H' → H p = none → H' p = some (.lst xs) → RepDs K ι' (p :: X) H' ds xs → Q (.ref p) H'
  | _ => False
/-- one item of a comprehension -/
theorem lc_item {vs : List Nat} {g : TG} {m : DG} {tt : TT} {t : DT} {te : TE} {e : DE} {σ : L2.St} {δ : DEnv} (hg : SGv K vs g m) (ht : ST K WF tt t) (he : SE K WF te e)
    {X ι0 ι : List Addr} {H0 H : Hp} {S : Store} {Dd : Addr} {d : D} {x : V} {acc : List V} {accD : List D} {T : R (List D) → Prop} (hf : ¬ T .fail) {k : List D → Store → R (List D)} {Nx : Hp → Prop}
    (x0 : Ext ι0 H0 ι H) (h0 : H0 Dd = none) (rel : Rel K ι (Dd :: X) S H) (re : RepE K ι (Dd :: X) H (wipeD δ vs) (wipe σ vs)) (rd : RepD K ι (Dd :: X) H d x) (ha : H Dd = some (.lst acc)) (ra : RepDs K ι (Dd :: X) H accD acc)
    (h : T ((m d (wipeD δ vs) S).bnf fun δ1 S1 => (t δ1 S1).bnf fun b S2 => match b with
        | true => (e δ1 S2).bnf fun y S3 => if accD.length < 100000 then k (accD ++ [y]) S3 else .fail
        | false => k accD S2))
    (fin : ∀ ι' H' S' accD' acc', Ext ι0 H0 ι' H' → Rel K ι' (Dd :: X) S' H' → H' Dd = some (.lst acc') → RepDs K ι' (Dd :: X) H' accD' acc' → T (k accD' S') → Nx H') :
    g x (wipe σ vs) H fun σ2 H2 => wipe σ2 vs = wipe σ vs ∧ tt σ2 H2 fun b H3 =>
      if b = true then te σ2 H3 fun y H4 => ∃ acc, H4 Dd = some (.lst acc) ∧ acc.length < sizeLine ∧ Nx (upd H4 Dd (.lst (acc ++ [y]))) else Nx H3 := by
  refine hg ι (Dd :: X) S H _ _ d x _ rel re rd (Post.bnf h hf fun ι1 H1 δ1 S1 σ1 x1 rel1 re1 h1 => ?_)
  refine ⟨re1.2.trans ?_, ?_⟩
  · have go : ∀ us vs : List Nat, (∀ v ∈ us, v ∈ vs) → wipe (wipe σ vs) us = wipe σ vs := by
      intro us vs hs
      induction us with
      | nil => rfl
      | cons u us ih =>
        unfold wipe
        rw [ih fun v hv => hs v (List.mem_cons_of_mem _ hv)]
        have go2 : ∀ vs : List Nat, u ∈ vs → (wipe σ vs).set u none = wipe σ vs := by
          intro vs
          induction vs with
          | nil => intro h; cases h
          | cons v vs ih2 =>
            intro hm
            unfold wipe
            by_cases q : u = v
            · subst q
              rw [List.set_set]
            · rcases List.mem_cons.mp hm with z | z
              · exact absurd z q
              · rw [List.set_comm _ _ (Ne.symm q), ih2 z]
        have := go2 vs (hs u List.mem_cons_self)
        cases vs with
        | nil => exact this
        | cons v vs => exact this
    exact go vs vs fun v hv => hv
  refine ht ι1 (Dd :: X) S1 H1 σ1 δ1 _ rel1 re1.1 (Post.bnf h1 hf fun ι2 H2 b S2 v x2 rel2 rv h2 => ?_)
  subst rv
  have dn : Dd ∉ ι := (rel.ex Dd List.mem_cons_self).1
  have dn1 : Dd ∉ ι1 := (rel1.ex Dd List.mem_cons_self).1
  have dn2 : Dd ∉ ι2 := (rel2.ex Dd List.mem_cons_self).1
  have ha2 := x2.old _ _ dn1 (x1.old _ _ dn ha)
  cases v with
  | false => exact fin ι2 H2 S2 accD acc ((x0.trans x1).trans x2) rel2 ha2 ((ra.ext x1).ext x2) h2
  | true =>
    rw [if_pos rfl]
    refine he ι2 (Dd :: X) S2 H2 σ1 δ1 _ rel2 (re1.1.ext x2) (Post.bnf h2 hf fun ι3 H3 y S3 w x3 rel3 ry h3 => ?_)
    have ha3 := x3.old _ _ dn2 ha2
    have ra3 := ((ra.ext x1).ext x2).ext x3
    by_cases hl : accD.length < 100000
    · rw [if_pos hl] at h3
      refine ⟨acc, ha3, smalls (by rw [repDs_len ra3]; exact hl), ?_⟩
      refine fin ι3 _ S3 (accD ++ [y]) (acc ++ [w]) (ext_mine (((x0.trans x1).trans x2).trans x3) h0) (rel3.mine List.mem_cons_self) upd_same ?_ h3
      exact (repDs_snoc ra3 ry).out (Out1.mine List.mem_cons_self)
    · rw [if_neg hl] at h3
      exact (hf h3).elim
theorem sl_lc {wi : TI} {w : DI} {g : TG} {m : DG} {tt : TT} {t : DT} {te : TE} {e : DE} {vs : List Nat} (hw : SI K W wi w) (hg : SGv K vs g m) (ht : ST K WF tt t) (he : SE K WF te e) : SL K W (tLc wi g tt te vs) (mLc w m t e vs) := by
  intro ι X S H σ δ Q rel re h
  refine hw ι X S H σ δ _ rel re ?_
  unfold mLc at h
  cases ew : w δ S with
  | fail => rw [ew] at h; exact h
  | exc C x S1 => rw [ew] at h; exact h
  | ok k S1 =>
    rw [ew, R.bind_ok] at h
    cases k with
    | items l =>
      simp only at h
      intro ι1 H1 J x1 rel1 it Dd hD
      have h0 : H Dd = none := ext_free x1 (rel1.nin hD).1 hD
      have hf : ¬ LcT K X ι H Q .fail := fun z => z
      have h' : LcT K X ι H Q (mLcL m t e vs δ l [] S1) := by
        cases q : mLcL m t e vs δ l [] S1 with
        | ok ds S' => rw [q] at h; exact h
        | exc C x S' => rw [q] at h; exact h
        | fail => rw [q] at h; exact h
      have reD : RepE K ι1 (Dd :: X) (upd H1 Dd (.lst [])) δ σ := (re.ext x1).out (Out1.more hD)
      refine ⟨fun i n H' => ∃ ι2 S2 accD acc, n = l.length - i ∧ i ≤ l.length ∧ Ext ι1 H1 ι2 H' ∧ Rel K ι2 (Dd :: X) S2 H' ∧ H' Dd = some (.lst acc) ∧ RepDs K ι2 (Dd :: X) H' accD acc ∧ LcT K X ι H Q (mLcL m t e vs δ (l.drop i) accD S2),
        ⟨l.length, ι1, S1, [], [], rfl, Nat.zero_le _, ext_mine Ext.refl hD, rel1.more hD, upd_same, rfl, h'⟩, ?_⟩
      rintro i n H2 ⟨ι2, S2, accD, acc, rfl, hi, x2, rel2, ha, ra, h2⟩
      have dn2 : Dd ∉ ι2 := (rel2.ex Dd List.mem_cons_self).1
      have o2 : Out1 ι1 X H1 ι2 (Dd :: X) H2 := ⟨fun e => x2.at e, fun a u n k e => ⟨x2.old a u n e, x2.nin n e, fun z => by
        rcases List.mem_cons.mp z with z | z
        · rw [z, hD] at e; cases e
        · exact k z⟩⟩
      have now := (it.out o2).now
      by_cases hl : i < l.length
      · have ed : l.drop i = l[i] :: l.drop (i + 1) := List.drop_eq_getElem_cons hl
        have eg : l[i]? = some l[i] := List.getElem?_eq_getElem hl
        rw [ed] at h2
        generalize l[i] = d at h2 eg
        refine .inr ⟨now.go i hl, fun H' => ∃ ι3 S3 accD acc, Ext ι1 H1 ι3 H' ∧ Rel K ι3 (Dd :: X) S3 H' ∧ H' Dd = some (.lst acc) ∧ RepDs K ι3 (Dd :: X) H' accD acc ∧ LcT K X ι H Q (mLcL m t e vs δ (l.drop (i + 1)) accD S3),
          fun H' ⟨ι3, S3, a, b, q⟩ => ⟨_, Nat.sub_lt_sub_left hl (Nat.lt_succ_self i), ι3, S3, a, b, rfl, hl, q⟩, fun x H3 y => ?_⟩
        obtain ⟨rel3, x3, rd⟩ := now.yld i x H3 d S2 y eg rel2
        unfold mLcL at h2
        have ha3 := x3.old _ _ dn2 ha
        have re3 : RepE K ι2 (Dd :: X) H3 (wipeD δ vs) (wipe σ vs) := (((re.ext x1).out o2).ext x3).wipe vs
        exact lc_item hg ht he hf (x2.trans x3) hD rel3 re3 rd ha3 (ra.ext x3) h2 fun ι' H' S' accD' acc' x4 rel4 ha4 ra4 h4 => ⟨ι', S', accD', acc', x4, rel4, ha4, ra4, h4⟩
      · have ei : i = l.length := by omega
        subst ei
        rw [List.drop_length] at h2
        exact .inl ⟨now.stop, h2 ι2 H2 Dd acc (x1.trans x2) rel2 h0 ha ra⟩
    | ob o =>
      simp only at h
      intro ι1 H1 a x1 rel1 ea Dd hD
      have h0 : H Dd = none := ext_free x1 (rel1.nin hD).1 hD
      have hf : ¬ LcT K X ι H Q .fail := fun z => z
      cases es : S1[o]? with
      | none => rw [es] at h; exact h.elim
      | some ob =>
        cases ob with
        | ins C fs => simp only [es] at h; exact h.elim
        | dic fs => simp only [es] at h; exact h.elim
        | lst l =>
          simp only [es] at h
          have h' : LcT K X ι H Q (mLcO m t e vs δ o l.length l.length 0 [] S1) := by
            cases q : mLcO m t e vs δ o l.length l.length 0 [] S1 with
            | ok ds S' => rw [q] at h; exact h
            | exc C x S' => rw [q] at h; exact h
            | fail => rw [q] at h; exact h
          refine ⟨fun i n H' => ∃ ι2 S2 accD acc, i + n = l.length ∧ Ext ι1 H1 ι2 H' ∧ Rel K ι2 (Dd :: X) S2 H' ∧ H' Dd = some (.lst acc) ∧ RepDs K ι2 (Dd :: X) H' accD acc ∧ LcT K X ι H Q (mLcO m t e vs δ o l.length n i accD S2),
            ⟨l.length, ι1, S1, [], [], by omega, ext_mine Ext.refl hD, rel1.more hD, upd_same, rfl, h'⟩, ?_⟩
          rintro i n H2 ⟨ι2, S2, accD, acc, hi, x2, rel2, ha, ra, h2⟩
          have dn2 : Dd ∉ ι2 := (rel2.ex Dd List.mem_cons_self).1
          have o2 : Out1 ι1 X H1 ι2 (Dd :: X) H2 := ⟨fun e => x2.at e, fun a u n k e => ⟨x2.old a u n e, x2.nin n e, fun z => by
            rcases List.mem_cons.mp z with z | z
            · rw [z, hD] at e; cases e
            · exact k z⟩⟩
          have ea2 := x2.at ea
          cases n with
          | zero =>
            unfold mLcO at h2
            cases es2 : S2[o]? with
            | none => simp only [es2] at h2; exact h2.elim
            | some ob =>
              cases ob with
              | ins C fs => simp only [es2] at h2; exact h2.elim
              | dic fs => simp only [es2] at h2; exact h2.elim
              | lst l2 =>
                simp only [es2] at h2
                by_cases hl : l2.length = l.length
                · rw [if_pos hl] at h2
                  obtain ⟨xs, ex, rx⟩ := obj_now rel2 ea2 es2
                  exact .inl ⟨⟨xs, SqL.of ex, by rw [repDs_len rx]; omega⟩, h2 ι2 H2 Dd acc (x1.trans x2) rel2 h0 ha ra⟩
                · rw [if_neg hl] at h2; exact h2.elim
          | succ n =>
            unfold mLcO at h2
            cases es2 : S2[o]? with
            | none => simp only [es2] at h2; exact h2.elim
            | some ob =>
              cases ob with
              | ins C fs => simp only [es2] at h2; exact h2.elim
              | dic fs => simp only [es2] at h2; exact h2.elim
              | lst l2 =>
                simp only [es2] at h2
                by_cases hl : l2.length = l.length
                · rw [if_pos hl] at h2
                  cases ed : l2[i]? with
                  | none => simp only [ed] at h2; exact h2.elim
                  | some d =>
                    simp only [ed] at h2
                    obtain ⟨xs, ex, rx⟩ := obj_now rel2 ea2 es2
                    obtain ⟨y, ey, ry⟩ := repDs_at rx ed
                    refine .inr ⟨⟨xs, y, SqL.of ex, ey⟩, fun H' => ∃ ι3 S3 accD acc, Ext ι1 H1 ι3 H' ∧ Rel K ι3 (Dd :: X) S3 H' ∧ H' Dd = some (.lst acc) ∧ RepDs K ι3 (Dd :: X) H' accD acc ∧ LcT K X ι H Q (mLcO m t e vs δ o l.length n (i + 1) accD S3),
                      fun H' ⟨ι3, S3, a, b, q⟩ => ⟨n, Nat.lt_succ_self n, ι3, S3, a, b, by omega, q⟩, fun x H3 yy => ?_⟩
                    obtain ⟨rfl, yy⟩ := yy
                    have exy : x = y := by
                      have := yy xs (SqL.of ex)
                      rw [ey] at this
                      exact (Option.some.inj this).symm
                    subst exy
                    have re3 : RepE K ι2 (Dd :: X) _ (wipeD δ vs) (wipe σ vs) := ((re.ext x1).out o2).wipe vs
                    exact lc_item hg ht he hf x2 hD rel2 re3 ry ha ra h2 fun ι' H' S' accD' acc' x4 rel4 ha4 ra4 h4 => ⟨ι', S', accD', acc', x4, rel4, ha4, ra4, h4⟩
                · rw [if_neg hl] at h2; exact h2.elim
end
end M3
namespace M3
open PySem PySem.Spec PyProof.Rows L2
/-! ### defs -/
/-- a def of the text, as the top has left it -/
structure Def (K : PySem.W.Frag) (mg : Str → Option Value) (x : Str) (st : Stmt) (ps : List Str) : Prop where
  ex : ∃ f fd, Fun K x x st f fd ∧ mg x = some (.ref f) ∧ Binds K fd ps []
/-- a def to be called -/
structure Cal (P : Program) (w : World) (K : PySem.W.Frag) (mg : Str → Option Value) (base : Heap) (k : Nat) (x : Str) (ps : List Str) (sp : Sp) : Prop where
  ex : ∃ f fd, FnOk P w K mg base (L2.CX P w) k f fd ps sp ∧ mg x = some (.ref f) ∧ PySem.W.keepIn K (.ref f) = true ∧ Binds K fd ps []
theorem Cal.imp {P : Program} {w : World} {K : PySem.W.Frag} {mg : Str → Option Value} {base : Heap} {k : Nat} {x : Str} {ps : List Str} {sp sp' : Sp} (C : Cal P w K mg base k x ps sp) (h : ∀ vs H Q E, sp' vs H Q E → sp vs H Q E) : Cal P w K mg base k x ps sp' :=
  let ⟨f, fd, F, r⟩ := C.ex; ⟨f, fd, F.imp h, r⟩
theorem Cal.mono {P : Program} {w : World} {K : PySem.W.Frag} {mg : Str → Option Value} {base : Heap} {j k : Nat} {x : Str} {ps : List Str} {sp : Sp} (C : Cal P w K mg base j x ps sp) (h : j ≤ k) : Cal P w K mg base k x ps sp :=
  let ⟨f, fd, F, r⟩ := C.ex; ⟨f, fd, F.mono h, r⟩
theorem Def.cal {P : Program} {w : World} {K : PySem.W.Frag} {mg : Str → Option Value} {base : Heap} {k : Nat} {x : Str} {st : Stmt} {N ps : List Str} {sp : Sp} (D : Def K mg x st ps) (S : FnScope N ps (defScope st)) (len : ∀ vs H Q E, sp vs H Q E → vs.length = ps.length)
    (hbody : ∀ (f : Addr) (cdv : Value) (A : Around) (outer : List PySem.Env) (s : Shared) (H : Hp) (vs : List V) (Q : VK) (E : XK), Room k (A.deeper (envOfC x (defScope st) s.heap.objs.size f cdv)) → sp vs H Q E →
      ∃ t, PSs (cxOf (L2.CX P w) P w K mg base N x (defScope st) f cdv A outer s H E) (defBody st) t ∧ t { nx := fun _ H' => Q .non H', rt := Q } (L2.start N vs) H) : Cal P w K mg base (k + 1) x ps sp := by
  obtain ⟨f, fd, F, hm, b⟩ := D.ex
  exact ⟨f, fd, F.okX S len (hbody f), hm, F.kp, b⟩
/-- a wish by slots, as the judgements have it -/
def wk (W : WX) : L2.St → WK := fun σ c d H => W c d σ H
/-- what a def promises: what its function of data says -/
def spM (K : PySem.W.Frag) (n : Nat) (m : List D → Store → R D) : Sp := fun vs H Q E => vs.length = n ∧ ∃ ι X S ds, Rel K ι X S H ∧ RepDs K ι X H ds vs ∧ Post K X ι H (fun c da H' => E c da H') (m ds S) (fun ι' H' d v => RepD K ι' X H' d v) Q
theorem spM_len {K : PySem.W.Frag} {n : Nat} {m : List D → Store → R D} {ps : List Str} (h : ps.length = n) : ∀ vs H Q E, spM K n m vs H Q E → vs.length = ps.length := fun _ _ _ _ q => q.1.trans h.symm
section
variable {K : PySem.W.Frag}
theorem repE_start {ι X : List Addr} {H : Hp} {N : List Str} : ∀ {ds : List D} {vs : List V}, RepDs K ι X H ds vs → ∀ n, RepE K ι X H (ds.map some ++ List.replicate n none) (vs.map some ++ List.replicate n none) := by
  intro ds vs r n
  have hl := repDs_len r
  refine ⟨by simp [hl], fun i d e => ?_⟩
  by_cases hi : i < ds.length
  · rw [List.getElem?_append_left (by simpa using hi), List.getElem?_map] at e
    cases q : ds[i]? with
    | none => rw [q] at e; cases e
    | some d' =>
      rw [q] at e
      cases e
      obtain ⟨x, ex, rx⟩ := repDs_at r q
      exact ⟨x, by rw [List.getElem?_append_left (by simpa [hl] using hi), List.getElem?_map, ex]; rfl, rx⟩
  · rw [List.getElem?_append_right (by simpa using hi), List.getElem?_replicate] at e
    split at e <;> cases e
theorem body_ok {n : Nat} {N : List Str} {t : TS} {b : DS} {vs : List V} {H : Hp} {Q : VK} {E : XK} (hb : SS K (wk fun cls d _ H => E cls d H) t b) (h : spM K n (mBody N.length b) vs H Q E) : t { nx := fun _ H' => Q .non H', rt := Q } (L2.start N vs) H := by
  obtain ⟨hn, ι, X, S, ds, rel, rd, hp⟩ := h
  unfold mBody at hp
  have hl := repDs_len rd
  refine hb ι X S H _ _ _ rel (by unfold L2.start; rw [hl]; exact repE_start (N := N) rd _) ?_
  cases e : b (ds.map some ++ List.replicate (N.length - ds.length) none) S with
  | fail => rw [e] at hp; exact hp
  | exc C x S' => rw [e] at hp; exact hp
  | ok o S' =>
    rw [e] at hp
    cases o with
    | nx δ => exact fun ι' H' σ x rel' re => hp ι' H' .non x rel' rd_non
    | rt d => exact fun ι' H' v x rel' rv => hp ι' H' v x rel' rv
    | bk δ => exact hp.elim
    | ct δ => exact hp.elim
    | ex C x δ => exact fun ι' H' da σ x rel' rx re => hp ι' H' da x rel' rx
/-! ### calls -/
theorem se_def {W : WX} {n : Nat} {m : List D → Store → R D} {t : TA} {a : DA} (ha : SA K (wk W) t a) : SE K (wk W) (tCallS (spM K n m) (WE W) t) (mDef n m a) := by
  intro ι X S H σ δ Q rel re h
  refine ha ι X S H σ δ _ rel re (Post.bind h fun ι1 H1 ds S1 vs x1 rel1 rv h1 => ?_)
  by_cases hn : ds.length = n
  · rw [if_pos hn] at h1
    exact ⟨by rw [repDs_len rv]; exact hn, ι1, X, S1, ds, rel1, rv, h1⟩
  · rw [if_neg hn] at h1
    exact h1.elim
/-- within a comprehension: nothing is raised -/
theorem se_defF {n : Nat} {m : List D → Store → R D} {t : TA} {a : DA} (ha : SA K WF t a) : SE K WF (tCall (spM K n m) [] E0 t) (mDef n m a) := by
  intro ι X S H σ δ Q rel re h
  refine ha ι X S H σ δ _ rel re (Post.bind h fun ι1 H1 ds S1 vs x1 rel1 rv h1 => ?_)
  rw [List.append_nil]
  by_cases hn : ds.length = n
  · rw [if_pos hn] at h1
    exact ⟨by rw [repDs_len rv]; exact hn, ι1, X, S1, ds, rel1, rv, h1⟩
  · rw [if_neg hn] at h1
    exact h1.elim
theorem passF {P : Program} {w : World} {X : Cx} : Passes (L2.CX P w) X E0 := fun _ _ _ _ _ _ _ ⟨_, _, _, _, _, _, _, _, _, _, _, _, h⟩ => h.elim
section
variable {X : Cx} {k j : Nat} {x : Str} {ps : List Str} {sp : Sp} {e : Expr} {es : List Expr} {t : TA} {p pos : Pos} {W : WX}
theorem pcal (C : Cal X.prog X.w X.K X.mg X.base k x ps sp) (hr : Room j X.A) (hk : k ≤ j) (hg : Gl X x) (tk : Takes X W) (ha : PA X (e :: es) t) (hdb : (x == ("__debug__" : Str)) = false := by decide) (he : starEach (e :: es) X.env = (false, eval e X.env) :: starEach es X.env := by rfl) (hpl : (backTo pos (starEach es X.env)).any (·.1) = false := by rfl) :
    PE X (.Call (.Name x p) (e :: es) [] pos) (tCallS sp (WE W) t) := by
  obtain ⟨f, fd, F, hm, kp, b⟩ := C.ex
  exact pe_callS F (hr.mono hk) hg hm kp b (fun σ => passAt tk σ) ha hdb he hpl
theorem pcalF (C : Cal X.prog X.w X.K X.mg X.base k x ps sp) (hr : Room j X.A) (hk : k ≤ j) (hg : Gl X x) (ha : PA X (e :: es) t) (hdb : (x == ("__debug__" : Str)) = false := by decide) (he : starEach (e :: es) X.env = (false, eval e X.env) :: starEach es X.env := by rfl) (hpl : (backTo pos (starEach es X.env)).any (·.1) = false := by rfl) :
    PE X (.Call (.Name x p) (e :: es) [] pos) (tCall sp [] E0 t) := by
  obtain ⟨f, fd, F, hm, kp, b⟩ := C.ex
  exact pe_call F (hr.mono hk) hg hm kp b .nil passF ha hdb he hpl
end
/-! ### own objects go -/
theorem datAll_repD {ι X ι' X' : List Addr} {H H' : Hp} (x : OutP ι X H ι' X' H') : ∀ {ds : List D} {ps : List P} {vs : List V}, datAll ds = some ps → RepDs K ι X H ds vs → RepDs K ι' X' H' ds vs
  | [], ps, vs, e, r => r
  | .dat p :: ds, ps, vs, e, ⟨y, ys, ev, f, g⟩ => by
    unfold datAll at e
    cases q : datAll ds with
    | none => rw [q] at e; cases e
    | some qs => exact ⟨y, ys, ev, RepP.out x f, datAll_repD x q g⟩
  | .obj _ :: ds, ps, vs, e, r => by cases e
theorem datF_rep {ι X ι' X' : List Addr} {H H' : Hp} (x : OutP ι X H ι' X' H') : ∀ {ds : List (Str × D)} {ps : List (Str × P)} {vs : List (Str × V)}, datF ds = some ps → RepDF K ι X H ds vs → RepFs K ι' X' H' ps vs
  | [], ps, vs, e, r => by
    cases e
    rw [RepFs]
    exact r
  | (f, .dat p) :: ds, ps, vs, e, ⟨y, ys, ev, h, g⟩ => by
    unfold datF at e
    cases q : datF ds with
    | none => rw [q] at e; cases e
    | some qs =>
      rw [q] at e
      cases e
      rw [RepFs]
      exact ⟨y, ys, ev, RepP.out x h, datF_rep x q g⟩
  | (_, .obj _) :: ds, ps, vs, e, r => by cases e
theorem frz1_rep {ι X ι' X' : List Addr} {S : Store} {H : Hp} (rel : Rel K ι X S H) (x : OutP ι X H ι' X' H) {i : Nat} {p : P} {a : Addr} (e : frz1 S i = some p) (ea : ι[i]? = some a) (n : a ∉ ι') (m : a ∉ X') : RepD K ι' X' H (.dat p) (.ref a) := by
  show RepP K ι' X' H p _
  unfold frz1 at e
  cases es : S[i]? with
  | none => rw [es] at e; cases e
  | some o =>
    rw [es] at e
    have ro := rel.at_ i o a es ea
    cases o with
    | lst l =>
      obtain ⟨xs, f, g⟩ := ro
      cases q : datAll l with
      | none => simp only [q] at e; cases e
      | some ps =>
        simp only [q, Option.map_some] at e
        cases e
        rw [RepP]
        exact ⟨a, xs, rfl, n, m, f, RepPs.out x (datAll_rep q g)⟩
    | ins C l =>
      obtain ⟨dx, xs, f, g⟩ := ro
      cases q : datF l with
      | none => simp only [q] at e; cases e
      | some ps =>
        simp only [q, Option.map_some] at e
        cases e
        rw [RepP]
        exact ⟨a, dx, xs, rfl, n, m, f, datF_rep x q g⟩
    | dic l => cases e
theorem repX_out {ι X ι' X' : List Addr} {H H' : Hp} (x : OutP ι X H ι' X' H') (k : ∀ d f v, H d = some (.xd [(f, v)]) → H' d = some (.xd [(f, v)])) {o : Option (Str × P)} {da : Option Addr} (r : RepX K ι X H o da) : RepX K ι' X' H' o da := by
  cases o with
  | none => exact r
  | some z =>
    obtain ⟨f, p⟩ := z
    obtain ⟨d, v, e, g, h⟩ := r
    exact ⟨d, v, e, k _ _ _ g, RepP.out x h⟩
theorem pure_ok {n : Nat} {f : List D → Store → R D} : ∀ vs H Q E, spM K n (mPure f) vs H Q E → spM K n f vs H Q E := by
  rintro vs H Q E ⟨hn, ι, X, S, ds, rel, rd, hp⟩
  unfold mPure at hp
  cases e : datAll ds with
  | none => rw [e] at hp; exact hp.elim
  | some ps =>
    simp only [e] at hp
    have y : OutP ι X H [] (ι ++ X) H := ⟨fun a o n m e => ⟨e, by simp, fun z => by
      rcases List.mem_append.mp z with z | z
      · exact n z
      · exact m z⟩⟩
    have relX : Rel K [] (ι ++ X) [] H := ⟨rfl, List.nodup_nil, fun i o a e => by simp at e, fun a m => ⟨by simp, by
      rcases List.mem_append.mp m with m | m
      · exact rel.mem m
      · exact (rel.ex a m).2⟩⟩
    refine ⟨hn, [], ι ++ X, [], ds, relX, datAll_repD y e rd, ?_⟩
    -- the caller's own state, behind
    have back : ∀ ι' H', Ext [] H ι' H' → Ext ι H ι H' ∧ Rel K ι X S H' := fun ι' H' x => by
      have o1 : Out1 ι X H ι X H' := ⟨fun e => e, fun a o n m e => ⟨x.old a o (by simp) e, n, m⟩⟩
      refine ⟨⟨⟨[], by simp⟩, fun b o _ e => x.old b o (by simp) e, fun b m n => absurd m n⟩, rel.keep o1 rfl (fun a m => ?_) fun a m => ⟨(rel.ex a m).1, ?_⟩⟩
      · obtain ⟨u, eu⟩ := rel.mem m
        rw [eu, x.old a u (by simp) eu]
      · obtain ⟨_, u, eu⟩ := rel.ex a m
        exact ⟨u, x.old a u (by simp) eu⟩
    have yy : ∀ ι' H', OutP ι' (ι ++ X) H' ι X H' := fun ι' H' => ⟨fun a o n m e => ⟨e, fun z => m (List.mem_append_left _ z), fun z => m (List.mem_append_right _ z)⟩⟩
    cases q : f ds [] with
    | fail => rw [q] at hp; exact hp
    | exc C x S' =>
      rw [q] at hp
      exact fun ι' H' da x rel' rx => hp ι H' da (back ι' H' x).1 (back ι' H' x).2 (repX_out (yy ι' H') (fun _ _ _ z => z) rx)
    | ok d S' =>
      rw [q] at hp
      cases d with
      | dat p => exact fun ι' H' v x rel' rv => hp ι H' v (back ι' H' x).1 (back ι' H' x).2 (RepP.out (yy ι' H') rv)
      | obj i =>
        simp only at hp
        cases z : frz1 S' i with
        | none => rw [z] at hp; exact hp.elim
        | some p =>
          simp only [z] at hp
          rintro ι' H' v x rel' ⟨a, ea, rfl⟩
          have hna : H a = none := x.new a (List.mem_of_getElem? ea) (by simp)
          exact hp ι H' _ (back ι' H' x).1 (back ι' H' x).2 (frz1_rep rel' (yy ι' H') z ea (rel.nin hna).1 (rel.nin hna).2)
end
end M3
namespace M3
open PySem PySem.Spec PyProof.Rows L2
section
variable {K : PySem.W.Frag}
/-- fewer are tracked -/
theorem repD_lt {ι t X : List Addr} {H : Hp} {d : D} {v : V} (e : d.lt ι.length = true) (r : RepD K (ι ++ t) X H d v) : RepD K ι X H d v := by
  cases d with
  | dat p => exact RepP.out (⟨fun a o n m e => ⟨e, fun z => n (List.mem_append_left _ z), m⟩⟩ : OutP (ι ++ t) X H ι X H) r
  | obj i =>
    obtain ⟨a, ea, ev⟩ := r
    have hi : i < ι.length := of_decide_eq_true e
    rw [List.getElem?_append_left hi] at ea
    exact ⟨a, ea, ev⟩
theorem repDs_lt {ι t X : List Addr} {H : Hp} : ∀ {ds : List D} {vs : List V}, ds.all (D.lt ι.length) = true → RepDs K (ι ++ t) X H ds vs → RepDs K ι X H ds vs
  | [], _, _, r => r
  | d :: ds, _, e, ⟨y, ys, ev, f, g⟩ => by
    rw [List.all_cons, Bool.and_eq_true] at e
    exact ⟨y, ys, ev, repD_lt e.1 f, repDs_lt e.2 g⟩
theorem repDF_lt {ι t X : List Addr} {H : Hp} : ∀ {ds : List (Str × D)} {vs : List (Str × V)}, ds.all (fun p => p.2.lt ι.length) = true → RepDF K (ι ++ t) X H ds vs → RepDF K ι X H ds vs
  | [], _, _, r => r
  | (_, d) :: ds, _, e, ⟨y, ys, ev, f, g⟩ => by
    rw [List.all_cons, Bool.and_eq_true] at e
    exact ⟨y, ys, ev, repD_lt e.1 f, repDF_lt e.2 g⟩
theorem repDK_lt {ι t X : List Addr} {H : Hp} : ∀ {ds : List (Key × D)} {vs : List (Key × V)}, ds.all (fun p => p.2.lt ι.length) = true → RepDK K (ι ++ t) X H ds vs → RepDK K ι X H ds vs
  | [], _, _, r => r
  | (_, d) :: ds, _, e, ⟨y, ys, ev, f, g⟩ => by
    rw [List.all_cons, Bool.and_eq_true] at e
    exact ⟨y, ys, ev, repD_lt e.1 f, repDK_lt e.2 g⟩
theorem repO_lt {ι t X : List Addr} {H : Hp} {o : O} {a : Addr} (e : o.lt ι.length = true) (r : RepO K (ι ++ t) X H o a) : RepO K ι X H o a := by
  cases o with
  | lst l => obtain ⟨xs, f, g⟩ := r; exact ⟨xs, f, repDs_lt e g⟩
  | ins C l => obtain ⟨dx, xs, f, g⟩ := r; exact ⟨dx, xs, f, repDF_lt e g⟩
  | dic l => obtain ⟨xs, f, g⟩ := r; exact ⟨xs, f, repDK_lt e g⟩
theorem scope_rel {ι ι' X : List Addr} {S S' : Store} {H H' : Hp} (rel : Rel K ι X S H) (x : Ext ι H ι' H') (rel' : Rel K ι' X S' H') (e : (S'.take S.length).all (O.lt S.length) = true) : Ext ι H ι H' ∧ Rel K ι X (S'.take S.length) H' := by
  obtain ⟨t, rfl⟩ := x.pre
  refine ⟨⟨⟨[], by simp⟩, x.old, fun b m n => absurd m n⟩, ?_, rel.nd, fun i o a eo ea => ?_, fun a m => ⟨fun z => (rel'.ex a m).1 (List.mem_append_left _ z), (rel'.ex a m).2⟩⟩
  · have h1 := rel'.len
    rw [List.length_append] at h1
    rw [List.length_take, ← rel.len]
    omega
  · have hi := (List.getElem?_eq_some_iff.mp ea).1
    have mo : o ∈ S'.take S.length := List.mem_of_getElem? eo
    have eo2 : S'[i]? = some o := by
      rw [List.getElem?_take] at eo
      split at eo
      · exact eo
      · cases eo
    have q := rel'.at_ i o a eo2 (by rw [List.getElem?_append_left hi]; exact ea)
    rw [← rel.len] at e
    exact repO_lt (List.all_eq_true.mp e o (by rw [rel.len]; exact mo)) q
theorem scope_ok {n : Nat} {f : List D → Store → R D} : ∀ vs H Q E, spM K n (mScope f) vs H Q E → spM K n f vs H Q E := by
  rintro vs H Q E ⟨hn, ι, X, S, ds, rel, rd, hp⟩
  refine ⟨hn, ι, X, S, ds, rel, rd, ?_⟩
  unfold mScope at hp
  cases q : f ds S with
  | fail => rw [q] at hp; exact hp
  | exc C x S' =>
    rw [q] at hp
    simp only at hp
    by_cases e : (S'.take S.length).all (O.lt S.length) = true
    · rw [if_pos e] at hp
      intro ι' H' da x' rel' rx
      obtain ⟨x2, rel2⟩ := scope_rel rel x' rel' e
      obtain ⟨t, et⟩ := x'.pre
      refine hp ι H' da x2 rel2 (repX_out ⟨fun a o n m e => ⟨e, fun z => n (by rw [et]; exact List.mem_append_left _ z), m⟩⟩ (fun _ _ _ z => z) rx)
    · rw [if_neg e] at hp; exact hp.elim
  | ok d S' =>
    rw [q] at hp
    cases d with
    | dat p =>
      simp only at hp
      by_cases e : (S'.take S.length).all (O.lt S.length) = true
      · rw [if_pos e] at hp
        intro ι' H' v x' rel' rv
        obtain ⟨x2, rel2⟩ := scope_rel rel x' rel' e
        obtain ⟨t, et⟩ := x'.pre
        exact hp ι H' v x2 rel2 (RepP.out (⟨fun a o n m e => ⟨e, fun z => n (by rw [et]; exact List.mem_append_left _ z), m⟩⟩ : OutP ι' X H' ι X H') rv)
      · rw [if_neg e] at hp; exact hp.elim
    | obj i =>
      simp only at hp
      by_cases e : (S'.take S.length).all (O.lt S.length) = true
      · rw [if_pos e] at hp
        rintro ι' H' v x' rel' ⟨a, ea, rfl⟩
        obtain ⟨x2, rel2⟩ := scope_rel rel x' rel' e
        obtain ⟨t, et⟩ := x'.pre
        by_cases hi : i < S.length
        · rw [if_pos hi] at hp
          refine hp ι H' _ x2 rel2 ⟨a, ?_, rfl⟩
          rw [et, List.getElem?_append_left (by rw [rel.len]; exact hi)] at ea
          exact ea
        · rw [if_neg hi] at hp
          cases z : frz1 S' i with
          | none => rw [z] at hp; exact hp.elim
          | some p =>
            simp only [z] at hp
            have na : a ∉ ι := fun m => by
              obtain ⟨j, hj⟩ := List.getElem?_of_mem m
              have h1 := x'.at hj
              have := nd_inj rel'.nd ea h1
              have h2 := (List.getElem?_eq_some_iff.mp hj).1
              rw [rel.len] at h2
              omega
            have ma : a ∉ X := fun m => (rel'.ex a m).1 (List.mem_of_getElem? ea)
            exact hp ι H' _ x2 rel2 (frz1_rep rel' ⟨fun a o n m e => ⟨e, fun z => n (by rw [et]; exact List.mem_append_left _ z), m⟩⟩ z ea na ma)
      · rw [if_neg e] at hp; exact hp.elim
/-! ### new instances -/
/-- C(..), as a promise -/
def spNew (C : Addr) (sp : Sp) : Sp := fun vs H Q E => ∀ x dx, H x = none → H dx = none → dx ≠ x → sp (.ref x :: vs) (upd (upd H dx (.own x)) x (.ins C dx [])) (fun v H2 => v = .non ∧ Q (.ref x) H2) E
theorem new_ok {n : Nat} {C : Addr} {f : List D → Store → R D} : ∀ vs H Q E, spM K n (mkC C f) vs H Q E → spNew C (spM K (n + 1) f) vs H Q E := by
  rintro vs H Q E ⟨hn, ι, X, S, ds, rel, rd, hp⟩ x dx hx hdx ne
  have h1 : (upd H dx (.own x)) x = none := by rw [upd_ne (Ne.symm ne)]; exact hx
  have e1 := ext_alloc (o := .own x) rel hdx
  have r1 := rel.alloc (o := .own x) hdx
  have e2 := ext_alloc (o := .ins C dx []) r1 h1
  have r2 := r1.more (o := .ins C dx []) h1
  have e12 := e1.trans e2
  obtain ⟨r3, e3⟩ := r2.trk (o := .ins C []) (X := X) e12 hx (rel.nin hx).2 ⟨dx, [], upd_same, rfl⟩
  refine ⟨by rw [List.length_cons, hn], ι ++ [x], X, S ++ [.ins C []], .obj S.length :: ds, r3, ⟨_, _, rfl, ⟨x, ?_, rfl⟩, rd.ext e3⟩, ?_⟩
  · rw [← rel.len, List.getElem?_append_right (Nat.le_refl _), Nat.sub_self]
    rfl
  unfold mkC at hp
  cases q : f (.obj S.length :: ds) (S ++ [.ins C []]) with
  | fail => rw [q] at hp; exact hp
  | exc C' x' S' => rw [q] at hp; exact fun ι' H' da y rel' rx => hp ι' H' da (e3.trans y) rel' rx
  | ok d S' =>
    rw [q, R.bind_ok] at hp
    intro ι' H' v y rel' rv
    split at hp
    case h_2 => exact hp.elim
    have rv : RepP K ι' X H' .non v := rv
    rw [RepP] at rv
    refine ⟨rv, hp ι' H' _ (e3.trans y) rel' ⟨x, y.at ?_, rfl⟩⟩
    rw [← rel.len, List.getElem?_append_right (Nat.le_refl _), Nat.sub_self]
    rfl
theorem se_new {W : WX} {C : Addr} {n : Nat} {sp : Sp} {m : List D → Store → R D} {t : TA} {a : DA} (hs : ∀ vs H Q E, spM K n m vs H Q E → spNew C sp vs H Q E) (ha : SA K (wk W) t a) :
    SE K (wk W) (fun σ H Q => t σ H fun vs H1 => ∀ x dx, H1 x = none → H1 dx = none → dx ≠ x → sp (.ref x :: vs) (upd (upd H1 dx (.own x)) x (.ins C dx [])) (fun v H2 => v = .non ∧ Q (.ref x) H2) (WE W σ)) (mDef n m a) := by
  intro ι X S H σ δ Q rel re h
  refine ha ι X S H σ δ _ rel re (Post.bind h fun ι1 H1 ds S1 vs x1 rel1 rv h1 => ?_)
  by_cases hn : ds.length = n
  · rw [if_pos hn] at h1
    exact hs _ _ _ _ ⟨by rw [repDs_len rv]; exact hn, ι1, X, S1, ds, rel1, rv, h1⟩
  · rw [if_neg hn] at h1
    exact h1.elim
theorem se_newF {C : Addr} {n : Nat} {sp : Sp} {m : List D → Store → R D} {t : TA} {a : DA} (hs : ∀ vs H Q E, spM K n m vs H Q E → spNew C sp vs H Q E) (ha : SA K WF t a) :
    SE K WF (fun σ H Q => t σ H fun vs H1 => ∀ x dx, H1 x = none → H1 dx = none → dx ≠ x → sp (.ref x :: vs) (upd (upd H1 dx (.own x)) x (.ins C dx [])) (fun v H2 => v = .non ∧ Q (.ref x) H2) E0) (mDef n m a) := by
  intro ι X S H σ δ Q rel re h
  refine ha ι X S H σ δ _ rel re (Post.bind h fun ι1 H1 ds S1 vs x1 rel1 rv h1 => ?_)
  by_cases hn : ds.length = n
  · rw [if_pos hn] at h1
    exact hs _ _ _ _ ⟨by rw [repDs_len rv]; exact hn, ι1, X, S1, ds, rel1, rv, h1⟩
  · rw [if_neg hn] at h1
    exact h1.elim
theorem spM_fail {n : Nat} {vs : List V} {H : Hp} {Q : VK} {E : XK} (h : spM K n (fun _ _ => .fail) vs H Q E) : False := by
  obtain ⟨_, ι, X, S, ds, _, _, h⟩ := h
  exact h
end
end M3
namespace M3
open PySem PySem.Spec PyProof.Rows L2
/-! ### operators: what they do to data -/
theorem OpR.or {X : Cx} {f : Value → Value → Sem Value} {r1 r2 : R2} (h1 : OpR X f r1) (h2 : OpR X f r2) : OpR X f (fun x y H Q => r1 x y H Q ∨ r2 x y H Q) := by
  intro pins s σ H x y v u Q I rx ry h
  rcases h with h | h
  · exact h1 pins s σ H x y v u Q I rx ry h
  · exact h2 pins s σ H x y v u Q I rx ry h
theorem CallR.or {X : Cx} {f : Value} {r1 r2 : List V → Hp → VK → Prop} (h1 : CallR X f r1) (h2 : CallR X f r2) : CallR X f (fun x H Q => r1 x H Q ∨ r2 x H Q) := by
  intro pins s σ H xs us Q I r h
  rcases h with h | h
  · exact h1 pins s σ H xs us Q I r h
  · exact h2 pins s σ H xs us Q I r h
/-! ### what a thing is -/
section
variable {K : PySem.W.Frag} {ι X : List Addr} {S : Store} {H : Hp}
theorem rI_inv {i : Int} {v : V} (r : RepD K ι X H (.dat (.int i)) v) : v = .int i := by
  have r : RepP K ι X H (.int i) v := r
  rwa [RepP] at r
theorem rB_inv {i : Bool} {v : V} (r : RepD K ι X H (.dat (.bl i)) v) : v = .bl i := by
  have r : RepP K ι X H (.bl i) v := r
  rwa [RepP] at r
theorem rS_inv {i : Str} {v : V} (r : RepD K ι X H (.dat (.str i)) v) : v = .str i := by
  have r : RepP K ι X H (.str i) v := r
  rwa [RepP] at r
theorem rN_inv {v : V} (r : RepD K ι X H (.dat .non) v) : v = .non := by
  have r : RepP K ι X H .non v := r
  rwa [RepP] at r
theorem rC_inv {v w : V} (r : RepD K ι X H (.dat (.con w)) v) : v = w := by
  have r : RepP K ι X H (.con w) v := r
  rwa [RepP] at r
theorem rT_inv {l : List P} {v : V} (r : RepD K ι X H (.dat (.tup l)) v) : ∃ a xs, v = .ref a ∧ TupAt K ι X H a xs ∧ RepPs K ι X H l xs := by
  have r : RepP K ι X H (.tup l) v := r
  rwa [RepP] at r
theorem rL_inv {l : List P} {v : V} (r : RepD K ι X H (.dat (.lst l)) v) : ∃ a xs, v = .ref a ∧ a ∉ ι ∧ a ∉ X ∧ H a = some (.lst xs) ∧ RepPs K ι X H l xs := by
  have r : RepP K ι X H (.lst l) v := r
  rwa [RepP] at r
end
/-- the items of a list -/
def listD (S : Store) : D → Option (List D)
  | .dat (.lst l) => some (l.map .dat)
  | .obj i => match S[i]? with
    | some (.lst l) => some l
    | _ => none
  | _ => none
/-- the items of a list or tuple -/
def seqD (S : Store) : D → Option (List D)
  | .dat (.tup l) => some (l.map .dat)
  | .dat (.scr l) => some (l.map fun i => .dat (.int i))
  | d => listD S d
def listP (S : Store) (d : D) : Option (List P) := (listD S d).bind datAll
def seqP (S : Store) (d : D) : Option (List P) := (seqD S d).bind datAll
section
variable {K : PySem.W.Frag} {ι X : List Addr} {S : Store} {H : Hp}
theorem listD_rep {d : D} {l : List D} {v : V} (rel : Rel K ι X S H) (e : listD S d = some l) (r : RepD K ι X H d v) : ∃ a xs, v = .ref a ∧ H a = some (.lst xs) ∧ RepDs K ι X H l xs := by
  cases d with
  | obj i =>
    obtain ⟨a, ea, rfl⟩ := r
    unfold listD at e
    simp only at e
    cases es : S[i]? with
    | none => rw [es] at e; cases e
    | some o =>
      rw [es] at e
      cases o with
      | lst l' =>
        cases e
        obtain ⟨xs, f, g⟩ := rel.at_ i _ a es ea
        exact ⟨a, xs, rfl, f, g⟩
      | ins C l' => cases e
      | dic l' => cases e
  | dat p =>
    cases p with
    | lst l' =>
      cases e
      obtain ⟨a, xs, rfl, _, _, f, g⟩ := rL_inv r
      exact ⟨a, xs, rfl, f, repDs_dat g⟩
    | _ => cases e
theorem repDs_ints : ∀ l : List Int, RepDs K ι X H (l.map fun i => .dat (.int i)) (l.map V.int)
  | [] => rfl
  | i :: l => ⟨_, _, rfl, rd_int, repDs_ints l⟩
theorem seqD_rep {d : D} {l : List D} {v : V} (rel : Rel K ι X S H) (e : seqD S d = some l) (r : RepD K ι X H d v) : ∃ a xs, v = .ref a ∧ (SqL K H a xs ∨ SqT K H a xs) ∧ RepDs K ι X H l xs := by
  cases d with
  | obj i =>
    obtain ⟨a, xs, ev, f, g⟩ := listD_rep rel (d := .obj i) e r
    exact ⟨a, xs, ev, .inl (SqL.of f), g⟩
  | dat p =>
    cases p with
    | tup l' =>
      cases e
      obtain ⟨a, xs, rfl, f, g⟩ := rT_inv r
      exact ⟨a, xs, rfl, .inr f.sq, repDs_dat g⟩
    | scr l' =>
      cases e
      have r : RepP K ι X H (.scr l') v := r
      rw [RepP] at r
      obtain ⟨a, rfl, f⟩ := r
      exact ⟨a, _, rfl, .inl f.sq, repDs_ints l'⟩
    | lst l' =>
      obtain ⟨a, xs, ev, f, g⟩ := listD_rep rel (d := .dat (.lst l')) e r
      exact ⟨a, xs, ev, .inl (SqL.of f), g⟩
    | _ => cases e
theorem listP_rep {d : D} {l : List P} {v : V} (rel : Rel K ι X S H) (e : listP S d = some l) (r : RepD K ι X H d v) : ∃ a xs, v = .ref a ∧ H a = some (.lst xs) ∧ RepPs K ι X H l xs := by
  unfold listP at e
  cases q : listD S d with
  | none => rw [q] at e; cases e
  | some l' =>
    rw [q] at e
    obtain ⟨a, xs, ev, f, g⟩ := listD_rep rel q r
    exact ⟨a, xs, ev, f, datAll_rep e g⟩
theorem seqP_rep {d : D} {l : List P} {v : V} (rel : Rel K ι X S H) (e : seqP S d = some l) (r : RepD K ι X H d v) : ∃ a xs, v = .ref a ∧ (SqL K H a xs ∨ SqT K H a xs) ∧ RepPs K ι X H l xs := by
  unfold seqP at e
  cases q : seqD S d with
  | none => rw [q] at e; cases e
  | some l' =>
    rw [q] at e
    obtain ⟨a, xs, ev, f, g⟩ := seqD_rep rel q r
    exact ⟨a, xs, ev, f, datAll_rep e g⟩
theorem repPs_app : ∀ {l k : List P} {xs ys : List V}, RepPs K ι X H l xs → RepPs K ι X H k ys → RepPs K ι X H (l ++ k) (xs ++ ys)
  | [], k, xs, ys, r, q => by
    rw [RepPs] at r
    rw [r]
    exact q
  | p :: l, k, xs, ys, r, q => by
    rw [RepPs] at r
    obtain ⟨y, zs, rfl, f, g⟩ := r
    rw [List.cons_append, RepPs]
    exact ⟨y, zs ++ ys, rfl, f, repPs_app g q⟩
end
/-! ### arithmetic -/
def iop (g : Int → Int → D) (c : Int → Int → Bool) : Store → D → D → Option D := fun _ x y => match x, y with
  | .dat (.int i), .dat (.int j) => if c i j = true then some (g i j) else none
  | _, _ => none
def dInt (i : Int) : D := .dat (.int i)
def dBl (b : Bool) : D := .dat (.bl b)
section
variable {K : PySem.W.Frag}
theorem iop_ok {g : Int → Int → D} {c : Int → Int → Bool} {C : Int → Int → Prop} {gV : Int → Int → V} (hc : ∀ i j, c i j = true → C i j) (hg : ∀ ι X H i j, RepD K ι X H (g i j) (gV i j)) : R2S K (rI C gV) (iop g c) := by
  intro ι X S H x y v u d Q rel rx ry e k
  unfold iop at e
  split at e
  · rename_i i j
    split at e
    · rename_i h
      cases e
      exact ⟨i, j, rI_inv rx, rI_inv ry, hc i j h, k H _ Ext.refl rel (hg ι X H i j)⟩
    · cases e
  · cases e
def yes2 : Int → Int → Bool := fun _ _ => true
theorem iop0_ok {g : Int → Int → D} {gV : Int → Int → V} (hg : ∀ ι X H i j, RepD K ι X H (g i j) (gV i j)) : R2S K (rI0 gV) (iop g yes2) := by
  intro ι X S H x y v u d Q rel rx ry e k
  unfold iop yes2 at e
  split at e
  · rename_i i j
    rw [if_pos rfl] at e
    cases e
    exact ⟨i, j, rI_inv rx, rI_inv ry, k H _ Ext.refl rel (hg ι X H i j)⟩
  · cases e
theorem R2S.or {r1 r2 : R2} {f f1 f2 : Store → D → D → Option D} (h1 : R2S K r1 f1) (h2 : R2S K r2 f2) (hf : ∀ S x y d, f S x y = some d → f1 S x y = some d ∨ f2 S x y = some d) : R2S K (fun x y H Q => r1 x y H Q ∨ r2 x y H Q) f := by
  intro ι X S H x y v u d Q rel rx ry e k
  rcases hf S x y d e with e | e
  · exact .inl (h1 ι X S H x y v u d Q rel rx ry e k)
  · exact .inr (h2 ι X S H x y v u d Q rel rx ry e k)
/-- the first that gives an answer -/
def orF (f g : Store → D → D → Option D) : Store → D → D → Option D := fun S x y => match f S x y with
  | some d => some d
  | none => g S x y
theorem R2S.orF {r1 r2 : R2} {f1 f2 : Store → D → D → Option D} (h1 : R2S K r1 f1) (h2 : R2S K r2 f2) : R2S K (fun x y H Q => r1 x y H Q ∨ r2 x y H Q) (orF f1 f2) := h1.or h2 fun S x y d e => by
  unfold M3.orF at e
  cases q : f1 S x y with
  | some z => rw [q] at e; exact .inl e
  | none => rw [q] at e; exact .inr e
def aAdd : Store → D → D → Option D := fun S x y => match x, y with
  | .dat (.int i), .dat (.int j) => some (.dat (.int (i + j)))
  | .dat (.str i), .dat (.str j) => if i.length + j.length ≤ 100000 then some (.dat (.str (i ++ j))) else none
  | .dat (.tup l), .dat (.tup k) => if l.length + k.length ≤ 100000 then some (.dat (.tup (l ++ k))) else none
  | x, y => match listP S x, listP S y with
    | some l, some k => if l.length + k.length ≤ 100000 then some (.dat (.lst (l ++ k))) else none
    | _, _ => none
def rAddM (K : PySem.W.Frag) : R2 := fun x y H Q => rI0 (fun i j => .int (i + j)) x y H Q ∨ (∃ i j, x = .str i ∧ y = .str j ∧ i.length + j.length ≤ sizeLine ∧ Q (.str (i ++ j)) H) ∨ rCatA K x y H Q ∨ rCat x y H Q
theorem op_addM {X : Cx} (h : X.K = K) : OpR X (binaryOp .Add) (rAddM K) := by
  subst h
  exact OpR.or op_add (OpR.or op_add_str (OpR.or op_catA op_cat))
theorem add_ok : R2S K (rAddM K) aAdd := by
  intro ι X S H x y v u d Q rel rx ry e k
  unfold aAdd at e
  split at e
  · cases e
    exact .inl ⟨_, _, rI_inv rx, rI_inv ry, k H _ Ext.refl rel rd_int⟩
  · split at e
    · rename_i hl
      cases e
      exact .inr (.inl ⟨_, _, rS_inv rx, rS_inv ry, small hl, k H _ Ext.refl rel rd_str⟩)
    · cases e
  · rename_i l m
    split at e
    · rename_i hl
      cases e
      obtain ⟨a, xs, rfl, f, g⟩ := rT_inv rx
      obtain ⟨b, ys, rfl, f2, g2⟩ := rT_inv ry
      refine .inr (.inr (.inl ⟨a, b, xs, ys, rfl, rfl, f.sq, f2.sq, small (by rw [repPs_len g, repPs_len g2]; exact hl), fun ex => ?_, fun ex ey => ?_, fun ex ey p hp => ?_⟩))
      · subst ex
        have : l = [] := List.length_eq_zero_iff.mp (repPs_len g).symm
        subst this
        exact k H _ Ext.refl rel ry
      · subst ey
        have : m = [] := List.length_eq_zero_iff.mp (repPs_len g2).symm
        subst this
        rw [List.append_nil] at k
        exact k H _ Ext.refl rel rx
      · exact new_tup rel (repPs_app g g2) hp k
    · cases e
  · split at e
    · rename_i l m e1 e2
      split at e
      · rename_i hl
        cases e
        obtain ⟨a, xs, rfl, f, g⟩ := listP_rep rel e1 rx
        obtain ⟨b, ys, rfl, f2, g2⟩ := listP_rep rel e2 ry
        exact .inr (.inr (.inr ⟨a, b, xs, ys, rfl, rfl, f, f2, small (by rw [repPs_len g, repPs_len g2]; exact hl), fun p hp => new_lst rel (repPs_app g g2) hp k⟩))
      · cases e
    · cases e
def aSub := iop (fun i j => dInt (i - j)) yes2
theorem sub_ok : R2S K (rI0 fun i j => .int (i - j)) aSub := iop0_ok fun _ _ _ _ _ => rd_int
def CMulM (i j : Int) : Prop := CMul i j ∨ CMulW i j
def cMul (i j : Int) : Bool := decide (i.natAbs < 2 ^ 64) || decide (j.natAbs < 2 ^ 64) || decide (i.natAbs.log2 + j.natAbs.log2 < 1000000)
theorem cMul_ok {i j : Int} (h : cMul i j = true) : CMulM i j := by
  unfold cMul at h
  rw [Bool.or_eq_true, Bool.or_eq_true] at h
  rcases h with (h | h) | h
  · exact .inl (.inl (by have := of_decide_eq_true h; omega))
  · exact .inl (.inr (by have := of_decide_eq_true h; omega))
  · exact .inr (show i.natAbs.log2 + j.natAbs.log2 < 1000000 from of_decide_eq_true h)
theorem op_mulMM {X : Cx} : OpR X (binaryOp .Mult) (rI CMulM fun i j => .int (i * j)) := opI fun _ _ _ _ _ _ _ hc q => mul_int q (hc.elim (fun h => h.ok) fun h => h.ok)
def rMulM (K : PySem.W.Frag) : R2 := fun x y H Q => rI CMulM (fun i j => .int (i * j)) x y H Q ∨ rRep x y H Q ∨ rRepT K x y H Q
theorem op_mulM {X : Cx} (h : X.K = K) : OpR X (binaryOp .Mult) (rMulM K) := by
  subst h
  exact OpR.or op_mulMM (OpR.or op_rep op_repT)
def repP (n : Nat) (l : List P) : List P := (List.replicate n l).flatten
theorem repP_rep {ι X : List Addr} {H : Hp} {l : List P} {xs : List V} (r : RepPs K ι X H l xs) : ∀ n, RepPs K ι X H (repP n l) (List.replicate n xs).flatten
  | 0 => by
    show RepPs K ι X H [] []
    rw [RepPs]
  | n + 1 => by
    unfold repP
    rw [List.replicate_succ, List.flatten_cons, List.replicate_succ, List.flatten_cons]
    exact repPs_app r (repP_rep r n)
def aMul : Store → D → D → Option D := fun S x y => match x, y with
  | .dat (.int i), .dat (.int j) => if cMul i j = true then some (.dat (.int (i * j))) else none
  | .dat (.tup l), .dat (.int j) => if l ≠ [] ∧ 2 ≤ j ∧ j ≤ 1000 ∧ l.length ≤ 1000 then some (.dat (.tup (repP j.toNat l))) else none
  | x, .dat (.int j) => match listP S x with
    | some l => if j ≤ 1000000 ∧ 0 ≤ j ∧ l.length * j.toNat ≤ 100000 then some (.dat (.lst (repP j.toNat l))) else none
    | none => none
  | _, _ => none
theorem mul_ok : R2S K (rMulM K) aMul := by
  intro ι X S H x y v u d Q rel rx ry e k
  unfold aMul at e
  split at e
  · split at e
    · rename_i h
      cases e
      exact .inl ⟨_, _, rI_inv rx, rI_inv ry, cMul_ok h, k H _ Ext.refl rel rd_int⟩
    · cases e
  · split at e
    · rename_i h
      cases e
      obtain ⟨a, xs, rfl, f, g⟩ := rT_inv rx
      refine .inr (.inr ⟨a, _, xs, rfl, rI_inv ry, f.sq, fun z => h.1 ?_, h.2.1, h.2.2.1, by rw [repPs_len g]; exact h.2.2.2, fun p hp => new_tup rel (repP_rep g _) hp k⟩)
      subst z
      exact List.length_eq_zero_iff.mp (repPs_len g).symm
    · cases e
  · split at e
    · rename_i l e1
      split at e
      · rename_i h
        cases e
        obtain ⟨a, xs, rfl, f, g⟩ := listP_rep rel e1 rx
        exact .inr (.inl ⟨a, _, xs, rfl, rI_inv ry, f, by omega, by omega, small (by rw [repPs_len g]; exact h.2.2), fun p hp => new_lst rel (repP_rep g _) hp k⟩)
      · cases e
    · cases e
  · cases e
def aMod := iop (fun i j => dInt (i % j)) fun _ j => decide (0 < j)
theorem mod_ok : R2S K (rI (fun _ j => 0 < j) fun i j => .int (i % j)) aMod := iop_ok (fun _ _ h => of_decide_eq_true h) fun _ _ _ _ _ => rd_int
def aDiv := iop (fun i j => dInt (i / j)) fun _ j => decide (0 < j) && decide (j.natAbs.log2 < 9000)
theorem div_ok : R2S K (rI CDivW fun i j => .int (i / j)) aDiv := iop_ok (fun _ _ h => by
  rw [Bool.and_eq_true] at h
  exact ⟨of_decide_eq_true h.1, of_decide_eq_true h.2⟩) fun _ _ _ _ _ => rd_int
def aPow := iop (fun i j => dInt (i ^ j.toNat)) fun i j => decide (0 ≤ j) && decide (j ≤ 1000000) && decide (i.natAbs < 2 ^ 64)
theorem pow_ok : R2S K (rI CPow fun i j => .int (i ^ j.toNat)) aPow := iop_ok (fun _ _ h => by
  rw [Bool.and_eq_true, Bool.and_eq_true] at h
  exact ⟨of_decide_eq_true h.1.1, of_decide_eq_true h.1.2, of_decide_eq_true h.2⟩) fun _ _ _ _ _ => rd_int
def aLt := iop (fun i j => dBl (decide (i < j))) yes2
def aLe := iop (fun i j => dBl (decide (i ≤ j))) yes2
def aGt := iop (fun i j => dBl (decide (j < i))) yes2
def aGe := iop (fun i j => dBl (decide (j ≤ i))) yes2
theorem lt_ok : R2S K (rI0 fun i j => .bl (decide (i < j))) aLt := iop0_ok fun _ _ _ _ _ => rd_bl
theorem le_ok : R2S K (rI0 fun i j => .bl (decide (i ≤ j))) aLe := iop0_ok fun _ _ _ _ _ => rd_bl
theorem gt_ok : R2S K (rI0 fun i j => .bl (decide (j < i))) aGt := iop0_ok fun _ _ _ _ _ => rd_bl
theorem ge_ok : R2S K (rI0 fun i j => .bl (decide (j ≤ i))) aGe := iop0_ok fun _ _ _ _ _ => rd_bl
def aNeg : Store → D → Option D := fun _ x => match x with
  | .dat (.int i) => some (.dat (.int (-i)))
  | _ => none
theorem neg_ok : R1S K (rU fun i => .int (-i)) aNeg := by
  intro ι X S H x v d Q rel rx e k
  unfold aNeg at e
  split at e
  · cases e
    exact ⟨_, rI_inv rx, k H _ Ext.refl rel rd_int⟩
  · cases e
end
end M3
namespace M3
open PySem PySem.Spec PyProof.Rows L2
/-! ### equality of data -/
mutual
def toPy : P → PyData
  | .non => .none
  | .bl b => .bool b
  | .int i => .int i
  | .str s => .str s
  | .tup l => .tuple (toPys l)
  | .lst l => .list (toPys l)
  | _ => .none
def toPys : List P → List PyData
  | [] => []
  | p :: ps => toPy p :: toPys ps
end
mutual
def okD : Nat → P → Bool
  | 0, _ => false
  | _ + 1, .non => true
  | _ + 1, .bl _ => true
  | _ + 1, .int _ => true
  | _ + 1, .str s => PyData.strOk s
  | n + 1, .tup l => okDs n l
  | n + 1, .lst l => okDs n l
  | _ + 1, .dic _ => false
  | _ + 1, .ins _ _ => false
  | _ + 1, .con _ => false
  | _ + 1, .scr _ => false
def okDs : Nat → List P → Bool
  | _, [] => true
  | n, p :: ps => okD n p && okDs n ps
end
def eqP (p q : P) : Bool := PyData.eqv (toPy p) (toPy q)
mutual
theorem okD_lay : ∀ (n : Nat) (p : P), okD n p = true → (toPy p).canLay0 = true ∧ (toPy p).depth ≤ n
  | 0, _, h => by rw [okD] at h; cases h
  | n + 1, .non, _ => ⟨rfl, by rw [toPy, PyData.depth]; first | exact Nat.zero_le _ | omega⟩
  | n + 1, .bl _, _ => ⟨rfl, by rw [toPy, PyData.depth]; first | exact Nat.zero_le _ | omega⟩
  | n + 1, .int _, _ => ⟨rfl, by rw [toPy, PyData.depth]; first | exact Nat.zero_le _ | omega⟩
  | n + 1, .str _, h => ⟨by rw [okD] at h; exact h, by rw [toPy, PyData.depth]; first | exact Nat.zero_le _ | omega⟩
  | n + 1, .tup l, h => by
    rw [okD] at h
    obtain ⟨a, b⟩ := okDs_lay n l h
    rw [toPy]
    exact ⟨a, Nat.succ_le_succ b⟩
  | n + 1, .lst l, h => by
    rw [okD] at h
    obtain ⟨a, b⟩ := okDs_lay n l h
    rw [toPy]
    exact ⟨a, Nat.succ_le_succ b⟩
  | n + 1, .dic _, h => by rw [okD] at h; first | cases h | (intro; contradiction)
  | n + 1, .ins _ _, h => by rw [okD] at h; first | cases h | (intro; contradiction)
  | n + 1, .con _, h => by rw [okD] at h; first | cases h | (intro; contradiction)
  | n + 1, .scr _, h => by rw [okD] at h; first | cases h | (intro; contradiction)
theorem okDs_lay : ∀ (n : Nat) (p : List P), okDs n p = true → PyData.canLayAll0 (toPys p) = true ∧ PyData.depthAll (toPys p) ≤ n
  | n, [], _ => ⟨rfl, Nat.zero_le _⟩
  | n, p :: ps, h => by
    rw [okDs, Bool.and_eq_true] at h
    obtain ⟨a, b⟩ := okD_lay n p h.1
    obtain ⟨c, d⟩ := okDs_lay n ps h.2
    rw [toPys]
    exact ⟨Bool.and_eq_true_iff.mpr ⟨a, c⟩, Nat.max_le.mpr ⟨b, d⟩⟩
end
mutual
theorem okD_dp {K : PySem.W.Frag} {ι X : List Addr} {H : Hp} : ∀ (n : Nat) (p : P) (v : V), okD n p = true → RepP K ι X H p v → Dp K H v (toPy p)
  | 0, _, _, h, _ => by rw [okD] at h; cases h
  | n + 1, .non, _, _, r => by rw [RepP] at r; rw [r, toPy]; exact .non
  | n + 1, .bl _, _, _, r => by rw [RepP] at r; rw [r, toPy]; exact .bl _
  | n + 1, .int _, _, _, r => by rw [RepP] at r; rw [r, toPy]; exact .int _
  | n + 1, .str _, _, _, r => by rw [RepP] at r; rw [r, toPy]; exact .str _
  | n + 1, .tup l, v, h, r => by
    rw [okD] at h
    rw [RepP] at r
    obtain ⟨a, xs, e, f, g⟩ := r
    rw [e, toPy]
    exact .tup f.sq (okDs_dp n l xs h g)
  | n + 1, .lst l, v, h, r => by
    rw [okD] at h
    rw [RepP] at r
    obtain ⟨a, xs, e, _, _, f, g⟩ := r
    rw [e, toPy]
    exact .lst (SqL.of f) (okDs_dp n l xs h g)
  | n + 1, .dic _, _, h, _ => by rw [okD] at h; first | cases h | (intro; contradiction)
  | n + 1, .ins _ _, _, h, _ => by rw [okD] at h; first | cases h | (intro; contradiction)
  | n + 1, .con _, _, h, _ => by rw [okD] at h; first | cases h | (intro; contradiction)
  | n + 1, .scr _, _, h, _ => by rw [okD] at h; first | cases h | (intro; contradiction)
theorem okDs_dp {K : PySem.W.Frag} {ι X : List Addr} {H : Hp} : ∀ (n : Nat) (p : List P) (v : List V), okDs n p = true → RepPs K ι X H p v → DpAll K H v (toPys p)
  | n, [], v, _, r => by
    rw [RepPs] at r
    rw [r, toPys]
    exact .nil
  | n, p :: ps, v, h, r => by
    rw [okDs, Bool.and_eq_true] at h
    rw [RepPs] at r
    obtain ⟨y, ys, e, f, g⟩ := r
    rw [e, toPys]
    exact .cons (okD_dp n p y h.1 f) (okDs_dp n ps ys h.2 g)
end
/-- data, a list of data among the objects too -/
def datOf (S : Store) : D → Option P
  | .dat p => some p
  | .obj i => match S[i]? with
    | some (.lst l) => (datAll l).map .lst
    | _ => none
def eqD (S : Store) (x y : D) : Option Bool := match x, y with
  | .dat (.int i), .dat (.int j) => some (decide (i = j))
  | .dat (.str i), .dat (.str j) => some (decide (i = j))
  | .dat (.bl i), .dat (.bl j) => some (decide (i = j))
  | .dat .non, .dat .non => some true
  | .dat .non, .dat (.int _) => some false
  | .dat (.int _), .dat .non => some false
  | x, y => match datOf S x, datOf S y with
    | some p, some q => if okD 60 p = true ∧ okD 60 q = true then some (eqP p q) else none
    | _, _ => none
def aEq : Store → D → D → Option D := fun S x y => (eqD S x y).map dBl
def aNe : Store → D → D → Option D := fun S x y => (eqD S x y).map fun b => dBl (!b)
def rEqM (K : PySem.W.Frag) : R2 := fun x y H Q => rEq x y H Q ∨ rEqD K x y H Q
def rNeM (K : PySem.W.Frag) : R2 := fun x y H Q => rNe x y H Q ∨ rNeD K x y H Q
section
variable {K : PySem.W.Frag} {ι X : List Addr} {S : Store} {H : Hp}
theorem op_eqM {X : Cx} (h : X.K = K) (hu : X.A.units + 64 < cLine) : OpR X (compareOp .Eq) (rEqM K) := by
  subst h
  exact OpR.or op_eq (op_eqD hu)
theorem op_neM {X : Cx} (h : X.K = K) (hu : X.A.units + 64 < cLine) : OpR X (compareOp .NotEq) (rNeM K) := by
  subst h
  exact OpR.or op_ne (op_neD hu)
theorem datOf_dp {x : D} {p : P} {v : V} {n : Nat} (rel : Rel K ι X S H) (e : datOf S x = some p) (o : okD n p = true) (r : RepD K ι X H x v) : Dp K H v (toPy p) := by
  cases x with
  | dat q =>
    cases e
    exact okD_dp n _ v o r
  | obj i =>
    obtain ⟨a, ea, rfl⟩ := r
    unfold datOf at e
    simp only at e
    cases es : S[i]? with
    | none => rw [es] at e; cases e
    | some ob =>
      rw [es] at e
      cases ob with
      | ins C l => cases e
      | dic l => cases e
      | lst l =>
        cases q : datAll l with
        | none => simp only [q] at e; cases e
        | some ps =>
          simp only [q, Option.map_some] at e
          cases e
          obtain ⟨xs, f, g⟩ := rel.at_ i _ a es ea
          cases n with
          | zero => rw [okD] at o; cases o
          | succ n =>
            rw [okD] at o
            rw [toPy]
            exact .lst (SqL.of f) (okDs_dp n ps xs o (datAll_rep q g))
theorem eqD_cases {x y : D} {v u : V} {b : Bool} (rel : Rel K ι X S H) (rx : RepD K ι X H x v) (ry : RepD K ι X H y u) (e : eqD S x y = some b) :
    (scal v u = true ∧ decide (v = u) = b) ∨ ∃ d f, Dp K H v d ∧ Dp K H u f ∧ SeqAt.shaped d = true ∧ SeqAt.shaped f = true ∧ PyData.eqv d f = b := by
  unfold eqD at e
  split at e
  · cases e
    rw [rI_inv rx, rI_inv ry]
    exact .inl ⟨rfl, by simp⟩
  · cases e
    rw [rS_inv rx, rS_inv ry]
    exact .inl ⟨rfl, by simp⟩
  · cases e
    rw [rB_inv rx, rB_inv ry]
    exact .inl ⟨rfl, by simp⟩
  · cases e
    rw [rN_inv rx, rN_inv ry]
    exact .inl ⟨rfl, by simp⟩
  · cases e
    rw [rN_inv rx, rI_inv ry]
    exact .inl ⟨rfl, by simp⟩
  · cases e
    rw [rI_inv rx, rN_inv ry]
    exact .inl ⟨rfl, by simp⟩
  · split at e
    · rename_i p q e1 e2
      split at e
      · rename_i h
        cases e
        obtain ⟨l1, d1⟩ := okD_lay 60 p h.1
        obtain ⟨l2, d2⟩ := okD_lay 60 q h.2
        refine .inr ⟨_, _, datOf_dp rel e1 h.1 rx, datOf_dp rel e2 h.2 ry, ?_, ?_, rfl⟩
        · exact Bool.and_eq_true_iff.mpr ⟨l1, decide_eq_true (by omega)⟩
        · exact Bool.and_eq_true_iff.mpr ⟨l2, decide_eq_true (by omega)⟩
      · cases e
    · cases e
end
section
variable {K : PySem.W.Frag}
theorem eq_ok : R2S K (rEqM K) aEq := by
  intro ι X S H x y v u d Q rel rx ry e k
  unfold aEq at e
  cases q : eqD S x y with
  | none => rw [q] at e; cases e
  | some b =>
    rw [q] at e
    cases e
    rcases eqD_cases rel rx ry q with ⟨h1, h2⟩ | ⟨d, f, h1, h2, h3, h4, h5⟩
    · exact .inl ⟨h1, by rw [h2]; exact k H _ Ext.refl rel rd_bl⟩
    · exact .inr ⟨d, f, h1, h2, h3, h4, by rw [h5]; exact k H _ Ext.refl rel rd_bl⟩
theorem ne_ok : R2S K (rNeM K) aNe := by
  intro ι X S H x y v u d Q rel rx ry e k
  unfold aNe at e
  cases q : eqD S x y with
  | none => rw [q] at e; cases e
  | some b =>
    rw [q] at e
    cases e
    rcases eqD_cases rel rx ry q with ⟨h1, h2⟩ | ⟨d, f, h1, h2, h3, h4, h5⟩
    · exact .inl ⟨h1, by rw [h2]; exact k H _ Ext.refl rel rd_bl⟩
    · exact .inr ⟨d, f, h1, h2, h3, h4, by rw [h5]; exact k H _ Ext.refl rel rd_bl⟩
/-! ### is None, is True -/
def isN : D → Option Bool
  | .dat .non => some true
  | .dat (.con v) => some (decide (v = .non))
  | _ => some false
def aIsN : Store → D → D → Option D := fun _ x y => match y with
  | .dat .non => (isN x).map dBl
  | _ => none
def aNotN : Store → D → D → Option D := fun _ x y => match y with
  | .dat .non => (isN x).map fun b => dBl (!b)
  | _ => none
theorem isN_ok {ι X : List Addr} {H : Hp} {x : D} {v : V} {b : Bool} (r : RepD K ι X H x v) (e : isN x = some b) : decide (v = .non) = b := by
  cases x with
  | obj i =>
    obtain ⟨a, _, rfl⟩ := r
    cases e
    rfl
  | dat p =>
    have r : RepP K ι X H p v := r
    cases p <;> rw [RepP] at r
    · cases e; rw [r]; rfl
    · cases e; rw [r]; rfl
    · cases e; rw [r]; rfl
    · cases e; rw [r]; rfl
    · cases e; obtain ⟨a, xs, rfl, _⟩ := r; rfl
    · cases e; obtain ⟨a, xs, rfl, _⟩ := r; rfl
    · cases e; obtain ⟨a, xs, rfl, _⟩ := r; rfl
    · cases e; obtain ⟨a, dx, xs, rfl, _⟩ := r; rfl
    · cases e; rw [r]
    · cases e; obtain ⟨a, rfl, _⟩ := r; rfl
theorem isN_okR : R2S K (fun x y H Q => y = .non ∧ Q (.bl (decide (x = .non))) H) aIsN := by
  intro ι X S H x y v u d Q rel rx ry e k
  unfold aIsN at e
  split at e
  · cases q : isN x with
    | none => rw [q] at e; cases e
    | some b =>
      rw [q] at e
      cases e
      refine ⟨rN_inv ry, ?_⟩
      rw [isN_ok rx q]
      exact k H _ Ext.refl rel rd_bl
  · cases e
theorem notN_okR : R2S K (fun x y H Q => y = .non ∧ Q (.bl (!decide (x = .non))) H) aNotN := by
  intro ι X S H x y v u d Q rel rx ry e k
  unfold aNotN at e
  split at e
  · cases q : isN x with
    | none => rw [q] at e; cases e
    | some b =>
      rw [q] at e
      cases e
      refine ⟨rN_inv ry, ?_⟩
      rw [isN_ok rx q]
      exact k H _ Ext.refl rel rd_bl
  · cases e
/-! ### in -/
def flatP : P → Bool
  | .non => true
  | .bl _ => true
  | .int _ => true
  | .str _ => true
  | _ => false
/-- == of flat things -/
def eqF : P → P → Bool
  | .non, .non => true
  | .bl a, .bl b => a == b
  | .bl a, .int b => (if a then 1 else 0) == b
  | .int a, .bl b => a == (if b then 1 else 0)
  | .int a, .int b => a == b
  | .str a, .str b => a == b
  | _, _ => false
theorem flat_rep {ι X : List Addr} {H : Hp} {p : P} {v : V} (e : flatP p = true) (r : RepP K ι X H p v) : flatV v = true := by
  cases p <;> first | (rw [RepP] at r; rw [r]; rfl) | cases e
theorem eqF_rep {ι X : List Addr} {H : Hp} {p q : P} {v u : V} (e : flatP p = true) (f : flatP q = true) (r : RepP K ι X H p v) (s : RepP K ι X H q u) : eqV v u = eqF p q := by
  cases p <;> first | exact (Bool.false_ne_true e).elim | skip
  all_goals cases q <;> first | exact (Bool.false_ne_true f).elim | (rw [RepP] at r; rw [RepP] at s; rw [r, s]; rfl)
theorem flats_rep {ι X : List Addr} {H : Hp} : ∀ {ps : List P} {vs : List V}, ps.all flatP = true → RepPs K ι X H ps vs → vs.all flatV = true
  | [], vs, _, r => by rw [RepPs] at r; rw [r]; rfl
  | p :: ps, vs, e, r => by
    rw [RepPs] at r
    obtain ⟨y, ys, rfl, f, g⟩ := r
    rw [List.all_cons, Bool.and_eq_true] at e ⊢
    exact ⟨flat_rep e.1 f, flats_rep e.2 g⟩
def inP (x : P) (l : List P) : Bool := l.any fun y => eqF y x
theorem inP_rep {ι X : List Addr} {H : Hp} {x : P} {v : V} (ex : flatP x = true) (rx : RepP K ι X H x v) : ∀ {ps : List P} {vs : List V}, ps.all flatP = true → RepPs K ι X H ps vs → inV v vs = inP x ps
  | [], vs, _, r => by rw [RepPs] at r; rw [r]; rfl
  | p :: ps, vs, e, r => by
    rw [RepPs] at r
    obtain ⟨y, ys, rfl, f, g⟩ := r
    rw [List.all_cons, Bool.and_eq_true] at e
    have ih := inP_rep ex rx e.2 g
    unfold inV inP at ih ⊢
    rw [List.any_cons, List.any_cons, ih, eqF_rep e.1 ex f rx]
/-- a text of one sign -/
def oneSign (s : Str) : Option Nat := match s.cps.toList with
  | [c] => some c
  | _ => none
theorem oneSign_eq {s : Str} {c : Nat} (e : oneSign s = some c) : s = ⟨#[c]⟩ := by
  unfold oneSign at e
  split at e
  · rename_i q
    cases e
    obtain ⟨⟨l⟩⟩ := s
    have : l = [c] := q
    rw [this]
  · cases e
def inD (S : Store) (x y : D) : Option Bool := match x, y with
  | .dat (.str s), .dat (.str z) => (oneSign s).map fun c => decide (c ∈ z.cps.toList)
  | .dat p, y => match seqP S y with
    | some l => if flatP p = true ∧ l.all flatP = true then some (inP p l) else none
    | none => none
  | _, _ => none
def aIn : Store → D → D → Option D := fun S x y => (inD S x y).map dBl
def aNotIn : Store → D → D → Option D := fun S x y => (inD S x y).map fun b => dBl (!b)
def rInM (K : PySem.W.Frag) : R2 := fun x y H Q => rIn K false x y H Q ∨ (∃ (c : Nat) (z : Str), x = .str ⟨#[c]⟩ ∧ y = .str z ∧ Q (.bl (decide (c ∈ z.cps.toList))) H)
def rNotInM (K : PySem.W.Frag) : R2 := fun x y H Q => rIn K true x y H Q ∨ (∃ (c : Nat) (z : Str), x = .str ⟨#[c]⟩ ∧ y = .str z ∧ Q (.bl (!decide (c ∈ z.cps.toList))) H)
theorem op_inM {X : Cx} (h : X.K = K) : OpR X (compareOp .In) (rInM K) := by
  subst h
  exact OpR.or op_in_seq op_in_sign
theorem op_notInM {X : Cx} (h : X.K = K) : OpR X (compareOp .NotIn) (rNotInM K) := by
  subst h
  exact OpR.or op_notIn_seq op_notIn_sign
theorem in_cases {ι X : List Addr} {S : Store} {H : Hp} {x y : D} {v u : V} {b : Bool} (rel : Rel K ι X S H) (rx : RepD K ι X H x v) (ry : RepD K ι X H y u) (e : inD S x y = some b) :
    (∃ p xs, u = .ref p ∧ (SqL K H p xs ∨ SqT K H p xs) ∧ flatV v = true ∧ xs.all flatV = true ∧ inV v xs = b) ∨ ∃ (c : Nat) (z : Str), v = .str ⟨#[c]⟩ ∧ u = .str z ∧ decide (c ∈ z.cps.toList) = b := by
  unfold inD at e
  split at e
  · rename_i s z
    cases q : oneSign s with
    | none => rw [q] at e; cases e
    | some c =>
      rw [q] at e
      cases e
      exact .inr ⟨c, _, by rw [rS_inv rx, oneSign_eq q], rS_inv ry, rfl⟩
  · split at e
    · rename_i l e1
      split at e
      · rename_i h
        cases e
        obtain ⟨a, xs, rfl, f, g⟩ := seqP_rep rel e1 ry
        exact .inl ⟨a, xs, rfl, f, flat_rep h.1 rx, flats_rep h.2 g, inP_rep h.1 rx h.2 g⟩
      · cases e
    · cases e
  · cases e
theorem in_ok : R2S K (rInM K) aIn := by
  intro ι X S H x y v u d Q rel rx ry e k
  unfold aIn at e
  cases q : inD S x y with
  | none => rw [q] at e; cases e
  | some b =>
    rw [q] at e
    cases e
    rcases in_cases rel rx ry q with ⟨p, xs, h1, h2, h3, h4, h5⟩ | ⟨c, z, h1, h2, h3⟩
    · refine .inl ⟨p, xs, h1, h2, h3, h4, ?_⟩
      rw [if_neg Bool.false_ne_true, h5]
      exact k H _ Ext.refl rel rd_bl
    · exact .inr ⟨c, z, h1, h2, by rw [h3]; exact k H _ Ext.refl rel rd_bl⟩
theorem notIn_ok : R2S K (rNotInM K) aNotIn := by
  intro ι X S H x y v u d Q rel rx ry e k
  unfold aNotIn at e
  cases q : inD S x y with
  | none => rw [q] at e; cases e
  | some b =>
    rw [q] at e
    cases e
    rcases in_cases rel rx ry q with ⟨p, xs, h1, h2, h3, h4, h5⟩ | ⟨c, z, h1, h2, h3⟩
    · refine .inl ⟨p, xs, h1, h2, h3, h4, ?_⟩
      rw [if_pos rfl, h5]
      exact k H _ Ext.refl rel rd_bl
    · exact .inr ⟨c, z, h1, h2, by rw [h3]; exact k H _ Ext.refl rel rd_bl⟩
end
end M3
namespace PySem
open Sem (wp)
open AutoSeq1 (wpAny_loadPart')
theorem meets_enumerate_newT (l : Addr) (items : Array Value) (n : Nat) (dct : Option Addr) (sl : Array (Option Value)) :
    Meets (Builtin.«enumerate.__new__» ⟨[.type "enumerate", .ref l], []⟩) (fun _ R s => s.heap.get? l = some { cls := .type "tuple", dict := dct, data := .seq items n, slots := sl } ∧
      R (.ok (.ret (.ref (s.heap.push { cls := .type "tuple_iterator", data := .fields #[.ref l, .int 0 0] }).objs.size)))
        { s with heap := (s.heap.push { cls := .type "tuple_iterator", data := .fields #[.ref l, .int 0 0] }).push { cls := .type "enumerate", data := .fields #[.none, .bool false, .ref s.heap.objs.size, rawInt 0, .none, .none] } }) :=
  .of_wp fun prog w A R s h => by
    obtain ⟨hp, g, d, tk, os⟩ := s; obtain ⟨hl, h⟩ := h
    have hsub := sub_enumerate
    have hL : Heap.IsTuple (Shared.heap ⟨hp, g, d, tk, os⟩) l items := ⟨_, hl, rfl, n, rfl⟩
    wp_walk using wpAny_loadPart' hl
    refine wpAny_stack_any fun st => wpAny_pure ?_
    split
    · rename_i c _ _ _ _ _
      cases (c == Value.type "enumerate")
      · wp_walk using wpAny_loadPart' hl, wpAny_pyIter_tuple hL
        exact ⟨_, rfl, h⟩
      · wp_walk using wpAny_loadPart' hl, wpAny_pyIter_tuple hL
        exact ⟨_, rfl, h⟩
    · wp_walk using wpAny_loadPart' hl, wpAny_pyIter_tuple hL
      exact ⟨_, rfl, h⟩
section
variable {prog : Program} {w : World} {A : Around} {E : Value → Shared → Prop} {s : Shared}
theorem call_enumerate_tup {l : Addr} {items : Array Value} {Q : Value → Shared → Prop} (hL : s.heap.IsTuple l items)
    (h : ∀ h', IsEnum h' (s.heap.objs.size + 1) s.heap.objs.size 0 .none → h'.IsTupleIter s.heap.objs.size l 0 → h'.objs.size = s.heap.objs.size + 2 →
      (∀ b o, s.heap.get? b = some o → h'.get? b = some o) → Q (.ref (s.heap.objs.size + 1)) { s with heap := h' }) :
    wpAny (model prog w) A (call (.type "enumerate") [.ref l]) Q E s := by
  obtain ⟨⟨c, dct, dt, sl⟩, hl, hc, n, hd⟩ := hL
  replace hc : c = .type "tuple" := hc
  replace hd : dt = .seq items n := hd
  subst hc hd
  refine callType_new F.called_enumerate (by decide) (F.typeCall_enumerate_1 _) (F.newCall_enumerate_1 _) (fun obj => F.args_object_init_2 obj _) F.entry_enumerate_new
    (meets_enumerate_newT l items n dct sl) ⟨hl, ?_⟩
  have hz : (s.heap.push { cls := .type "tuple_iterator", data := .fields #[.ref l, .int 0 0] }).objs.size = s.heap.objs.size + 1 := Heap.size_push ..
  show _ ∧ _
  rw [hz]
  have he : IsEnum ((s.heap.push { cls := .type "tuple_iterator", data := .fields #[.ref l, .int 0 0] }).push
      { cls := .type "enumerate", data := .fields #[.none, .bool false, .ref s.heap.objs.size, rawInt 0, .none, .none] }) (s.heap.objs.size + 1) s.heap.objs.size 0 .none := by
    have := Heap.get?_push_size (s.heap.push { cls := .type "tuple_iterator", data := .fields #[.ref l, .int 0 0] })
      (o := { cls := .type "enumerate", data := .fields #[.none, .bool false, .ref s.heap.objs.size, rawInt 0, .none, .none] }) rfl
    rw [hz] at this; exact this
  refine ⟨⟨_, he, rfl⟩, h _ he ⟨_, Heap.get?_push_of_some _ (Heap.get?_push_size _ rfl), rfl, rfl⟩ (by rw [Heap.size_push, hz]) fun b o x => Heap.get?_push_of_some _ (Heap.get?_push_of_some _ x)⟩
theorem enum_endT {e it l : Addr} {i : Nat} {items : Array Value} {old : Value} {Q : Option Value → Shared → Prop} (hh : A.handled = none)
    (he : IsEnum s.heap e it i old) (hit : s.heap.IsTupleIter it l i) (hl : s.heap.IsTuple l items) (hx : items[i]? = none)
    (hQ : ∀ h', Heap.ExtBut it s.heap h' → Q none { s with heap := h' }) : wpAny (model prog w) A (pyNext (.ref e)) Q E s := by
  have hT : s.TypeIs (.ref e) "enumerate" := ⟨_, he, rfl⟩
  unfold pyNext
  refine wpAny_bind (wpAny_attempt (wpAny_callSpecial?_slot (name := Str.ofString "__next__") hT F.slot_enumerate_next
    (wpAny_call_entry F.slot_enumerate_next hT F.entry_enumerate_next ?_ (F.args_enumerate_next_1 _))))
  show wpAny _ _ (field (.ref e) 2 >>= _) _ _ _
  refine wpAny_bind (wpAny_field he rfl (x := .ref it) rfl ?_)
  refine wpAny_bind (RZ.nextOf_tuple_end hh hit hl hx fun h' x he' hx' => ?_)
  obtain ⟨o, ho, hc⟩ := hx'
  refine wpAny_bind (wpAny_isInstance (T := "StopIteration") (b := true) ⟨o, ho, hc⟩ isSubtype_stop ?_)
  exact wpAny_pure (hQ _ he')
end
end PySem
namespace W2
open PySem PySem.Spec PyProof.Rows L2
/-- the tuple at a as it stands at each turn, each item in a new pair -/
def IteT (K : PySem.W.Frag) (a : Addr) : It :=
  ⟨fun i H => ∃ (xs : List V) (x : V), SqT K H a xs ∧ xs[i]? = some x, fun i H v H' => ∃ T x, v = .ref T ∧ H T = none ∧ H' = upd H T (.tup [.int (i : Nat), x]) ∧ ∀ xs, SqT K H a xs → xs[i]? = some x, fun i H => ∃ xs : List V, SqT K H a xs ∧ xs.length ≤ i⟩
theorem turn_enumT {P : Program} {w : World} {K : PySem.W.Frag} {elts : List Expr} {kk : Nat} {tpos : Pos} (a e it : Addr) (hia : a ≠ it) :
    Turn P w K (.Tuple elts kk tpos) (IteT K a) [e, it] e (fun i h => (∃ old, IsEnum h e it ((i : Nat) : Int) old) ∧ h.IsTupleIter it a i ∧ e ≠ it ∧ e ≠ a) where
  mem := by simp
  obj := fun i h st b hb => by
    obtain ⟨⟨old, he⟩, ⟨o, ho, hc, hd⟩, _⟩ := st
    have e' : b = e ∨ b = it := by simpa using hb
    rcases e' with z | z
    · rw [z]; exact ⟨_, he, fun v q => nomatch q⟩
    · rw [z]; exact ⟨o, ho, fun v q => by rw [hd] at q; cases q⟩
  keep := fun i h h' st k => let ⟨⟨old, he⟩, hi, hne⟩ := st; ⟨⟨old, k e (by simp) _ he⟩, hi.at fun o q => k it (by simp) o q, hne⟩
  item := by
    intro X hP hw hK hc i pins s σ H E I hf st hg
    subst hP hw hK
    obtain ⟨⟨old, he⟩, hit, hne, hea⟩ := st
    obtain ⟨xs, x, hq, hx⟩ := hg
    obtain ⟨its, rv, p, hz⟩ := I.tuple hq
    obtain ⟨u, hu, ru⟩ := rv.get hx
    have hel : e < s.heap.objs.size := Heap.lt_size he
    have hil : it < s.heap.objs.size := by obtain ⟨_, q, _⟩ := hit; exact Heap.lt_size q
    have hi : i < its.toArray.size := by
      have := (List.getElem?_eq_some_iff.mp hu).1
      simpa using this
    refine wpAny_pyNext_enum_itemD (Draws.tuple (prog := X.prog) (w := X.w) (A := X.A.in1) (show X.A.in1.handled = none from I.ok.hd hc) it a hia its.toArray) he ⟨hit, p⟩ hi hne (by simp [hne, hea]) fun u' h' tk hP ho hit' hT hsz hk => ?_
    have eu : u' = u := by
      have h1 : its.toArray[i]? = some u := by simpa using hu
      rw [h1] at hP
      exact (Option.some.inj hP).symm
    subst eu
    refine ⟨_, rfl, wpAny_letOwnedTupleGo_enum (s := { s with heap := h', toks := tk + 1 }) ho fun h'' he' sb => ?_⟩
    have hT2 : h''.get? s.heap.objs.size = some { cls := .type "tuple", data := .seq #[.int i tk, u'] } := (sb.2 _ (Nat.ne_of_gt hel)).trans hT
    have new : ObjOk X.prog X.w (upd H s.heap.objs.size (.tup [.int (i : Nat), x])) h'' s.heap.objs.size (.tup [.int (i : Nat), x]) :=
      ⟨by show 2 ≤ sizeLine; decide, [.int i tk, u'], .cons ⟨_, rfl⟩ (.cons ru .nil), ⟨_, hT2, rfl, _, rfl⟩⟩
    have I1 : Inv X pins σ (upd H s.heap.objs.size (.tup [.int (i : Nat), x])) { s with heap := h'', toks := tk + 1 } :=
      I.turnedNew (ch := [e, it]) (fun b ob hb q => (sb.2 b (fun z => hb (by simp [z]))).trans (hk b ob (fun z => hb (by simp [z])) (fun z => hb (by simp [z])) q)) hf (Nat.le_refl _) new
    refine ⟨.ref s.heap.objs.size, _, I1, rfl, ⟨_, x, rfl, I.hok.fresh (Nat.le_refl _), rfl, fun ys hy => by rw [I.tuple_inj hy hq]; exact hx⟩, ⟨⟨u', ?_⟩, hit'.1.at fun o q => (sb.2 it (Ne.symm hne)).trans q, hne, hea⟩, fun b hb => ?_⟩
    · have e1 : ((i + 1 : Nat) : Int) = (i : Int) + 1 := by omega
      rw [e1]; exact he'
    · have hb' : b < s.heap.objs.size := by
        have e' : b = e ∨ b = it := by simpa using hb
        rcases e' with z | z
        · rw [z]; exact hel
        · rw [z]; exact hil
      rw [upd_ne (Nat.ne_of_lt hb')]
      exact (hf b hb).1
  done := by
    intro X hP hw hK hc i pins s σ H E I hf st hg
    subst hP hw hK
    obtain ⟨⟨old, he⟩, hit, hne, hea⟩ := st
    obtain ⟨xs, hq, hx⟩ := hg
    obtain ⟨its, rv, p, hz⟩ := I.tuple hq
    obtain ⟨f0, f1, f2, f3, f4, f5⟩ := hf it (by simp)
    have hl := rv.length
    exact enum_endT (I.ok.hd hc) he hit p (by simp; omega) fun h' eb => ⟨rfl, I.turned (t' := s.toks) (fun b o hb q => eb b o hb q) f0 f1 f3 f4 f5⟩
  self := fun A i s Q E st h => let ⟨⟨_, he⟩, _⟩ := st; wpAny_pyIter_enum he h
def iEnumA (K : PySem.W.Frag) (ta : TA) : TI := fun σ H R => ta σ H fun vs H1 => ∃ a xs, vs = [.ref a] ∧ ((SqL K H1 a xs ∧ R (Ite K a) H1) ∨ (SqT K H1 a xs ∧ R (IteT K a) H1))
theorem pi_enumA {X : Cx} {e : Expr} {ta : TA} {p pos tpos : Pos} {elts : List Expr} {kk : Nat} (hg : Gl X "enumerate") (hm : X.mg "enumerate" = none) (ha : PA X [e] ta) (hs : starEach [e] X.env = [(false, eval e X.env)] := by rfl) :
    PI X (.Tuple elts kk tpos) (.Call (.Name "enumerate" p) [e] [] pos) (iEnumA X.K ta) := by
  refine ⟨fun pins s σ H R I h => ?_⟩
  refine Call_ (ld_blt I hg hm boot_enumerate (PyProof.Rows.callWith_type1 (thn (ha.run pos pins s σ H _ I h) fun us s1 ⟨vs, H1, I1, r1, q1⟩ => ?_) hs rfl))
  obtain ⟨a, xs, ex, hq⟩ := q1
  subst ex
  cases r1 with
  | cons r rr =>
    cases rr
    cases r
    have fp : ∀ b, b ∈ [s1.heap.objs.size + 1, s1.heap.objs.size] → FpOk X pins H1 b := fun b hb => by
      have e' : b = s1.heap.objs.size + 1 ∨ b = s1.heap.objs.size := by simpa using hb
      have hle : s1.heap.objs.size ≤ b := by
        rcases e' with z | z
        · rw [z]; exact Nat.le_add_right _ _
        · rw [z]; exact Nat.le_refl _
      exact I1.fpOk hle (I1.hok.fresh hle)
    rcases hq with ⟨hq, q⟩ | ⟨hq, q⟩
    · obtain ⟨its, rv, p', hz⟩ := I1.list hq
      refine call_enumerate_list p'.isList fun h' he hit hsz hk => wpAny_pyIter_enum he ?_
      have I2 : Inv X pins σ H1 { s1 with heap := h' } := I1.kept (t' := s1.toks) hk
      exact ⟨s1.heap.objs.size + 1, [s1.heap.objs.size + 1, s1.heap.objs.size], _, _, H1, rfl, I2, turn_enum a (s1.heap.objs.size + 1) s1.heap.objs.size, ⟨⟨.none, he⟩, hit, Nat.succ_ne_self _⟩, fp, q⟩
    · obtain ⟨its, rv, p', hz⟩ := I1.tuple hq
      have hal : a < s1.heap.objs.size := by obtain ⟨o, ho, _⟩ := id p'; exact Heap.lt_size ho
      refine call_enumerate_tup (show s1.heap.IsTuple a its.toArray from p') fun h' he hit hsz hk => wpAny_pyIter_enum he ?_
      have I2 : Inv X pins σ H1 { s1 with heap := h' } := I1.kept (t' := s1.toks) hk
      exact ⟨s1.heap.objs.size + 1, [s1.heap.objs.size + 1, s1.heap.objs.size], _, _, H1, rfl, I2, turn_enumT a (s1.heap.objs.size + 1) s1.heap.objs.size (Nat.ne_of_lt hal), ⟨⟨.none, he⟩, hit, Nat.succ_ne_self _, Nat.ne_of_gt (Nat.lt_succ_of_lt hal)⟩, fp, q⟩
theorem walk_enumT {K : PySem.W.Frag} {a : Addr} {xs : List V} : Walk (IteT K a) xs.length (fun H => SqT K H a xs) (YPair (fun i => some (.int (i : Nat))) (fun i => xs[i]?)) := by
  refine ⟨fun i _ hi q => ⟨xs, xs[i], q, by simp [hi]⟩, fun _ q => ⟨xs, q, Nat.le_refl _⟩, fun i H v H' _ q y => ?_⟩
  obtain ⟨T, x, h1, h2, h3, h4⟩ := y
  exact ⟨T, .int (i : Nat), x, h1, h2, h3, rfl, h4 xs q⟩
theorem walk_zipT {K : PySem.W.Frag} {a b : Addr} {xs ys : List V} {n : Nat} (hn : n = min xs.length ys.length) : Walk (RZ.ItzT K a b) n (fun H => SqT K H a xs ∧ SqT K H b ys) (YPair (fun i => xs[i]?) (fun i => ys[i]?)) := by
  subst hn
  refine ⟨fun i _ hi q => ?_, fun _ q => ⟨xs, ys, q.1, q.2, by omega⟩, fun i H v H' _ q y => ?_⟩
  · have h1 : i < xs.length := by omega
    have h2 : i < ys.length := by omega
    exact ⟨xs, ys, xs[i], ys[i], q.1, q.2, by simp [h1], by simp [h2]⟩
  · obtain ⟨T, x, z, h1, h2, h3, h4, h5⟩ := y
    exact ⟨T, x, z, h1, h2, h3, h4 xs q.1, h5 ys q.2⟩
/-! ### xs[i], by values -/
theorem get_listK {X : Cx} {K : PySem.W.Frag} (h : X.K = K) : PGet X (fun x y H Q => ∃ (p : Addr) (xs : List V) (i : Nat) (v : V), x = .ref p ∧ y = .int (i : Int) ∧ SqL K H p xs ∧ xs[i]? = some v ∧ Q v H) := by
  subst h
  intro pins s σ H x y v u Q I rx ry h
  obtain ⟨p, xs, i, z, rfl, rfl, hq, he, q⟩ := h
  cases rx
  obtain ⟨t, rfl⟩ := ry
  obtain ⟨its, r, pl, hz⟩ := I.list hq
  obtain ⟨w, ew, rw'⟩ := r.get he
  have hl := (List.getElem?_eq_some_iff.mp ew).1
  have hrl := r.length
  have hn := line63
  exact wpAny_getItem_list pl.isList (by omega) (by omega) (by simpa using ew) ⟨z, H, I, rw', q⟩
/-! ### a dict of the top: text keys, any text asked for -/
/-- the written dict at d: its pairs, each value by what is read of it -/
structure KD (K : PySem.W.Frag) (w : World) (d : Addr) (kvs : List (Str × V)) : Prop where
  ex : ∃ es n, KDict K w d es n
  hit : ∀ z v, kvs.lookup z = some v → ∃ u, PySem.W.nsIn K d z = some (some u) ∧ RelV v u
  miss : ∀ z, kvs.lookup z = none → PySem.W.nsIn K d z = some none
theorem op_notInKD {X : Cx} {d : Addr} {kvs : List (Str × V)} (D : KD X.K X.w d kvs) : OpR X (compareOp .NotIn) (fun x y H Q => ∃ z : Str, x = .str z ∧ y = .ref d ∧ Q (.bl (!(kvs.lookup z).isSome)) H) := by
  obtain ⟨es, n, KDc⟩ := D.ex
  intro pins s σ H x y v u Q I rx ry h
  obtain ⟨z, hx, hy, q⟩ := h
  refine op_notIn_kd KDc pins s σ H x y v u Q I rx ry ?_
  cases e : kvs.lookup z with
  | none =>
    rw [e] at q
    exact ⟨z, none, hx, hy, D.miss z e, q⟩
  | some v0 =>
    rw [e] at q
    obtain ⟨u0, e2, _⟩ := D.hit z v0 e
    exact ⟨z, some u0, hx, hy, e2, q⟩
theorem ix_KD {X : Cx} {d : Addr} {kvs : List (Str × V)} (D : KD X.K X.w d kvs) : IxR X (fun x y H Q => ∃ (z : Str) (v : V), x = .ref d ∧ y = .str z ∧ kvs.lookup z = some v ∧ Q v H) := by
  obtain ⟨es, n, KDc⟩ := D.ex
  intro value slice pins s σ H x y v u Q I rx ry h hs
  obtain ⟨z, v0, hx, hy, e, q⟩ := h
  obtain ⟨u0, e2, r⟩ := D.hit z v0 e
  exact ix_kdict value slice pins s σ H x y v u Q I rx ry ⟨d, z, v0, hx, hy, ⟨es, n, u0, KDc.at_, KDc.lit, e2, r⟩, q⟩ hs
end W2
namespace M3
open PySem PySem.Spec PyProof.Rows L2
/-! ### what is walked -/
def iM (K : PySem.W.Frag) (te : TE) : TI := fun σ H R => te σ H fun x H1 => (∃ a, x = .ref a ∧ (∃ xs, SqL K H1 a xs) ∧ R (Itl K a) H1) ∨ (∃ a, x = .ref a ∧ (∃ xs, SqT K H1 a xs) ∧ R (Itt K a) H1) ∨ ∃ z, x = .str z ∧ R (Its z) H1
theorem pi_M {X : Cx} {K : PySem.W.Frag} {tg e : Expr} {te : TE} (hK : X.K = K) (he : PE X e te) : PI X tg e (iM K te) := by
  subst hK
  refine ⟨fun pins s σ H R I h => ?_⟩
  refine thn (he.run pins s σ H _ I h) fun v s1 ⟨x, H1, I1, r1, q1⟩ => ?_
  rcases q1 with ⟨a, e, ⟨xs, hq⟩, q⟩ | ⟨a, e, ⟨xs, hq⟩, q⟩ | ⟨z, e, q⟩
  · subst e
    cases r1
    obtain ⟨its, rv, p, hz⟩ := I1.list hq
    refine wpAny_pyIter_list p.isList ?_
    refine ⟨s1.heap.objs.size, [s1.heap.objs.size], _, _, H1, rfl, I1.kept (t' := s1.toks) fun b o e => Heap.get?_push_of_some _ e, turn_list a _, ⟨_, Heap.get?_push_size _ rfl, rfl, rfl⟩, fun b hb => ?_, q⟩
    have e : b = s1.heap.objs.size := by simpa using hb
    subst e
    exact I1.fpOk (Nat.le_refl _) (I1.hok.fresh (Nat.le_refl _))
  · subst e
    cases r1
    obtain ⟨its, rv, p, hz⟩ := I1.tuple hq
    refine wpAny_pyIter_tuple (show s1.heap.IsTuple a its.toArray from p) ?_
    refine ⟨s1.heap.objs.size, [s1.heap.objs.size], _, _, H1, rfl, I1.kept (t' := s1.toks) fun b o e => Heap.get?_push_of_some _ e, turn_tuple a _, ⟨_, Heap.get?_push_size _ rfl, rfl, rfl⟩, fun b hb => ?_, q⟩
    have e : b = s1.heap.objs.size := by simpa using hb
    subst e
    exact I1.fpOk (Nat.le_refl _) (I1.hok.fresh (Nat.le_refl _))
  · subst e
    obtain ⟨t, rfl⟩ := r1
    cases ha : z.cps.all (· < 128)
    · exact wpAny_pyIter_wide ha (pi_one (tk := s1.toks) I1 _ (turn_str _ z t "str_iterator" (.inr rfl)) ⟨_, Heap.get?_push_size _ rfl, rfl, rfl⟩ q)
    · exact wpAny_pyIter_ascii ha (pi_one (tk := s1.toks) I1 _ (turn_str _ z t "str_ascii_iterator" (.inl rfl)) ⟨_, Heap.get?_push_size _ rfl, rfl, rfl⟩ q)
/-- the signs of a text -/
def signs (z : Str) : List P := z.cps.toList.map fun c => .str ⟨#[c]⟩
def wkOf (S : Store) : D → Option Wk
  | .obj i => match S[i]? with
    | some (.lst _) => some (.ob i)
    | _ => none
  | .dat (.tup l) => some (.items (l.map .dat))
  | .dat (.lst l) => some (.items (l.map .dat))
  | .dat (.scr l) => some (.items (l.map fun i => .dat (.int i)))
  | .dat (.str z) => some (.items ((signs z).map .dat))
  | _ => none
def mWalk (a : DE) : DI := fun δ S => (a δ S).bind fun d S1 => oR (wkOf S1 d) S1
section
variable {K : PySem.W.Frag} {W : L2.St → WK}
theorem repPs_at {ι X : List Addr} {H : Hp} : ∀ {l : List P} {xs : List V} {i : Nat} {p : P}, RepPs K ι X H l xs → l[i]? = some p → ∃ x, xs[i]? = some x ∧ RepP K ι X H p x := by
  intro l xs i p r e
  obtain ⟨x, ex, rx⟩ := repDs_at (repDs_dat r) (d := .dat p) (i := i) (by rw [List.getElem?_map, e]; rfl)
  exact ⟨x, ex, rx⟩
theorem itOk_lst {ι X : List Addr} {H : Hp} {a : Addr} {xs : List V} {l : List D} (h : ∀ ι' X' H', Out1 ι X H ι' X' H' → H' a = some (.lst xs) ∧ RepDs K ι' X' H' l xs) : ItOk K (Itl K a) l ι X H := by
  intro ι' X' H' x
  obtain ⟨e, r⟩ := h ι' X' H' x
  have hl := repDs_len r
  refine ⟨fun i hi => ?_, ⟨xs, SqL.of e, by omega⟩, fun i x H'' d S y ed rel => ?_⟩
  · obtain ⟨v, ev, _⟩ := repDs_at r (List.getElem?_eq_getElem hi)
    exact ⟨xs, v, SqL.of e, ev⟩
  · obtain ⟨rfl, y⟩ := y
    obtain ⟨v, ev, rv⟩ := repDs_at r ed
    have := y xs (SqL.of e)
    rw [ev] at this
    cases this
    exact ⟨rel, Ext.refl, rv⟩
theorem itOk_sqL {ι X : List Addr} {H : Hp} {a : Addr} {xs : List V} {l : List D} (h : ∀ ι' X' H', Out1 ι X H ι' X' H' → SqL K H' a xs ∧ RepDs K ι' X' H' l xs) : ItOk K (Itl K a) l ι X H := by
  intro ι' X' H' x
  obtain ⟨e, r⟩ := h ι' X' H' x
  have hl := repDs_len r
  refine ⟨fun i hi => ?_, ⟨xs, e, by omega⟩, fun i x H'' d S y ed rel => ?_⟩
  · obtain ⟨v, ev, _⟩ := repDs_at r (List.getElem?_eq_getElem hi)
    exact ⟨xs, v, e, ev⟩
  · obtain ⟨rfl, y⟩ := y
    obtain ⟨v, ev, rv⟩ := repDs_at r ed
    have := y xs e
    rw [ev] at this
    cases this
    exact ⟨rel, Ext.refl, rv⟩
theorem itOk_tup {ι X : List Addr} {H : Hp} {a : Addr} {xs : List V} {l : List D} (h : ∀ ι' X' H', Out1 ι X H ι' X' H' → SqT K H' a xs ∧ RepDs K ι' X' H' l xs) : ItOk K (Itt K a) l ι X H := by
  intro ι' X' H' x
  obtain ⟨e, r⟩ := h ι' X' H' x
  have hl := repDs_len r
  refine ⟨fun i hi => ?_, ⟨xs, e, by omega⟩, fun i x H'' d S y ed rel => ?_⟩
  · obtain ⟨v, ev, _⟩ := repDs_at r (List.getElem?_eq_getElem hi)
    exact ⟨xs, v, e, ev⟩
  · obtain ⟨rfl, y⟩ := y
    obtain ⟨v, ev, rv⟩ := repDs_at r ed
    have := y xs e
    rw [ev] at this
    cases this
    exact ⟨rel, Ext.refl, rv⟩
theorem repDs_signs {ι X : List Addr} {H : Hp} : ∀ l : List Nat, RepDs K ι X H ((l.map fun c => P.str ⟨#[c]⟩).map .dat) (l.map fun c => V.str ⟨#[c]⟩)
  | [] => rfl
  | c :: l => ⟨_, _, rfl, rd_str, repDs_signs l⟩
theorem itOk_str {ι X : List Addr} {H : Hp} {z : Str} : ItOk K (Its z) ((signs z).map .dat) ι X H := by
  intro ι' X' H' x
  have hl : ((signs z).map D.dat).length = z.cps.size := by simp [signs]
  refine ⟨fun i hi => by show i < z.cps.size; omega, by show z.cps.size ≤ _; omega, fun i x H'' d S y ed rel => ?_⟩
  obtain ⟨rfl, c, ec, rfl⟩ := y
  refine ⟨rel, Ext.refl, ?_⟩
  unfold signs at ed
  rw [List.getElem?_map, List.getElem?_map, Array.getElem?_toList, ec] at ed
  cases ed
  exact rd_str
theorem itOk_rng {ι X : List Addr} {H : Hp} {lo : Int} {n : Nat} : ItOk K (Itr lo n) ((List.range n).map fun (i : Nat) => .dat (.int (lo + i))) ι X H := by
  intro ι' X' H' x
  have hl : ((List.range n).map fun (i : Nat) => (D.dat (.int (lo + i)))).length = n := by simp
  refine ⟨fun i hi => by show i < n; omega, by show n ≤ _; omega, fun i x H'' d S y ed rel => ?_⟩
  obtain ⟨rfl, rfl⟩ := y
  refine ⟨rel, Ext.refl, ?_⟩
  rw [List.getElem?_map] at ed
  cases q : (List.range n)[i]? with
  | none => rw [q] at ed; cases ed
  | some j =>
    rw [q] at ed
    cases ed
    have : j = i := by
      obtain ⟨h1, h2⟩ := List.getElem?_eq_some_iff.mp q
      rw [List.getElem_range] at h2
      exact h2.symm
    subst this
    exact rd_int
theorem si_walk {te : TE} {a : DE} (ha : SE K W te a) : SI K W (iM K te) (mWalk a) := by
  intro ι X S H σ δ Q rel re h
  refine ha ι X S H σ δ _ rel re ?_
  unfold mWalk at h
  cases e : a δ S with
  | fail => rw [e] at h; exact h
  | exc C x S1 => rw [e] at h; exact h
  | ok d S1 =>
    rw [e, R.bind_ok] at h
    intro ι1 H1 v x1 rel1 rv
    cases d with
    | obj o =>
      obtain ⟨b, eb, rfl⟩ := rv
      obtain ⟨ob, eo, ro⟩ := rel1.obj eb
      unfold wkOf at h
      simp only [eo] at h
      cases ob with
      | lst l =>
        obtain ⟨xs, f, g⟩ := ro
        exact .inl ⟨b, rfl, ⟨xs, SqL.of f⟩, h ι1 H1 b x1 rel1 eb⟩
      | ins C l => exact h.elim
      | dic l => exact h.elim
    | dat p =>
      cases p with
      | tup l =>
        obtain ⟨b, xs, rfl, f, g⟩ := rT_inv rv
        exact .inr (.inl ⟨b, rfl, ⟨xs, f.sq⟩, h ι1 H1 _ x1 rel1 (itOk_tup fun ι' X' H' x => ⟨(f.out x.p).sq, repDs_dat (RepPs.out x.p g)⟩)⟩)
      | lst l =>
        obtain ⟨b, xs, rfl, n, m, f, g⟩ := rL_inv rv
        exact .inl ⟨b, rfl, ⟨xs, SqL.of f⟩, h ι1 H1 _ x1 rel1 (itOk_lst fun ι' X' H' x => ⟨(x.ok b _ n m f).1, repDs_dat (RepPs.out x.p g)⟩)⟩
      | scr l =>
        have rv : RepP K ι1 X H1 (.scr l) v := rv
        rw [RepP] at rv
        obtain ⟨b, rfl, f⟩ := rv
        exact .inl ⟨b, rfl, ⟨_, f.sq⟩, h ι1 H1 _ x1 rel1 (itOk_sqL fun ι' X' H' x => ⟨(f.out x.p).sq, repDs_ints l⟩)⟩
      | str z =>
        rw [rS_inv rv]
        exact .inr (.inr ⟨z, rfl, h ι1 H1 _ x1 rel1 itOk_str⟩)
      | _ => exact h.elim
/-- range -/
def rngD (lo : Int) (n : Nat) : List D := (List.range n).map fun (i : Nat) => .dat (.int (lo + i))
def mRng1 (a : DA) : DI := fun δ S => (a δ S).bind fun ds S1 => match ds with
  | [.dat (.int j)] => if -1000000000 ≤ j ∧ j ≤ 1000000000 then .ok (.items (rngD 0 j.toNat)) S1 else .fail
  | _ => .fail
def mRng2 (a : DA) : DI := fun δ S => (a δ S).bind fun ds S1 => match ds with
  | [.dat (.int i), .dat (.int j)] => if (-1000000000 ≤ i ∧ i ≤ 1000000000) ∧ -1000000000 ≤ j ∧ j ≤ 1000000000 then .ok (.items (rngD i (j - i).toNat)) S1 else .fail
  | _ => .fail
theorem si_rng1 {ta : TA} {a : DA} (ha : SA K W ta a) : SI K W (iRng1 ta) (mRng1 a) := by
  intro ι X S H σ δ Q rel re h
  refine ha ι X S H σ δ _ rel re ?_
  unfold mRng1 at h
  cases e : a δ S with
  | fail => rw [e] at h; exact h
  | exc C x S1 => rw [e] at h; exact h
  | ok ds S1 =>
    rw [e, R.bind_ok] at h
    intro ι1 H1 vs x1 rel1 rv
    split at h
    · rename_i j
      split at h
      · rename_i hj
        obtain ⟨y, ys, rfl, r1, r2⟩ := rv
        rw [show ys = [] from r2, rI_inv r1]
        exact ⟨j, rfl, by omega, by omega, h ι1 H1 _ x1 rel1 itOk_rng⟩
      · exact h.elim
    · exact h.elim
theorem si_rng2 {ta : TA} {a : DA} (ha : SA K W ta a) : SI K W (iRng2 ta) (mRng2 a) := by
  intro ι X S H σ δ Q rel re h
  refine ha ι X S H σ δ _ rel re ?_
  unfold mRng2 at h
  cases e : a δ S with
  | fail => rw [e] at h; exact h
  | exc C x S1 => rw [e] at h; exact h
  | ok ds S1 =>
    rw [e, R.bind_ok] at h
    intro ι1 H1 vs x1 rel1 rv
    split at h
    · rename_i i j
      split at h
      · rename_i hj
        obtain ⟨y, ys, rfl, r1, z, zs, rfl, r2, r3⟩ := rv
        rw [show zs = [] from r3, rI_inv r1, rI_inv r2]
        exact ⟨i, j, rfl, by omega, h ι1 H1 _ x1 rel1 itOk_rng⟩
      · exact h.elim
    · exact h.elim
/-- enumerate, zip: new pairs -/
theorem itOk_pair {ι X : List Addr} {H : Hp} {J : It} {ps qs : List P}
    (h : ∀ ι' X' H', Out1 ι X H ι' X' H' → (∀ i, i < (ps.zip qs).length → J.go i H') ∧ J.stop (ps.zip qs).length H' ∧ (∀ i v H'', J.yld i H' v H'' → ∃ T x y, v = .ref T ∧ H' T = none ∧ H'' = upd H' T (.tup [x, y]) ∧ (∀ p, ps[i]? = some p → RepP K ι' X' H' p x) ∧ ∀ q, qs[i]? = some q → RepP K ι' X' H' q y)) :
    ItOk K J ((ps.zip qs).map fun z => .dat (.tup [z.1, z.2])) ι X H := by
  intro ι' X' H' x
  obtain ⟨h1, h2, h3⟩ := h ι' X' H' x
  have hz : ((ps.zip qs).map fun z => D.dat (.tup [z.1, z.2])).length = (ps.zip qs).length := List.length_map _
  refine ⟨fun i hi => h1 i (by omega), by rw [hz]; exact h2, fun i v H'' d S yy ed rel => ?_⟩
  obtain ⟨T, x, y, rfl, hT, rfl, hx, hy⟩ := h3 i v H'' yy
  rw [List.getElem?_map] at ed
  cases q : (ps.zip qs)[i]? with
  | none => rw [q] at ed; cases ed
  | some z =>
    rw [q] at ed
    cases ed
    obtain ⟨p, q'⟩ := z
    obtain ⟨e1, e2⟩ := List.getElem?_zip_eq_some.mp q
    have rp := hx p e1
    have rq := hy q' e2
    have x1 := ext_alloc (o := .tup [x, y]) rel hT
    obtain ⟨n, m⟩ := rel.nin hT
    refine ⟨rel.alloc hT, x1, ?_⟩
    show RepP K ι' X' _ _ _
    rw [RepP]
    refine ⟨T, [x, y], rfl, .inl ⟨n, m, .inl upd_same⟩, ?_⟩
    rw [RepPs]
    refine ⟨x, [y], rfl, rp.ext x1, ?_⟩
    rw [RepPs]
    refine ⟨y, [], rfl, rq.ext x1, ?_⟩
    rw [RepPs]
/-- a frozen list or tuple -/
def frzOf : D → Option (Bool × List P)
  | .dat (.lst l) => some (true, l)
  | .dat (.tup l) => some (false, l)
  | _ => none
/-- numbers from k on -/
def numsP (n : Nat) : List P := (List.range n).map fun (i : Nat) => .int i
def mEnum (a : DA) : DI := fun δ S => (a δ S).bind fun ds S1 => match ds with
  | [d] => match frzOf d with
    | some (_, l) => .ok (.items (((numsP l.length).zip l).map fun z => .dat (.tup [z.1, z.2]))) S1
    | none => .fail
  | _ => .fail
theorem numsP_at {n i : Nat} {p : P} (e : (numsP n)[i]? = some p) : p = .int (i : Nat) := by
  unfold numsP at e
  rw [List.getElem?_map] at e
  cases q : (List.range n)[i]? with
  | none => rw [q] at e; cases e
  | some j =>
    rw [q] at e
    cases e
    obtain ⟨h1, h2⟩ := List.getElem?_eq_some_iff.mp q
    rw [List.getElem_range] at h2
    rw [h2]
theorem repPs_nth {ι X : List Addr} {H : Hp} {l : List P} {xs : List V} (r : RepPs K ι X H l xs) {i : Nat} {p : P} {x : V} (e : l[i]? = some p) (f : xs[i]? = some x) : RepP K ι X H p x := by
  obtain ⟨y, ey, ry⟩ := repPs_at r e
  rw [f] at ey
  cases ey
  exact ry
theorem si_enum {ta : TA} {a : DA} (ha : SA K W ta a) : SI K W (W2.iEnumA K ta) (mEnum a) := by
  intro ι X S H σ δ Q rel re h
  refine ha ι X S H σ δ _ rel re ?_
  unfold mEnum at h
  cases e : a δ S with
  | fail => rw [e] at h; exact h
  | exc C x S1 => rw [e] at h; exact h
  | ok ds S1 =>
    rw [e, R.bind_ok] at h
    intro ι1 H1 vs x1 rel1 rv
    split at h
    · rename_i d
      obtain ⟨y, ys, rfl, r1, r2⟩ := rv
      rw [show ys = [] from r2]
      have ln : ∀ l : List P, ((numsP l.length).zip l).length = l.length := fun l => by simp [numsP]
      unfold frzOf at h
      split at h
      · rename_i l e2
        split at e2
        · rename_i l'
          cases e2
          obtain ⟨b, xs, rfl, n, m, f, g⟩ := rL_inv r1
          refine ⟨b, xs, rfl, .inl ⟨SqL.of f, h ι1 H1 _ x1 rel1 (itOk_pair fun ι' X' H' x => ?_)⟩⟩
          have fe := (x.ok b _ n m f).1
          have ge := RepPs.out x.p g
          have hl := repPs_len ge
          refine ⟨fun i hi => ?_, ⟨xs, SqL.of fe, by rw [ln]; omega⟩, fun i v H'' y => ?_⟩
          · have hx : i < xs.length := by rw [ln] at hi; omega
            exact ⟨xs, xs[i], SqL.of fe, List.getElem?_eq_getElem hx⟩
          · obtain ⟨T, x', ev, hT, eh, hy⟩ := y
            exact ⟨T, _, x', ev, hT, eh, fun p ep => by rw [numsP_at ep]; exact rp_int, fun q eq => repPs_nth ge eq (hy xs (SqL.of fe))⟩
        · rename_i l'
          cases e2
          obtain ⟨b, xs, rfl, f, g⟩ := rT_inv r1
          refine ⟨b, xs, rfl, .inr ⟨f.sq, h ι1 H1 _ x1 rel1 (itOk_pair fun ι' X' H' x => ?_)⟩⟩
          have fe := (f.out x.p).sq
          have ge := RepPs.out x.p g
          have hl := repPs_len ge
          refine ⟨fun i hi => ?_, ⟨xs, fe, by rw [ln]; omega⟩, fun i v H'' y => ?_⟩
          · have hx : i < xs.length := by rw [ln] at hi; omega
            exact ⟨xs, xs[i], fe, List.getElem?_eq_getElem hx⟩
          · obtain ⟨T, x', ev, hT, eh, hy⟩ := y
            exact ⟨T, _, x', ev, hT, eh, fun p ep => by rw [numsP_at ep]; exact rp_int, fun q eq => repPs_nth ge eq (hy xs fe)⟩
        · cases e2
      · exact h.elim
    · exact h.elim
def mZip (a : DA) : DI := fun δ S => (a δ S).bind fun ds S1 => match ds with
  | [d, e] => match frzOf d, frzOf e with
    | some (b, l), some (c, k) => if b = c then .ok (.items ((l.zip k).map fun z => .dat (.tup [z.1, z.2]))) S1 else .fail
    | _, _ => .fail
  | _ => .fail
theorem frzOf_rep {ι X : List Addr} {H : Hp} {d : D} {b : Bool} {l : List P} {v : V} (e : frzOf d = some (b, l)) (r : RepD K ι X H d v) :
    ∃ a xs, v = .ref a ∧ RepPs K ι X H l xs ∧ (if b = true then ∀ ι' X' H', Out1 ι X H ι' X' H' → SqL K H' a xs else ∀ ι' X' H', Out1 ι X H ι' X' H' → SqT K H' a xs) := by
  unfold frzOf at e
  split at e
  · cases e
    obtain ⟨b, xs, rfl, n, m, f, g⟩ := rL_inv r
    exact ⟨b, xs, rfl, g, by rw [if_pos rfl]; exact fun ι' X' H' x => SqL.of (x.ok b _ n m f).1⟩
  · cases e
    obtain ⟨b, xs, rfl, f, g⟩ := rT_inv r
    exact ⟨b, xs, rfl, g, by rw [if_neg Bool.false_ne_true]; exact fun ι' X' H' x => (f.out x.p).sq⟩
  · cases e
theorem si_zip {ta : TA} {a : DA} (ha : SA K W ta a) : SI K W (RZ.iZipA K ta) (mZip a) := by
  intro ι X S H σ δ Q rel re h
  refine ha ι X S H σ δ _ rel re ?_
  unfold mZip at h
  cases e : a δ S with
  | fail => rw [e] at h; exact h
  | exc C x S1 => rw [e] at h; exact h
  | ok ds S1 =>
    rw [e, R.bind_ok] at h
    intro ι1 H1 vs x1 rel1 rv
    split at h
    · rename_i d1 d2
      obtain ⟨y, ys, rfl, r1, z, zs, rfl, r2, r3⟩ := rv
      rw [show zs = [] from r3]
      split at h
      · rename_i b l c k e1 e2
        split at h
        · rename_i ebc
          subst ebc
          obtain ⟨a1, xs, rfl, g1, f1⟩ := frzOf_rep e1 r1
          obtain ⟨a2, ys, rfl, g2, f2⟩ := frzOf_rep e2 r2
          refine ⟨a1, a2, xs, ys, rfl, ?_⟩
          have lz : (l.zip k).length = min l.length k.length := List.length_zip
          cases b with
          | true =>
            rw [if_pos rfl] at f1 f2
            refine .inl ⟨f1 _ _ _ Out1.refl, f2 _ _ _ Out1.refl, h ι1 H1 _ x1 rel1 (itOk_pair fun ι' X' H' x => ?_)⟩
            have s1 := f1 _ _ _ x
            have s2 := f2 _ _ _ x
            have l1 := repPs_len g1
            have l2 := repPs_len g2
            refine ⟨fun i hi => ?_, ⟨xs, ys, s1, s2, by omega⟩, fun i v H'' y => ?_⟩
            · exact ⟨xs, ys, xs[i]'(by omega), ys[i]'(by omega), s1, s2, List.getElem?_eq_getElem _, List.getElem?_eq_getElem _⟩
            · obtain ⟨T, x', y', ev, hT, eh, hx, hy⟩ := y
              exact ⟨T, x', y', ev, hT, eh, fun p ep => repPs_nth (RepPs.out x.p g1) ep (hx xs s1), fun q eq => repPs_nth (RepPs.out x.p g2) eq (hy ys s2)⟩
          | false =>
            rw [if_neg Bool.false_ne_true] at f1 f2
            refine .inr ⟨f1 _ _ _ Out1.refl, f2 _ _ _ Out1.refl, h ι1 H1 _ x1 rel1 (itOk_pair fun ι' X' H' x => ?_)⟩
            have s1 := f1 _ _ _ x
            have s2 := f2 _ _ _ x
            have l1 := repPs_len g1
            have l2 := repPs_len g2
            refine ⟨fun i hi => ?_, ⟨xs, ys, s1, s2, by omega⟩, fun i v H'' y => ?_⟩
            · exact ⟨xs, ys, xs[i]'(by omega), ys[i]'(by omega), s1, s2, List.getElem?_eq_getElem _, List.getElem?_eq_getElem _⟩
            · obtain ⟨T, x', y', ev, hT, eh, hx, hy⟩ := y
              exact ⟨T, x', y', ev, hT, eh, fun p ep => repPs_nth (RepPs.out x.p g1) ep (hx xs s1), fun q eq => repPs_nth (RepPs.out x.p g2) eq (hy ys s2)⟩
        · exact h.elim
      · exact h.elim
    · exact h.elim
end
end M3
namespace M3
open PySem PySem.Spec PyProof.Rows L2
section
variable {K : PySem.W.Frag} {W : L2.St → WK}
/-! ### subscripts -/
theorem repDs_atI {ι X : List Addr} {H : Hp} {l : List D} {xs : List V} {i : Int} {d : D} (r : RepDs K ι X H l xs) (e : atI l i = some d) : ∃ x, atI xs i = some x ∧ RepD K ι X H d x := by
  unfold atI at e ⊢
  rw [repDs_len r]
  cases q : ixN l.length i with
  | none => rw [q] at e; cases e
  | some j => rw [q] at e; exact repDs_at r e
theorem repPs_atI {ι X : List Addr} {H : Hp} {l : List P} {xs : List V} {i : Int} {d : P} (r : RepPs K ι X H l xs) (e : atI l i = some d) : ∃ x, atI xs i = some x ∧ RepP K ι X H d x := by
  unfold atI at e ⊢
  rw [repPs_len r]
  cases q : ixN l.length i with
  | none => rw [q] at e; cases e
  | some j => rw [q] at e; exact repPs_at r e
def rIxM (K : PySem.W.Frag) : R2 := fun x y H Q => rIxL K x y H Q ∨ rIxT K x y H Q ∨ rIxS x y H Q
theorem ix_M {X : Cx} (h : X.K = K) : IxR X (rIxM K) := by
  subst h
  exact IxR.or ix_list (IxR.or ix_tup ix_str)
def aIx : Store → D → D → Option D := fun S x y => match x, y with
  | .dat (.tup l), .dat (.int i) => (atI l i).map .dat
  | .dat (.lst l), .dat (.int i) => (atI l i).map .dat
  | .dat (.str z), .dat (.int i) => if z.length ≤ 100000 then (atI z.cps.toList i).map fun c => .dat (.str ⟨#[c]⟩) else none
  | x, .dat (.int i) => match seqD S x with
    | some l => atI l i
    | none => none
  | _, _ => none
theorem ix_ok : R2S K (rIxM K) aIx := by
  intro ι X S H x y v u d Q rel rx ry e k
  unfold aIx at e
  split at e
  · rename_i l i
    obtain ⟨a, xs, rfl, f, g⟩ := rT_inv rx
    cases q : atI l i with
    | none => rw [q] at e; cases e
    | some p =>
      rw [q] at e
      cases e
      obtain ⟨w, ew, rw1⟩ := repPs_atI g q
      exact .inr (.inl ⟨a, xs, i, w, rfl, rI_inv ry, f.sq, ew, k H _ Ext.refl rel rw1⟩)
  · rename_i l i
    obtain ⟨a, xs, rfl, n, m, f, g⟩ := rL_inv rx
    cases q : atI l i with
    | none => rw [q] at e; cases e
    | some p =>
      rw [q] at e
      cases e
      obtain ⟨w, ew, rw1⟩ := repPs_atI g q
      exact .inl ⟨a, xs, i, w, rfl, rI_inv ry, SqL.of f, ew, k H _ Ext.refl rel rw1⟩
  · rename_i z i
    split at e
    · rename_i hz
      cases q : atI z.cps.toList i with
      | none => rw [q] at e; cases e
      | some c =>
        rw [q] at e
        cases e
        exact .inr (.inr ⟨z, i, c, rS_inv rx, rI_inv ry, small hz, q, k H _ Ext.refl rel rd_str⟩)
    · cases e
  · rename_i i _ _ _
    split at e
    · rename_i l e1
      obtain ⟨a, xs, rfl, f, g⟩ := seqD_rep rel e1 rx
      obtain ⟨w, ew, rw1⟩ := repDs_atI g e
      rcases f with f | f
      · exact .inl ⟨a, xs, i, w, rfl, rI_inv ry, f, ew, k H _ Ext.refl rel rw1⟩
      · exact .inr (.inl ⟨a, xs, i, w, rfl, rI_inv ry, f, ew, k H _ Ext.refl rel rw1⟩)
    · cases e
  · cases e
/-! ### slices -/
abbrev DO := DEnv → Store → R (Option Int)
def moN : DO := fun _ S => .ok none S
def moS (a : DE) : DO := fun δ S => (a δ S).bind fun d S1 => match d with
  | .dat (.int i) => .ok (some i) S1
  | _ => .fail
def SO (K : PySem.W.Frag) (W : L2.St → WK) (t : TO) (m : DO) : Prop := ∀ ι X S H σ δ Q, Rel K ι X S H → RepE K ι X H δ σ → Post K X ι H (W σ) (m δ S) (fun _ _ d v => v = d) Q → t σ H Q
theorem so_none : SO K W tNoPart moN := fun ι X S H σ δ Q rel re h => h ι H none Ext.refl rel rfl
theorem so_some {t : TE} {a : DE} (ha : SE K W t a) : SO K W (tPart t) (moS a) := by
  intro ι X S H σ δ Q rel re h
  refine ha ι X S H σ δ _ rel re (Post.bind h fun ι1 H1 x S1 v x1 rel1 rv h1 => ?_)
  split at h1
  · rename_i i
    exact ⟨i, rI_inv rv, h1 ι1 H1 _ Ext.refl rel1 rfl⟩
  · exact h1.elim
def cutL {α : Type} (xs : List α) (lo hi : Option Int) : List α := (xs.drop (HT.sIx xs.length 0 lo)).take (HT.sIx xs.length xs.length hi - HT.sIx xs.length 0 lo)
theorem repDs_drop {ι X : List Addr} {H : Hp} : ∀ {l : List D} {xs : List V} (n : Nat), RepDs K ι X H l xs → RepDs K ι X H (l.drop n) (xs.drop n)
  | [], xs, n, r => by rw [show xs = [] from r, List.drop_nil, List.drop_nil]; rfl
  | _ :: _, _, 0, r => r
  | _ :: _, _, n + 1, ⟨y, ys, rfl, f, g⟩ => repDs_drop n g
theorem repDs_take {ι X : List Addr} {H : Hp} : ∀ {l : List D} {xs : List V} (n : Nat), RepDs K ι X H l xs → RepDs K ι X H (l.take n) (xs.take n)
  | [], xs, n, r => by rw [show xs = [] from r, List.take_nil, List.take_nil]; rfl
  | _ :: _, xs, 0, r => rfl
  | _ :: _, _, n + 1, ⟨y, ys, rfl, f, g⟩ => ⟨y, _, rfl, f, repDs_take n g⟩
theorem repDs_cut {ι X : List Addr} {H : Hp} {l : List D} {xs : List V} (lo hi : Option Int) (r : RepDs K ι X H l xs) : RepDs K ι X H (cutL l lo hi) (cutV xs lo hi) := by
  unfold cutL cutV
  rw [repDs_len r]
  exact repDs_take _ (repDs_drop _ r)
theorem repPs_of {ι X : List Addr} {H : Hp} {l : List P} {xs : List V} (r : RepDs K ι X H (l.map .dat) xs) : RepPs K ι X H l xs := datAll_rep (datAll_map l) r
theorem repPs_cut {ι X : List Addr} {H : Hp} {l : List P} {xs : List V} (lo hi : Option Int) (r : RepPs K ι X H l xs) : RepPs K ι X H (cutL l lo hi) (cutV xs lo hi) := by
  refine repPs_of ?_
  have := repDs_cut lo hi (repDs_dat r)
  rwa [show cutL (l.map D.dat) lo hi = (cutL l lo hi).map D.dat by unfold cutL; rw [List.length_map, ← List.map_drop, ← List.map_take]] at this
def aSl (S : Store) (x : D) (lo hi : Option Int) : Option D := match x with
  | .dat (.tup l) => some (.dat (.tup (cutL l lo hi)))
  | .dat (.str z) => if z.length ≤ 100000 then some (.dat (.str (Txt.slice z lo hi))) else none
  | .dat (.scr l) => some (.dat (.lst ((cutL l lo hi).map .int)))
  | x => (listP S x).map fun l => .dat (.lst (cutL l lo hi))
def rSlM (K : PySem.W.Frag) : V → Option Int → Option Int → Hp → VK → Prop := fun x lo hi H Q => rSlA K x lo hi H Q ∨ rSlL K x lo hi H Q ∨ C8.rSlX x lo hi H Q
theorem sl_M {X : Cx} (h : X.K = K) : SlR X (rSlM K) := by
  subst h
  exact L2.SlR.or sl_tupA (L2.SlR.or sl_list C8.sl_txt)
def mSl (a : DE) (lo hi : DO) : DE := fun δ S => (a δ S).bind fun x S1 => (lo δ S1).bind fun l S2 => (hi δ S2).bind fun h S3 => oR (aSl S3 x l h) S3
theorem cut_all {α : Type} {xs : List α} {lo hi : Option Int} (h : HT.sIx xs.length 0 lo = 0 ∧ HT.sIx xs.length xs.length hi = xs.length) : cutL xs lo hi = xs := by
  unfold cutL
  rw [h.1, h.2, List.drop_zero, Nat.sub_zero, List.take_length]
theorem repPs_ints {ι X : List Addr} {H : Hp} (l : List Int) : RepPs K ι X H (l.map .int) (l.map V.int) := by
  refine repPs_of ?_
  rw [List.map_map]
  exact repDs_ints l
theorem sl_ok {ι X : List Addr} {S : Store} {H : Hp} {x : D} {v : V} {lo hi : Option Int} {d : D} {Q : VK} (rel : Rel K ι X S H) (rx : RepD K ι X H x v) (e : aSl S x lo hi = some d)
    (k : ∀ H' w, Ext ι H ι H' → Rel K ι X S H' → RepD K ι X H' d w → Q w H') : rSlM K v lo hi H Q := by
  unfold aSl at e
  split at e
  · rename_i l
    cases e
    obtain ⟨a, xs, rfl, f, g⟩ := rT_inv rx
    have hl := repPs_len g
    refine .inl ⟨a, xs, rfl, f.sq, fun h => ?_, fun h p hp => new_tup rel (repPs_cut lo hi g) hp k⟩
    rw [cut_all (xs := l) (by rw [hl] at h; exact h)] at k
    exact k H _ Ext.refl rel rx
  · rename_i z
    split at e
    · rename_i hz
      cases e
      exact .inr (.inr ⟨z, rS_inv rx, small hz, k H _ Ext.refl rel rd_str⟩)
    · cases e
  · rename_i l
    cases e
    have rx : RepP K ι X H (.scr l) v := rx
    rw [RepP] at rx
    obtain ⟨a, rfl, f⟩ := rx
    refine .inr (.inl ⟨a, _, rfl, f.sq, fun p hp => new_lst rel ?_ hp k⟩)
    have := repPs_cut lo hi (repPs_ints (K := K) (ι := ι) (X := X) (H := H) l)
    rwa [show cutL (l.map P.int) lo hi = (cutL l lo hi).map P.int by unfold cutL; rw [List.length_map, ← List.map_drop, ← List.map_take]] at this
  · rename_i h1 h2 h3
    cases q : listP S x with
    | none => rw [q] at e; cases e
    | some l =>
      rw [q] at e
      cases e
      obtain ⟨a, xs, rfl, f, g⟩ := listP_rep rel q rx
      exact .inr (.inl ⟨a, xs, rfl, SqL.of f, fun p hp => new_lst rel (repPs_cut lo hi g) hp k⟩)
theorem se_sl {te : TE} {tl th : TO} {a : DE} {lo hi : DO} (ha : SE K W te a) (hl : SO K W tl lo) (hh : SO K W th hi) : SE K W (tSl (rSlM K) te tl th) (mSl a lo hi) := by
  intro ι X S H σ δ Q rel re h
  refine ha ι X S H σ δ _ rel re (Post.bind h fun ι1 H1 x S1 v x1 rel1 rv h1 => ?_)
  refine hl ι1 X S1 H1 σ δ _ rel1 (re.ext x1) (Post.bind h1 fun ι2 H2 l S2 l' x2 rel2 rl h2 => ?_)
  subst rl
  refine hh ι2 X S2 H2 σ δ _ rel2 ((re.ext x1).ext x2) (Post.bind h2 fun ι3 H3 l S3 l' x3 rel3 rl h3 => ?_)
  subst rl
  obtain ⟨d, e, k⟩ := post_oR h3
  exact sl_ok rel3 ((rv.ext x2).ext x3) e k
/-- xs[::-1] -/
def mRev (a : DE) : DE := fun δ S => (a δ S).bind fun x S1 => oR ((listP S1 x).map fun l => .dat (.lst l.reverse)) S1
theorem repPs_rev {ι X : List Addr} {H : Hp} : ∀ {l : List P} {xs : List V}, RepPs K ι X H l xs → RepPs K ι X H l.reverse xs.reverse
  | [], xs, r => by
    rw [RepPs] at r
    rw [r]
    show RepPs K ι X H [] []
    rw [RepPs]
  | p :: l, xs, r => by
    rw [RepPs] at r
    obtain ⟨y, ys, rfl, f, g⟩ := r
    rw [List.reverse_cons, List.reverse_cons]
    refine repPs_app (repPs_rev g) ?_
    rw [RepPs]
    refine ⟨y, [], rfl, f, ?_⟩
    rw [RepPs]
theorem se_rev {te : TE} {a : DE} (ha : SE K W te a) : SE K W (tRevL K te) (mRev a) := by
  intro ι X S H σ δ Q rel re h
  refine ha ι X S H σ δ _ rel re (Post.bind h fun ι1 H1 x S1 v x1 rel1 rv h1 => ?_)
  obtain ⟨d, e, k⟩ := post_oR h1
  cases q : listP S1 x with
  | none => rw [q] at e; cases e
  | some l =>
    rw [q] at e
    cases e
    obtain ⟨b, xs, rfl, f, g⟩ := listP_rep rel1 q rv
    exact ⟨b, xs, rfl, SqL.of f, fun p hp => new_lst rel1 (repPs_rev g) hp k⟩
/-! ### built-in functions -/
def aLen : Store → List D → Option D := fun S ds => match ds with
  | [.dat (.str z)] => if z.length ≤ 100000 then some (dInt z.length) else none
  | [.dat (.dic l)] => some (dInt l.length)
  | [d] => (seqD S d).map fun l => dInt l.length
  | _ => none
def rLenM (K : PySem.W.Frag) : List V → Hp → VK → Prop := fun xs H Q => (∃ p ys, xs = [.ref p] ∧ (SqL K H p ys ∨ SqT K H p ys) ∧ Q (.int ys.length) H) ∨ (∃ z, xs = [.str z] ∧ z.length ≤ sizeLine ∧ Q (.int z.length) H) ∨ ∃ a kvs, xs = [V.ref a] ∧ H a = some (.dK kvs) ∧ Q (.int kvs.length) H
theorem call_lenM {X : Cx} (h : X.K = K) : CallR X (.builtin "len") (rLenM K) := by
  subst h
  exact CallR.or call_len_seq (CallR.or call_len_str call_lenD)
theorem repDs_one {ι X : List Addr} {H : Hp} {d : D} {vs : List V} (r : RepDs K ι X H [d] vs) : ∃ v, vs = [v] ∧ RepD K ι X H d v := by
  obtain ⟨y, ys, e, f, g⟩ := r
  exact ⟨y, by rw [e, show ys = [] from g], f⟩
theorem repDs_two {ι X : List Addr} {H : Hp} {d f : D} {vs : List V} (r : RepDs K ι X H [d, f] vs) : ∃ v u, vs = [v, u] ∧ RepD K ι X H d v ∧ RepD K ι X H f u := by
  obtain ⟨y, ys, e, f, z, zs, e2, g, h⟩ := r
  exact ⟨y, z, by rw [e, e2, show zs = [] from h], f, g⟩
theorem repKs_len {ι X : List Addr} {H : Hp} : ∀ {ps : List (P × P)} {vs : List (Key × V)}, RepKs K ι X H ps vs → vs.length = ps.length
  | [], vs, r => by rw [RepKs] at r; rw [r]; rfl
  | (_, _) :: ps, vs, r => by
    rw [RepKs] at r
    obtain ⟨c, y, ys, e, _, f, g⟩ := r
    rw [e, List.length_cons, List.length_cons, repKs_len g]
theorem len_ok : RCS K (rLenM K) aLen := by
  intro ι X S H ds vs d Q rel rv e k
  unfold aLen at e
  split at e
  · rename_i z
    split at e
    · rename_i hz
      cases e
      obtain ⟨v, rfl, r⟩ := repDs_one rv
      rw [rS_inv r]
      exact .inr (.inl ⟨z, rfl, small hz, k H _ Ext.refl rel rd_int⟩)
    · cases e
  · rename_i l
    cases e
    obtain ⟨v, rfl, r⟩ := repDs_one rv
    have r : RepP K ι X H (.dic l) v := r
    rw [RepP] at r
    obtain ⟨a, xs, rfl, _, _, f, g⟩ := r
    refine .inr (.inr ⟨a, xs, rfl, f, ?_⟩)
    rw [repKs_len g]
    exact k H _ Ext.refl rel rd_int
  · rename_i x _ _
    obtain ⟨v, rfl, r⟩ := repDs_one rv
    cases q : seqD S x with
    | none => rw [q] at e; cases e
    | some l =>
      rw [q] at e
      cases e
      obtain ⟨a, xs, rfl, f, g⟩ := seqD_rep rel q r
      refine .inl ⟨a, xs, rfl, f, ?_⟩
      rw [repDs_len g]
      exact k H _ Ext.refl rel rd_int
  · cases e
def rTupM (K : PySem.W.Frag) : List V → Hp → VK → Prop := fun xs H Q => ∃ p ys, xs = [.ref p] ∧ ((SqL K H p ys ∧ ∀ l, H l = none → Q (.ref l) (upd H l (.tup ys))) ∨ (SqT K H p ys ∧ Q (.ref p) H))
theorem call_tupM {X : Cx} (h : X.K = K) : CallR X (.type "tuple") (rTupM K) := h ▸ call_tuple_of
def aTuple : Store → List D → Option D := fun S ds => match ds with
  | [.dat (.tup l)] => some (.dat (.tup l))
  | [d] => (listP S d).map fun l => .dat (.tup l)
  | _ => none
theorem tuple_ok : RCS K (rTupM K) aTuple := by
  intro ι X S H ds vs d Q rel rv e k
  unfold aTuple at e
  split at e
  · cases e
    obtain ⟨v, rfl, r⟩ := repDs_one rv
    obtain ⟨a, xs, rfl, f, g⟩ := rT_inv r
    exact ⟨a, xs, rfl, .inr ⟨f.sq, k H _ Ext.refl rel r⟩⟩
  · rename_i x _
    obtain ⟨v, rfl, r⟩ := repDs_one rv
    cases q : listP S x with
    | none => rw [q] at e; cases e
    | some l =>
      rw [q] at e
      cases e
      obtain ⟨a, xs, rfl, f, g⟩ := listP_rep rel q r
      exact ⟨a, xs, rfl, .inl ⟨SqL.of f, fun p hp => new_tup rel g hp k⟩⟩
  · cases e
def rListM (K : PySem.W.Frag) : List V → Hp → VK → Prop := fun xs H Q => ∃ p ys, xs = [.ref p] ∧ (SqL K H p ys ∨ SqT K H p ys) ∧ ∀ l, H l = none → Q (.ref l) (upd H l (.lst ys))
theorem call_listM {X : Cx} (h : X.K = K) : CallR X (.type "list") (rListM K) := h ▸ call_list_of
/-- list(x): a new list -/
def mList (a : DA) : DA := fun δ S => (a δ S).bind fun ds S1 => match ds with
  | [d] => oR (seqD S1 d) S1
  | _ => .fail
theorem postL_of {X ι : List Addr} {H : Hp} {α β : Type} {W : WK} {r : R α} {f : α → Store → R (List D)} {Q : V → Hp → Prop} {Rp : List Addr → Hp → α → β → Prop} {Q1 : β → Hp → Prop} (h : PostL K X ι H W (r.bind f) Q)
    (k : ∀ ι1 H1 a S1 v, Ext ι H ι1 H1 → Rel K ι1 X S1 H1 → Rp ι1 H1 a v → PostL K X ι H W (f a S1) Q → Q1 v H1) : Post K X ι H W r Rp Q1 := by
  cases r with
  | ok a S => exact fun ι' H' v x rel rp => k ι' H' a S v x rel rp h
  | exc C z S => exact h
  | fail => exact h
theorem newL {X ι ι1 : List Addr} {H H1 : Hp} {S1 : Store} {ds : List D} {xs : List V} {Q : V → Hp → Prop} (x1 : Ext ι H ι1 H1) (rel1 : Rel K ι1 X S1 H1) (r : RepDs K ι1 X H1 ds xs)
    (h : ∀ ι' H' p xs, Ext ι H ι' H' → Rel K ι' (p :: X) S1 H' → H p = none → H' p = some (.lst xs) → RepDs K ι' (p :: X) H' ds xs → Q (.ref p) H') {p : Addr} (hp : H1 p = none) : Q (.ref p) (upd H1 p (.lst xs)) := by
  have x := ext_alloc (o := .lst xs) rel1 hp
  exact h ι1 _ p xs (x1.trans x) (rel1.more hp) (ext_free x1 (rel1.nin hp).1 hp) upd_same (r.out (Out1.more hp))
theorem sl_list {ta : TA} {a : DA} (ha : SA K W ta a) : SL K W (tCB (rListM K) ta) (mList a) := by
  intro ι X S H σ δ Q rel re h
  refine ha ι X S H σ δ _ rel re (postL_of h fun ι1 H1 ds S1 vs x1 rel1 rv h1 => ?_)
  split at h1
  · rename_i d
    obtain ⟨v, rfl, r⟩ := repDs_one rv
    cases q : seqD S1 d with
    | none => rw [q] at h1; exact h1.elim
    | some l =>
      rw [q] at h1
      obtain ⟨b, xs, rfl, f, g⟩ := seqD_rep rel1 q r
      exact ⟨b, xs, rfl, f, fun p hp => newL x1 rel1 g h1 hp⟩
  · exact h1.elim
/-- list(range(..)) -/
def mListRg1 (a : DE) : DA := fun δ S => (a δ S).bind fun d S1 => match d with
  | .dat (.int n) => if -100000 ≤ n ∧ n ≤ 100000 then .ok (rngD 0 n.toNat) S1 else .fail
  | _ => .fail
theorem repDs_rng {ι X : List Addr} {H : Hp} (lo : Int) : ∀ l : List Nat, RepDs K ι X H (l.map fun (i : Nat) => .dat (.int (lo + i))) (l.map fun (i : Nat) => V.int (lo + i))
  | [] => rfl
  | i :: l => ⟨_, _, rfl, rd_int, repDs_rng lo l⟩
theorem sl_listRg1 {te : TE} {a : DE} (ha : SE K W te a) : SL K W (tLstRg (tRg1 te)) (mListRg1 a) := by
  intro ι X S H σ δ Q rel re h
  refine ha ι X S H σ δ _ rel re (postL_of h fun ι1 H1 d S1 v x1 rel1 rv h1 => ?_)
  split at h1
  · rename_i n
    split at h1
    · rename_i hn
      refine ⟨n, rI_inv rv, ⟨by omega, by omega, by omega, by omega, by omega⟩, fun p hp => newL x1 rel1 ?_ h1 hp⟩
      unfold rngD
      unfold rgV
      rw [show (n - 0 : Int) = n by omega]
      exact repDs_rng 0 _
    · exact h1.elim
  · exact h1.elim
/-- ints among the data -/
def intsP : List P → Option (List Int)
  | [] => some []
  | .int i :: l => (intsP l).map (i :: ·)
  | _ :: _ => none
def boolsP : List P → Option (List Bool)
  | [] => some []
  | .bl i :: l => (boolsP l).map (i :: ·)
  | _ :: _ => none
@[simp] theorem intsP_map (l : List Int) : intsP (l.map .int) = some l := by
  induction l with
  | nil => rfl
  | cons i l ih => rw [List.map_cons, intsP, ih]; rfl
@[simp] theorem boolsP_map (l : List Bool) : boolsP (l.map .bl) = some l := by
  induction l with
  | nil => rfl
  | cons i l ih => rw [List.map_cons, boolsP, ih]; rfl
theorem intsP_rep {ι X : List Addr} {H : Hp} : ∀ {l : List P} {ns : List Int} {xs : List V}, intsP l = some ns → RepPs K ι X H l xs → xs = ns.map V.int
  | [], ns, xs, e, r => by
    cases e
    rw [RepPs] at r
    exact r
  | p :: l, ns, xs, e, r => by
    rw [RepPs] at r
    obtain ⟨y, ys, rfl, f, g⟩ := r
    cases p with
    | int i =>
      unfold intsP at e
      cases q : intsP l with
      | none => rw [q] at e; cases e
      | some ms =>
        rw [q] at e
        cases e
        rw [RepP] at f
        rw [f, intsP_rep q g]
        rfl
    | _ => cases e
theorem boolsP_rep {ι X : List Addr} {H : Hp} : ∀ {l : List P} {ns : List Bool} {xs : List V}, boolsP l = some ns → RepPs K ι X H l xs → xs = ns.map V.bl
  | [], ns, xs, e, r => by
    cases e
    rw [RepPs] at r
    exact r
  | p :: l, ns, xs, e, r => by
    rw [RepPs] at r
    obtain ⟨y, ys, rfl, f, g⟩ := r
    cases p with
    | bl i =>
      unfold boolsP at e
      cases q : boolsP l with
      | none => rw [q] at e; cases e
      | some ms =>
        rw [q] at e
        cases e
        rw [RepP] at f
        rw [f, boolsP_rep q g]
        rfl
    | _ => cases e
def aAll : Store → List D → Option D := fun S ds => match ds with
  | [d] => ((listP S d).bind boolsP).map fun l => dBl (l.all id)
  | _ => none
def aAny : Store → List D → Option D := fun S ds => match ds with
  | [d] => ((listP S d).bind boolsP).map fun l => dBl (l.any id)
  | _ => none
theorem bools_of {ι X : List Addr} {S : Store} {H : Hp} {d : D} {v : V} {l : List Bool} (rel : Rel K ι X S H) (e : (listP S d).bind boolsP = some l) (r : RepD K ι X H d v) : ∃ a, v = .ref a ∧ SqL K H a (l.map V.bl) := by
  cases q : listP S d with
  | none => rw [q] at e; cases e
  | some ps =>
    rw [q] at e
    obtain ⟨a, xs, rfl, f, g⟩ := listP_rep rel q r
    rw [boolsP_rep e g] at f
    exact ⟨a, rfl, SqL.of f⟩
theorem ints_of {ι X : List Addr} {S : Store} {H : Hp} {d : D} {v : V} {l : List Int} (rel : Rel K ι X S H) (e : (listP S d).bind intsP = some l) (r : RepD K ι X H d v) : ∃ a, v = .ref a ∧ SqL K H a (l.map V.int) := by
  cases q : listP S d with
  | none => rw [q] at e; cases e
  | some ps =>
    rw [q] at e
    obtain ⟨a, xs, rfl, f, g⟩ := listP_rep rel q r
    rw [intsP_rep e g] at f
    exact ⟨a, rfl, SqL.of f⟩
theorem all_ok : RCS K (rAll K) aAll := by
  intro ι X S H ds vs d Q rel rv e k
  unfold aAll at e
  split at e
  · rename_i x
    obtain ⟨v, rfl, r⟩ := repDs_one rv
    cases q : (listP S x).bind boolsP with
    | none => rw [q] at e; cases e
    | some l =>
      rw [q] at e
      cases e
      obtain ⟨a, rfl, f⟩ := bools_of rel q r
      exact ⟨a, l, rfl, f, k H _ Ext.refl rel rd_bl⟩
  · cases e
theorem any_ok : RCS K (rAny K) aAny := by
  intro ι X S H ds vs d Q rel rv e k
  unfold aAny at e
  split at e
  · rename_i x
    obtain ⟨v, rfl, r⟩ := repDs_one rv
    cases q : (listP S x).bind boolsP with
    | none => rw [q] at e; cases e
    | some l =>
      rw [q] at e
      cases e
      obtain ⟨a, rfl, f⟩ := bools_of rel q r
      exact ⟨a, l, rfl, f, k H _ Ext.refl rel rd_bl⟩
  · cases e
def aSum : Store → List D → Option D := fun S ds => match ds with
  | [d] => ((listP S d).bind intsP).map fun l => dInt l.sum
  | _ => none
theorem sum_ok : RCS K (rSum K) aSum := by
  intro ι X S H ds vs d Q rel rv e k
  unfold aSum at e
  split at e
  · rename_i x
    obtain ⟨v, rfl, r⟩ := repDs_one rv
    cases q : (listP S x).bind intsP with
    | none => rw [q] at e; cases e
    | some l =>
      rw [q] at e
      cases e
      obtain ⟨a, rfl, f⟩ := ints_of rel q r
      exact ⟨a, l, rfl, f, k H _ Ext.refl rel rd_int⟩
  · cases e
/-- the greatest, the least of some ints -/
def maxI : List Int → Option Int
  | [] => none
  | i :: l => some (l.foldl max i)
def minI : List Int → Option Int
  | [] => none
  | i :: l => some (l.foldl min i)
theorem foldl_max : ∀ (l : List Int) (i : Int), (l.foldl max i = i ∨ l.foldl max i ∈ l) ∧ i ≤ l.foldl max i ∧ ∀ y ∈ l, y ≤ l.foldl max i
  | [], i => ⟨.inl rfl, Int.le_refl _, fun y h => by cases h⟩
  | a :: l, i => by
    obtain ⟨h1, h2, h3⟩ := foldl_max l (max i a)
    rw [List.foldl_cons]
    refine ⟨?_, by omega, fun y hy => ?_⟩
    · rcases h1 with h1 | h1
      · by_cases z : i ≤ a
        · right; rw [h1, show max i a = a by omega]; exact List.mem_cons_self
        · left; rw [h1]; omega
      · right; exact List.mem_cons_of_mem _ h1
    · rcases List.mem_cons.mp hy with rfl | hy
      · omega
      · exact h3 y hy
theorem foldl_min : ∀ (l : List Int) (i : Int), (l.foldl min i = i ∨ l.foldl min i ∈ l) ∧ l.foldl min i ≤ i ∧ ∀ y ∈ l, l.foldl min i ≤ y
  | [], i => ⟨.inl rfl, Int.le_refl _, fun y h => by cases h⟩
  | a :: l, i => by
    obtain ⟨h1, h2, h3⟩ := foldl_min l (min i a)
    rw [List.foldl_cons]
    refine ⟨?_, by omega, fun y hy => ?_⟩
    · rcases h1 with h1 | h1
      · by_cases z : a ≤ i
        · right; rw [h1, show min i a = a by omega]; exact List.mem_cons_self
        · left; rw [h1]; omega
      · right; exact List.mem_cons_of_mem _ h1
    · rcases List.mem_cons.mp hy with rfl | hy
      · omega
      · exact h3 y hy
theorem maxI_spec {l : List Int} {m : Int} (e : maxI l = some m) : m ∈ l ∧ ∀ y ∈ l, y ≤ m := by
  cases l with
  | nil => cases e
  | cons i l =>
    cases e
    obtain ⟨h1, h2, h3⟩ := foldl_max l i
    refine ⟨?_, fun y hy => ?_⟩
    · rcases h1 with h1 | h1
      · rw [h1]; exact List.mem_cons_self
      · exact List.mem_cons_of_mem _ h1
    · rcases List.mem_cons.mp hy with rfl | hy
      · exact h2
      · exact h3 y hy
theorem minI_spec {l : List Int} {m : Int} (e : minI l = some m) : m ∈ l ∧ ∀ y ∈ l, m ≤ y := by
  cases l with
  | nil => cases e
  | cons i l =>
    cases e
    obtain ⟨h1, h2, h3⟩ := foldl_min l i
    refine ⟨?_, fun y hy => ?_⟩
    · rcases h1 with h1 | h1
      · rw [h1]; exact List.mem_cons_self
      · exact List.mem_cons_of_mem _ h1
    · rcases List.mem_cons.mp hy with rfl | hy
      · exact h2
      · exact h3 y hy
def aMax : Store → List D → Option D := fun S ds => match ds with
  | [.dat (.int i), .dat (.int j)] => some (dInt (if j > i then j else i))
  | [d] => (((listP S d).bind intsP).bind maxI).map dInt
  | _ => none
def aMin : Store → List D → Option D := fun S ds => match ds with
  | [.dat (.int i), .dat (.int j)] => some (dInt (if j < i then j else i))
  | [d] => (((listP S d).bind intsP).bind minI).map dInt
  | _ => none
def rMaxM (K : PySem.W.Frag) : List V → Hp → VK → Prop := fun xs H Q => (∃ i j, xs = [.int i, .int j] ∧ Q (.int (if j > i then j else i)) H) ∨ rMax K xs H Q
def rMinM (K : PySem.W.Frag) : List V → Hp → VK → Prop := fun xs H Q => (∃ i j, xs = [.int i, .int j] ∧ Q (.int (if j < i then j else i)) H) ∨ rMin K xs H Q
theorem call_maxM {X : Cx} (h : X.K = K) (hc : X.calm = true) : CallR X (.builtin "max") (rMaxM K) := by
  subst h
  exact CallR.or (call_max2 hc) (cr_max hc)
theorem call_minM {X : Cx} (h : X.K = K) (hc : X.calm = true) : CallR X (.builtin "min") (rMinM K) := by
  subst h
  exact CallR.or (call_min2 hc) (cr_min hc)
theorem max_ok : RCS K (rMaxM K) aMax := by
  intro ι X S H ds vs d Q rel rv e k
  unfold aMax at e
  split at e
  · cases e
    obtain ⟨v, u, rfl, r1, r2⟩ := repDs_two rv
    rw [rI_inv r1, rI_inv r2]
    exact .inl ⟨_, _, rfl, k H _ Ext.refl rel rd_int⟩
  · rename_i x
    obtain ⟨v, rfl, r⟩ := repDs_one rv
    cases q : (listP S x).bind intsP with
    | none => rw [q] at e; cases e
    | some l =>
      rw [q] at e
      cases q2 : maxI l with
      | none => simp only [Option.bind_some, q2] at e; cases e
      | some m =>
        simp only [Option.bind_some, q2, Option.map_some] at e
        cases e
        obtain ⟨a, rfl, f⟩ := ints_of rel q r
        obtain ⟨h1, h2⟩ := maxI_spec q2
        refine .inr ⟨a, l, rfl, f, List.length_pos_of_mem h1, fun m' h3 h4 => ?_⟩
        have : m' = m := Int.le_antisymm (h2 m' h3) (h4 m h1)
        subst this
        exact k H _ Ext.refl rel rd_int
  · cases e
theorem min_ok : RCS K (rMinM K) aMin := by
  intro ι X S H ds vs d Q rel rv e k
  unfold aMin at e
  split at e
  · cases e
    obtain ⟨v, u, rfl, r1, r2⟩ := repDs_two rv
    rw [rI_inv r1, rI_inv r2]
    exact .inl ⟨_, _, rfl, k H _ Ext.refl rel rd_int⟩
  · rename_i x
    obtain ⟨v, rfl, r⟩ := repDs_one rv
    cases q : (listP S x).bind intsP with
    | none => rw [q] at e; cases e
    | some l =>
      rw [q] at e
      cases q2 : minI l with
      | none => simp only [Option.bind_some, q2] at e; cases e
      | some m =>
        simp only [Option.bind_some, q2, Option.map_some] at e
        cases e
        obtain ⟨a, rfl, f⟩ := ints_of rel q r
        obtain ⟨h1, h2⟩ := minI_spec q2
        refine .inr ⟨a, l, rfl, f, List.length_pos_of_mem h1, fun m' h3 h4 => ?_⟩
        have : m' = m := Int.le_antisymm (h4 m h1) (h2 m' h3)
        subst this
        exact k H _ Ext.refl rel rd_int
  · cases e
def aAbs : Store → List D → Option D := fun _ ds => match ds with
  | [.dat (.int i)] => some (dInt (if i < 0 then -i else i))
  | _ => none
theorem abs_ok : RCS K (fun xs H Q => ∃ i, xs = [.int i] ∧ Q (.int (if i < 0 then -i else i)) H) aAbs := by
  intro ι X S H ds vs d Q rel rv e k
  unfold aAbs at e
  split at e
  · cases e
    obtain ⟨v, rfl, r⟩ := repDs_one rv
    exact ⟨_, by rw [rI_inv r], k H _ Ext.refl rel rd_int⟩
  · cases e
def aInt : Store → List D → Option D := fun _ ds => match ds with
  | [.dat (.int i)] => some (dInt i)
  | [.dat (.bl b)] => some (dInt (if b then 1 else 0))
  | _ => none
theorem int_ok : RCS K (fun xs H Q => (∃ i, xs = [.int i] ∧ Q (.int i) H) ∨ ∃ k, xs = [.bl k] ∧ Q (.int (if k then 1 else 0)) H) aInt := by
  intro ι X S H ds vs d Q rel rv e k
  unfold aInt at e
  split at e
  · cases e
    obtain ⟨v, rfl, r⟩ := repDs_one rv
    exact .inl ⟨_, by rw [rI_inv r], k H _ Ext.refl rel rd_int⟩
  · cases e
    obtain ⟨v, rfl, r⟩ := repDs_one rv
    exact .inr ⟨_, by rw [rB_inv r], k H _ Ext.refl rel rd_int⟩
  · cases e
end
end M3
namespace M3
open PySem PySem.Spec PyProof.Rows L2
/-! ### isinstance -/
/-- own classes, so that isinstance tells of their instances -/
structure OwnC (K : PySem.W.Frag) (C : Addr) : Prop where
  cl : Cls K C
  ha : PySem.W.findIn K (.ref C) "__class__" = some (some (.builtin "object.__class__"))
  hn : PySem.W.specialIn K (.builtin "object.__class__") "__get__" = some (some (.builtin "getset_descriptor.__get__"))
  htk : PySem.W.takesIn K (.builtin "object.__class__") = some true
  hm : PySem.W.mroIn K C (.type "object") = some true
def OwnCs (K : PySem.W.Frag) (CS : List Addr) : Prop := ∀ C ∈ CS, OwnC K C
theorem OwnCs.nil {K : PySem.W.Frag} : OwnCs K [] := fun _ h => nomatch h
/-- the type of a thing, as isinstance asks it -/
def tyD (CS : List Addr) (S : Store) : D → Option Value
  | .dat .non => some (.type "NoneType")
  | .dat (.bl _) => some (.type "bool")
  | .dat (.int _) => some (.type "int")
  | .dat (.str _) => some (.type "str")
  | .dat (.tup _) => some (.type "tuple")
  | .dat (.lst _) => some (.type "list")
  | .dat (.dic _) => some (.type "dict")
  | .dat (.scr _) => some (.type "list")
  | .dat (.ins C _) => if C ∈ CS then some (.ref C) else none
  | .dat (.con _) => none
  | .obj i => match S[i]? with
    | some (.lst _) => some (.type "list")
    | some (.dic _) => some (.type "dict")
    | some (.ins C _) => if C ∈ CS then some (.ref C) else none
    | none => none
section
variable {K : PySem.W.Frag} {CS : List Addr}
theorem tyD_rep {ι X : List Addr} {S : Store} {H : Hp} {d : D} {v : V} {t : Value} (O : OwnCs K CS) (rel : Rel K ι X S H) (e : tyD CS S d = some t) (r : RepD K ι X H d v) : TyX K H v t := by
  cases d with
  | obj i =>
    obtain ⟨a, ea, rfl⟩ := r
    obtain ⟨o, eo, ro⟩ := rel.obj ea
    unfold tyD at e
    simp only [eo] at e
    cases o with
    | lst l => cases e; obtain ⟨xs, f, _⟩ := ro; exact .base (.lst f)
    | dic l => cases e; obtain ⟨xs, f, _⟩ := ro; exact .base (.dK f)
    | ins C l =>
      simp only at e
      split at e
      · rename_i m
        cases e
        obtain ⟨dx, xs, f, _⟩ := ro
        have o := O C m
        exact .base (.ins f o.cl o.ha o.hn o.htk o.hm)
      · cases e
  | dat p =>
    have r : RepP K ι X H p v := r
    cases p with
    | non => cases e; rw [RepP] at r; rw [r]; exact .base .non
    | bl b => cases e; rw [RepP] at r; rw [r]; exact .base (.bl b)
    | int b => cases e; rw [RepP] at r; rw [r]; exact .base (.int b)
    | str b => cases e; rw [RepP] at r; rw [r]; exact .base (.str b)
    | tup l =>
      cases e
      rw [RepP] at r
      obtain ⟨a, xs, rfl, f, _⟩ := r
      rcases f with ⟨_, _, f | ⟨o, f⟩⟩ | ⟨o, its, n, h1, h2, _⟩
      · exact .base (.tup f)
      · exact .fTuple f
      · exact .kTuple h1 h2
    | lst l => cases e; rw [RepP] at r; obtain ⟨a, xs, rfl, _, _, f, _⟩ := r; exact .base (.lst f)
    | dic l => cases e; rw [RepP] at r; obtain ⟨a, xs, rfl, _, _, f, _⟩ := r; exact .base (.dK f)
    | ins C l =>
      rw [RepP] at r
      obtain ⟨a, dx, xs, rfl, _, _, f, _⟩ := r
      unfold tyD at e
      simp only at e
      split at e
      · rename_i m
        cases e
        have o := O C m
        exact .base (.ins f o.cl o.ha o.hn o.htk o.hm)
      · cases e
    | con w => cases e
    | scr l =>
      cases e
      rw [RepP] at r
      obtain ⟨a, rfl, f⟩ := r
      rcases f with ⟨_, _, f | ⟨o, f⟩⟩ | ⟨o, its, n, h1, h2, _⟩
      · exact .base (.lst f)
      · exact .base (.frz f)
      · exact .kList h1 h2
/-- a class, as a value -/
def clsD : D → Option Value
  | .dat (.con (.ty n)) => some (.type n)
  | .dat (.con (.ref C)) => some (.ref C)
  | _ => none
theorem clsD_rep {ι X : List Addr} {H : Hp} {d : D} {v : V} {u : Value} (e : clsD d = some u) (r : RepD K ι X H d v) : ClsV v u := by
  unfold clsD at e
  split at e
  · cases e
    rw [rC_inv r]
    exact .ty _
  · cases e
    rw [rC_inv r]
    exact .own _
  · cases e
def aIsi (K : PySem.W.Frag) (CS : List Addr) : Store → List D → Option D := fun S ds => match ds with
  | [x, c] => match tyD CS S x, clsD c with
    | some t, some u => (PySem.W.kitOne K t u).map dBl
    | _, _ => none
  | _ => none
theorem call_isiM {X : Cx} (h : X.K = K) : CallR X (.builtin "isinstance") (rIsi K) := h ▸ call_isi
theorem isi_ok (O : OwnCs K CS) : RCS K (rIsi K) (aIsi K CS) := by
  intro ι X S H ds vs d Q rel rv e k
  unfold aIsi at e
  split at e
  · rename_i x c
    obtain ⟨v, w, rfl, r1, r2⟩ := repDs_two rv
    split at e
    · rename_i t u e1 e2
      cases q : PySem.W.kitOne K t u with
      | none => rw [q] at e; cases e
      | some b =>
        rw [q] at e
        cases e
        exact ⟨v, w, t, u, b, rfl, clsD_rep e2 r2, tyD_rep O rel e1 r1, q, k H _ Ext.refl rel rd_bl⟩
    · cases e
  · cases e
/-- isinstance(x, (c1, c2, ..)): the tuple of classes is just laid -/
def clssD : List P → Option (List Value)
  | [] => some []
  | .con (.ty n) :: l => (clssD l).map (.type n :: ·)
  | .con (.ref C) :: l => (clssD l).map (.ref C :: ·)
  | _ :: _ => none
theorem clssD_rep {ι X : List Addr} {H : Hp} : ∀ {l : List P} {us : List Value} {vs : List V}, clssD l = some us → RepPs K ι X H l vs → Paired ClsV vs us
  | [], us, vs, e, r => by
    cases e
    rw [RepPs] at r
    rw [r]
    exact .nil
  | p :: l, us, vs, e, r => by
    rw [RepPs] at r
    obtain ⟨y, ys, rfl, f, g⟩ := r
    unfold clssD at e
    split at e
    · rename_i heq; cases heq
    · rename_i heq
      cases heq
      cases q : clssD l with
      | none => rw [q] at e; cases e
      | some ws =>
        rw [q] at e
        cases e
        rw [RepP] at f
        rw [f]
        exact .cons (.ty _) (clssD_rep q g)
    · rename_i heq
      cases heq
      cases q : clssD l with
      | none => rw [q] at e; cases e
      | some ws =>
        rw [q] at e
        cases e
        rw [RepP] at f
        rw [f]
        exact .cons (.own _) (clssD_rep q g)
    · cases e
def aIsiT (K : PySem.W.Frag) (CS : List Addr) : Store → List D → Option D := fun S ds => match ds with
  | [x, .dat (.tup l)] => match tyD CS S x, clssD l with
    | some t, some us => (PySem.W.kitAny K t us).map dBl
    | _, _ => none
  | _ => none
def rIsiTM (K : PySem.W.Frag) : List V → Hp → VK → Prop := rIsiT K
theorem call_isiTM {X : Cx} (h : X.K = K) : CallR X (.builtin "isinstance") (rIsiTM K) := h ▸ call_isiT
theorem clssD_tup {l : List P} {us : List Value} (e : clssD l = some us) : True := trivial
end
/-! ### what a call of a built-in method does -/
def MSim (K : PySem.W.Frag) (r : V → List V → Hp → VK → Prop) (f : D → List D → Store → R D) : Prop := ∀ ι X S H x v ds vs Q, Rel K ι X S H → RepD K ι X H x v → RepDs K ι X H ds vs →
  Post K X ι H (fun _ _ _ => False) (f x ds S) (fun ι' H' d w => RepD K ι' X H' d w) Q → r v vs H Q
def isKind (T : String) (S : Store) (d : D) : Bool :=
  if T = "list" then (listD S d).isSome else if T = "str" then (match d with
    | .dat (.str _) => true
    | _ => false) else false
def mBM (T : String) (f : D → List D → Store → R D) (a : DE) (b : DA) : DE := fun δ S => (a δ S).bind fun x S1 => if isKind T S1 x = true then (b δ S1).bind fun ds S2 => (match f x ds S2 with
    | .ok d S3 => .ok d S3
    | _ => .fail) else .fail
section
variable {K : PySem.W.Frag} {W : L2.St → WK}
theorem isKind_ty {ι X : List Addr} {S : Store} {H : Hp} {T : String} {d : D} {v : V} (rel : Rel K ι X S H) (e : isKind T S d = true) (r : RepD K ι X H d v) : tyV K T v H := by
  unfold isKind at e
  split at e
  · rename_i hT
    subst hT
    cases q : listD S d with
    | none => rw [q] at e; cases e
    | some l =>
      obtain ⟨a, xs, rfl, f, _⟩ := listD_rep rel q r
      exact .inl ⟨rfl, xs, SqL.of f⟩
  · split at e
    · rename_i hT
      subst hT
      split at e
      · rw [rS_inv r]; rfl
      · cases e
    · cases e
theorem noexc {X ι : List Addr} {H : Hp} {W : WK} {r : R D} {Rp : List Addr → Hp → D → V → Prop} {Q : V → Hp → Prop} (h : Post K X ι H W (match r with
    | .ok d S3 => .ok d S3
    | _ => .fail) Rp Q) : Post K X ι H (fun _ _ _ => False) r Rp Q := by
  cases r with
  | ok d S => exact h
  | exc C x S => exact h.elim
  | fail => exact h
theorem se_bm {T : String} {r : V → List V → Hp → VK → Prop} {f : D → List D → Store → R D} {to : TE} {t : TA} {a : DE} {b : DA} (hr : MSim K r f) (ha : SE K W to a) (hb : SA K W t b) : SE K W (tBM K T r to t) (mBM T f a b) := by
  intro ι X S H σ δ Q rel re h
  refine ha ι X S H σ δ _ rel re (Post.bind h fun ι1 H1 x S1 v x1 rel1 rv h1 => ?_)
  split at h1
  · rename_i hk
    refine ⟨isKind_ty rel1 hk rv, ?_⟩
    refine hb ι1 X S1 H1 σ δ _ rel1 (re.ext x1) (Post.bind h1 fun ι2 H2 ds S2 vs x2 rel2 rvs h2 => ?_)
    exact hr ι2 X S2 H2 x v ds vs Q rel2 (rv.ext x2) rvs (noexc h2)
  · exact h1.elim
theorem se_bm0 {T : String} {r : V → List V → Hp → VK → Prop} {f : D → List D → Store → R D} {to : TE} {a : DE} (hr : MSim K r f) (ha : SE K W to a) : SE K W (tBM0 K T r to) (mBM T f a mNil) := by
  intro ι X S H σ δ Q rel re h
  refine ha ι X S H σ δ _ rel re (Post.bind h fun ι1 H1 x S1 v x1 rel1 rv h1 => ?_)
  split at h1
  · rename_i hk
    refine ⟨isKind_ty rel1 hk rv, ?_⟩
    exact hr ι1 X S1 H1 x v [] [] Q rel1 rv rfl (noexc h1)
  · exact h1.elim
/-- a change of a list among the objects -/
def updL (f : List D → List D → Option (D × List D)) : D → List D → Store → R D := fun x ds S => match x with
  | .obj i => match S[i]? with
    | some (.lst l) => (match f l ds with
      | some (d, l') => .ok d (S.set i (.lst l'))
      | none => .fail)
    | _ => .fail
  | _ => .fail
theorem updL_ok {r : V → List V → Hp → VK → Prop} {f : List D → List D → Option (D × List D)}
    (h : ∀ ι X S H a xs l ds vs d l' Q, Rel K ι X S H → H a = some (.lst xs) → RepDs K ι X H l xs → RepDs K ι X H ds vs → f l ds = some (d, l') →
      (∀ v ys, RepD K ι X H d v → RepDs K ι X H l' ys → Q v (upd H a (.lst ys))) → r (.ref a) vs H Q) : MSim K r (updL f) := by
  intro ι X S H x v ds vs Q rel rx rvs hp
  unfold updL at hp
  cases x with
  | dat p => exact hp.elim
  | obj i =>
    obtain ⟨a, ea, rfl⟩ := rx
    simp only at hp
    cases es : S[i]? with
    | none => rw [es] at hp; exact hp.elim
    | some o =>
      cases o with
      | ins C l => simp only [es] at hp; exact hp.elim
      | dic l => simp only [es] at hp; exact hp.elim
      | lst l =>
        simp only [es] at hp
        cases q : f l ds with
        | none => rw [q] at hp; exact hp.elim
        | some z =>
          obtain ⟨d, l'⟩ := z
          simp only [q] at hp
          obtain ⟨xs, ex, rxs⟩ := rel.at_ i _ a es ea
          refine h ι X S H a xs l ds vs d l' Q rel ex rxs rvs q fun v ys rv rys => ?_
          have ma : a ∈ ι := List.mem_of_getElem? ea
          have o1 : Out1 ι X H ι X (upd H a (.lst ys)) := Out1.ext ⟨⟨[], by simp⟩, fun b w n h => by rw [upd_ne (fun z => n (by rw [z]; exact ma))]; exact h, fun b m n => absurd m n⟩
          obtain ⟨r2, x2⟩ := rel.put (o := .lst l') (u := .lst ys) ea ⟨ys, upd_same, rys.out o1⟩
          exact hp ι _ v x2 r2 (rv.ext x2)
def fAppend : List D → List D → Option (D × List D) := fun l ds => match ds with
  | [d] => if l.length < 100000 then some (.dat .non, l ++ [d]) else none
  | _ => none
theorem append_ok : MSim K rAppend (updL fAppend) := updL_ok fun ι X S H a xs l ds vs d l' Q rel ex rxs rvs e k => by
  unfold fAppend at e
  split at e
  · split at e
    · rename_i hl
      cases e
      obtain ⟨v, rfl, rv⟩ := repDs_one rvs
      exact ⟨a, xs, v, rfl, rfl, ex, smalls (by rw [repDs_len rxs]; exact hl), k _ _ rd_non (repDs_snoc rxs rv)⟩
    · cases e
  · cases e
def fPop : List D → List D → Option (D × List D) := fun l ds => match ds with
  | [] => match l[l.length - 1]? with
    | some d => some (d, l.dropLast)
    | none => none
  | _ => none
theorem repDs_dropLast {ι X : List Addr} {H : Hp} {l : List D} {xs : List V} (r : RepDs K ι X H l xs) : RepDs K ι X H l.dropLast xs.dropLast := by
  rw [List.dropLast_eq_take, List.dropLast_eq_take, repDs_len r]
  exact repDs_take _ r
theorem pop_ok : MSim K rPop (updL fPop) := updL_ok fun ι X S H a xs l ds vs d l' Q rel ex rxs rvs e k => by
  unfold fPop at e
  split at e
  · split at e
    · rename_i d' ed
      cases e
      rw [show vs = [] from rvs]
      obtain ⟨y, ey, ry⟩ := repDs_at rxs ed
      exact ⟨a, xs, y, rfl, rfl, ex, by rw [repDs_len rxs]; exact ey, k _ _ ry (repDs_dropLast rxs)⟩
    · cases e
  · cases e
theorem repDs_erase {ι X : List Addr} {H : Hp} : ∀ {l : List D} {xs : List V} (k : Nat), RepDs K ι X H l xs → RepDs K ι X H (l.eraseIdx k) (xs.eraseIdx k)
  | [], xs, k, r => by rw [show xs = [] from r]; rfl
  | _ :: _, _, 0, ⟨y, ys, rfl, f, g⟩ => g
  | _ :: _, _, k + 1, ⟨y, ys, rfl, f, g⟩ => ⟨y, _, rfl, f, repDs_erase k g⟩
def fPopAt : List D → List D → Option (D × List D) := fun l ds => match ds with
  | [.dat (.int i)] => match ixN l.length i with
    | some k => if -100000 ≤ i ∧ i ≤ 100000 then (l[k]?).map fun d => (d, l.eraseIdx k) else none
    | none => none
  | _ => none
theorem popAt_ok : MSim K rPopAt (updL fPopAt) := updL_ok fun ι X S H a xs l ds vs d l' Q rel ex rxs rvs e k => by
  unfold fPopAt at e
  split at e
  · rename_i i
    split at e
    · rename_i j hj
      split at e
      · rename_i hi
        cases q : l[j]? with
        | none => rw [q] at e; cases e
        | some d' =>
          rw [q] at e
          cases e
          obtain ⟨v, rfl, rv⟩ := repDs_one rvs
          obtain ⟨y, ey, ry⟩ := repDs_at rxs q
          rw [← repDs_len rxs] at hj
          exact ⟨a, xs, i, j, y, rfl, by rw [rI_inv rv], ex, by omega, by omega, (ixN_seq hj).1, ey, k _ _ ry (repDs_erase j rxs)⟩
      · cases e
    · cases e
  · cases e
theorem repDs_app {ι X : List Addr} {H : Hp} : ∀ {l k : List D} {xs ys : List V}, RepDs K ι X H l xs → RepDs K ι X H k ys → RepDs K ι X H (l ++ k) (xs ++ ys)
  | [], k, xs, ys, r, q => by rw [show xs = [] from r]; exact q
  | _ :: _, k, _, ys, ⟨y, zs, rfl, f, g⟩, q => ⟨y, zs ++ ys, rfl, f, repDs_app g q⟩
def rInsM : V → List V → Hp → VK → Prop := fun x vs H Q => ∃ (l : Addr) (xs : List V) (i : Int) (y : V), x = .ref l ∧ vs = [.int i, y] ∧ H l = some (.lst xs) ∧ xs.length < sizeLine ∧ 0 ≤ i ∧ i < 2 ^ 63 ∧
    Q .non (upd H l (.lst (xs.take i.toNat ++ [y] ++ xs.drop i.toNat)))
def fInsert : List D → List D → Option (D × List D) := fun l ds => match ds with
  | [.dat (.int i), d] => if l.length < 100000 ∧ 0 ≤ i ∧ i ≤ 100000 then some (.dat .non, l.take i.toNat ++ [d] ++ l.drop i.toNat) else none
  | _ => none
theorem insert_ok : MSim K rInsM (updL fInsert) := updL_ok fun ι X S H a xs l ds vs d l' Q rel ex rxs rvs e k => by
  unfold fInsert at e
  split at e
  · rename_i i d'
    split at e
    · rename_i h
      cases e
      obtain ⟨v, u, rfl, r1, r2⟩ := repDs_two rvs
      exact ⟨a, xs, i, u, rfl, by rw [rI_inv r1], ex, smalls (by rw [repDs_len rxs]; exact h.1), h.2.1, by omega, k _ _ rd_non (repDs_app (repDs_app (repDs_take _ rxs) ⟨u, [], rfl, r2, rfl⟩) (repDs_drop _ rxs))⟩
    · cases e
  · cases e
/-- xs.extend(ys), ys another list -/
def fExt (S : Store) : List D → List D → Option (D × List D) := fun l ds => match ds with
  | [d] => match listP S d with
    | some k => if l.length + k.length ≤ 100000 then some (.dat .non, l ++ k.map .dat) else none
    | none => none
  | _ => none
theorem extend_ok : MSim K rExtend (fun x ds S => updL (fExt S) x ds S) := by
  intro ι X S H x v ds vs Q rel rx rvs hp
  unfold updL at hp
  cases x with
  | dat p => exact hp.elim
  | obj i =>
    obtain ⟨a, ea, rfl⟩ := rx
    simp only at hp
    cases es : S[i]? with
    | none => rw [es] at hp; exact hp.elim
    | some o =>
      cases o with
      | ins C l => simp only [es] at hp; exact hp.elim
      | dic l => simp only [es] at hp; exact hp.elim
      | lst l =>
        simp only [es] at hp
        unfold fExt at hp
        match ds, rvs, hp with
        | [], _, hp => exact hp.elim
        | [d], rvs, hp =>
          simp only at hp
          obtain ⟨u, rfl, ru⟩ := repDs_one rvs
          cases q : listP S d with
          | none => rw [q] at hp; exact hp.elim
          | some k =>
            simp only [q] at hp
            by_cases hl : l.length + k.length ≤ 100000
            · rw [if_pos hl] at hp
              obtain ⟨xs, ex, rxs⟩ := rel.at_ i _ a es ea
              obtain ⟨b, ys, rfl, eb, rys⟩ := listP_rep rel q ru
              refine ⟨a, b, xs, ys, rfl, rfl, ex, eb, small (by rw [repDs_len rxs, repPs_len rys]; exact hl), ?_⟩
              have ma : a ∈ ι := List.mem_of_getElem? ea
              have r3 := repDs_app rxs (repDs_dat rys)
              have o1 : Out1 ι X H ι X (upd H a (.lst (xs ++ ys))) := Out1.ext ⟨⟨[], by simp⟩, fun b w n h => by rw [upd_ne (fun z => n (by rw [z]; exact ma))]; exact h, fun b m n => absurd m n⟩
              obtain ⟨r2, x2⟩ := rel.put (o := .lst (l ++ k.map .dat)) (u := .lst (xs ++ ys)) ea ⟨_, upd_same, r3.out o1⟩
              exact hp ι _ _ x2 r2 rd_non
            · rw [if_neg hl] at hp; exact hp.elim
        | _ :: _ :: _, _, hp => exact hp.elim
/-- reading methods -/
def rdM (f : Store → D → List D → Option D) : D → List D → Store → R D := fun x ds S => oR (f S x ds) S
theorem rdM_ok {r : V → List V → Hp → VK → Prop} {f : Store → D → List D → Option D}
    (h : ∀ ι X S H x v ds vs d Q, Rel K ι X S H → RepD K ι X H x v → RepDs K ι X H ds vs → f S x ds = some d → (∀ H' w, Ext ι H ι H' → Rel K ι X S H' → RepD K ι X H' d w → Q w H') → r v vs H Q) : MSim K r (rdM f) := by
  intro ι X S H x v ds vs Q rel rx rvs hp
  unfold rdM at hp
  cases q : f S x ds with
  | none => rw [q] at hp; exact hp.elim
  | some d =>
    rw [q] at hp
    exact h ι X S H x v ds vs d Q rel rx rvs q fun H' w x r k => hp ι H' w x r k
/-- the first place -/
def idxF (y : P) : List P → Option Nat
  | [] => none
  | p :: l => if eqF p y = true then some 0 else (idxF y l).map (· + 1)
def fIndex : Store → D → List D → Option D := fun S x ds => match ds with
  | [.dat y] => match listP S x with
    | some l => if flatP y = true ∧ l.all flatP = true then (idxF y l).map fun j => dInt (j : Nat) else none
    | none => none
  | _ => none
theorem idxF_spec {y : P} : ∀ {l : List P} {j : Nat}, idxF y l = some j → (∃ z, l[j]? = some z ∧ eqF z y = true) ∧ ∀ (m : Nat) z, m < j → l[m]? = some z → eqF z y = false
  | [], j, e => by cases e
  | p :: l, j, e => by
    unfold idxF at e
    split at e
    · rename_i h
      cases e
      exact ⟨⟨p, rfl, h⟩, fun m z hm => by omega⟩
    · rename_i h
      cases q : idxF y l with
      | none => rw [q] at e; cases e
      | some k =>
        rw [q] at e
        cases e
        obtain ⟨⟨z, h1, h2⟩, h3⟩ := idxF_spec q
        refine ⟨⟨z, by simpa using h1, h2⟩, fun m w hm hw => ?_⟩
        have hm : m < k + 1 := hm
        cases m with
        | zero =>
          have e2 : p = w := by simpa using hw
          subst e2
          exact Bool.eq_false_iff.mpr h
        | succ m => exact h3 m w (by omega) (by simpa using hw)
theorem index_ok : MSim K (fun x xs H Q => rIndex K x xs H Q) (rdM fIndex) := rdM_ok fun ι X S H x v ds vs d Q rel rx rvs e k => by
  unfold fIndex at e
  split at e
  · rename_i y
    split at e
    · rename_i l e1
      split at e
      · rename_i h
        cases q : idxF y l with
        | none => rw [q] at e; cases e
        | some j =>
          rw [q] at e
          cases e
          obtain ⟨u, rfl, ru⟩ := repDs_one rvs
          obtain ⟨a, xs, rfl, f, g⟩ := listP_rep rel e1 rx
          obtain ⟨⟨z, h1, h2⟩, h3⟩ := idxF_spec q
          obtain ⟨w, ew, rw1⟩ := repPs_at g h1
          have ru : RepP K ι X H y u := ru
          have fz : flatP z = true := List.all_eq_true.mp h.2 z (List.mem_of_getElem? h1)
          refine ⟨a, xs, u, j, w, rfl, rfl, SqL.of f, flat_rep h.1 ru, flats_rep h.2 g, ew, by rw [eqF_rep fz h.1 rw1 ru]; exact h2, fun m z' hm hz => ?_, k H _ Ext.refl rel rd_int⟩
          have hl := repPs_len g
          have hm2 : m < l.length := by have := (List.getElem?_eq_some_iff.mp hz).1; omega
          have e2 := List.getElem?_eq_getElem hm2
          have fz2 : flatP l[m] = true := List.all_eq_true.mp h.2 _ (List.getElem_mem hm2)
          rw [eqF_rep fz2 h.1 (repPs_nth g e2 hz) ru]
          exact h3 m _ hm e2
      · cases e
    · cases e
  · cases e
/-- list.count of flags, ints -/
def fCountI : Store → D → List D → Option D := fun S x ds => match ds with
  | [.dat (.int k)] => ((listP S x).bind intsP).map fun l => dInt (l.count k : Nat)
  | _ => none
theorem countI_ok : MSim K (fun x xs H Q => rCntI K x xs H Q) (rdM fCountI) := rdM_ok fun ι X S H x v ds vs d Q rel rx rvs e k => by
  unfold fCountI at e
  split at e
  · rename_i n
    cases q : (listP S x).bind intsP with
    | none => rw [q] at e; cases e
    | some l =>
      rw [q] at e
      cases e
      obtain ⟨u, rfl, ru⟩ := repDs_one rvs
      obtain ⟨a, rfl, f⟩ := ints_of rel q rx
      exact ⟨a, l, n, rfl, by rw [rI_inv ru], f, k H _ Ext.refl rel rd_int⟩
  · cases e
/-- list.remove of ints -/
def fRemI : List D → List D → Option (D × List D) := fun l ds => match ds with
  | [.dat (.int k)] => match (datAll l).bind intsP with
    | some ns => (ns.idxOf? k).map fun j => (.dat .non, (ns.eraseIdx j).map fun i => .dat (.int i))
    | none => none
  | _ => none
/-! ### stores -/
def setD (x y v : D) (S : Store) : Option Store := match x, y with
  | .obj i, .dat (.int k) => match S[i]? with
    | some (.lst l) => (ixN l.length k).map fun j => S.set i (.lst (l.set j v))
    | _ => none
  | _, _ => none
theorem repDs_set {ι X : List Addr} {H : Hp} {d : D} {v : V} : ∀ {l : List D} {xs : List V} (k : Nat), RepDs K ι X H l xs → RepD K ι X H d v → RepDs K ι X H (l.set k d) (xs.set k v)
  | [], xs, k, r, q => by rw [show xs = [] from r]; rfl
  | _ :: _, _, 0, ⟨y, ys, rfl, f, g⟩, q => ⟨v, ys, rfl, q, g⟩
  | _ :: _, _, k + 1, ⟨y, ys, rfl, f, g⟩, q => ⟨y, _, rfl, f, repDs_set k g q⟩
theorem setD_ok {ι X : List Addr} {S S' : Store} {H : Hp} {x y d : D} {v u w : V} {Q : Hp → Prop} (rel : Rel K ι X S H) (rx : RepD K ι X H x v) (ry : RepD K ι X H y u) (rd : RepD K ι X H d w) (e : setD x y d S = some S')
    (k : ∀ H', Ext ι H ι H' → Rel K ι X S' H' → Q H') : rSetL v u w H Q := by
  unfold setD at e
  split at e
  · rename_i i n
    obtain ⟨a, ea, rfl⟩ := rx
    cases es : S[i]? with
    | none => rw [es] at e; cases e
    | some o =>
      cases o with
      | ins C l => simp only [es] at e; cases e
      | dic l => simp only [es] at e; cases e
      | lst l =>
        simp only [es] at e
        cases q : ixN l.length n with
        | none => rw [q] at e; cases e
        | some j =>
          rw [q] at e
          cases e
          obtain ⟨xs, ex, rxs⟩ := rel.at_ i _ a es ea
          refine ⟨a, xs, n, j, rfl, rI_inv ry, ex, by rw [repDs_len rxs]; exact q, ?_⟩
          have ma : a ∈ ι := List.mem_of_getElem? ea
          have o1 : Out1 ι X H ι X (upd H a (.lst (xs.set j w))) := Out1.ext ⟨⟨[], by simp⟩, fun b w n h => by rw [upd_ne (fun z => n (by rw [z]; exact ma))]; exact h, fun b m n => absurd m n⟩
          obtain ⟨r2, x2⟩ := rel.put (o := .lst (l.set j d)) (u := .lst (xs.set j w)) ea ⟨_, upd_same, (repDs_set j rxs rd).out o1⟩
          exact k _ x2 r2
  · cases e
def gmSub (a b : DE) : DG := fun d δ S => (a δ S).bind fun x S1 => (b δ S1).bind fun y S2 => match setD x y d S2 with
  | some S3 => .ok δ S3
  | none => .fail
theorem sg_sub {to ti : TE} {a b : DE} (ha : SE K W to a) (hb : SE K W ti b) : SG K W (gSub to ti rSetL) (gmSub a b) := by
  intro ι X S H σ δ d w N rel re rd h
  refine ha ι X S H σ δ _ rel re (Post.bind h fun ι1 H1 x S1 v x1 rel1 rv h1 => ?_)
  refine hb ι1 X S1 H1 σ δ _ rel1 (re.ext x1) (Post.bind h1 fun ι2 H2 y S2 u x2 rel2 ru h2 => ?_)
  cases q : setD x y d S2 with
  | none => simp only [q] at h2; exact h2.elim
  | some S3 =>
    simp only [q] at h2
    exact setD_ok rel2 (rv.ext x2) ru ((rd.ext x1).ext x2) q fun H3 x3 rel3 => h2 ι2 H3 σ x3 rel3 (((re.ext x1).ext x2).ext x3)
/-- xs[i] += e -/
def getD (S : Store) (x y : D) : Option D := match y with
  | .dat (.int (.ofNat k)) => match listD S x with
    | some l => l[k]?
    | none => none
  | _ => none
def mAugS (a b c : DE) : DS := fun δ S => (a δ S).st δ fun x S1 => (b δ S1).st δ fun y S2 => match getD S2 x y with
  | some (.dat (.int old)) => (c δ S2).st δ fun z S3 => (match z with
    | .dat (.int n) => (match setD x y (.dat (.int (old + n))) S3 with
      | some S4 => .ok (.nx δ) S4
      | none => .fail)
    | _ => .fail)
  | _ => .fail
def rGetK (K : PySem.W.Frag) : V → V → Hp → VK → Prop := fun x y H Q => ∃ (p : Addr) (xs : List V) (i : Nat) (v : V), x = .ref p ∧ y = .int (i : Int) ∧ SqL K H p xs ∧ xs[i]? = some v ∧ Q v H
theorem ss_augS {to ti te : TE} {a b c : DE} (ha : SE K W to a) (hb : SE K W ti b) (hc : SE K W te c) : SS K W (tAugS to ti te (rGetK K) (ipI fun i j => i + j) rSetL) (mAugS a b c) := by
  intro ι X S H σ δ E rel re h
  refine ha ι X S H σ δ _ rel re (PostS.st re h fun ι1 H1 x S1 v x1 rel1 rv h1 => ?_)
  refine hb ι1 X S1 H1 σ δ _ rel1 (re.ext x1) (PostS.st (re.ext x1) h1 fun ι2 H2 y S2 u x2 rel2 ru h2 => ?_)
  have re2 := (re.ext x1).ext x2
  cases q : getD S2 x y with
  | none => simp only [q] at h2; exact h2.elim
  | some o =>
    cases o with
    | obj i => simp only [q] at h2; exact h2.elim
    | dat p =>
      cases p with
      | int old =>
        simp only [q] at h2
        have rv2 := rv.ext x2
        unfold getD at q
        split at q
        · rename_i k
          split at q
          · rename_i l el
            obtain ⟨pa, xs, rfl, f, g⟩ := listD_rep rel2 el rv2
            obtain ⟨w, ew, rw1⟩ := repDs_at g q
            refine ⟨pa, xs, k, w, rfl, rI_inv ru, SqL.of f, ew, ?_⟩
            refine hc ι2 X S2 H2 σ δ _ rel2 re2 (PostS.st re2 h2 fun ι3 H3 z S3 t x3 rel3 rt h3 => ?_)
            split at h3
            · rename_i n
              split at h3
              · rename_i S4 e4
                refine ⟨old, n, rI_inv rw1, rI_inv rt, ?_⟩
                exact setD_ok rel3 (rv2.ext x3) (ru.ext x3) rd_int e4 fun H4 x4 rel4 => h3 ι3 H4 σ x4 rel4 ((re2.ext x3).ext x4)
              · exact h3.elim
            · exact h3.elim
          · cases q
        · cases q
      | _ => simp only [q] at h2; exact h2.elim
/-- x op= e -/
def mAug (i : Nat) (f : Store → D → D → Option D) (a : DE) : DS := fun δ S => match δ[i]? with
  | some (some x) => (a δ S).st δ fun y S1 => (match f S1 x y with
    | some z => .ok (.nx (δ.set i (some z))) S1
    | none => .fail)
  | _ => .fail
theorem ss_aug {i : Nat} {te : TE} {ti : TIp} {f : Store → D → D → Option D} {a : DE} (ha : SE K W te a)
    (hf : ∀ ι X S H x y v u d Q, Rel K ι X S H → RepD K ι X H x v → RepD K ι X H y u → f S x y = some d → (∀ H' w, Ext ι H ι H' → Rel K ι X S H' → RepD K ι X H' d w → Q w H') → ti v u H Q) : SS K W (tAug i te ti) (mAug i f a) := by
  intro ι X S H σ δ E rel re h
  unfold mAug at h
  split at h
  · rename_i x ex
    obtain ⟨v, ev, rv⟩ := re.2 i x ex
    refine ⟨v, ev, ha ι X S H σ δ _ rel re (PostS.st re h fun ι1 H1 y S1 u x1 rel1 ru h1 => ?_)⟩
    split at h1
    · rename_i z ez
      exact hf ι1 X S1 H1 x y v u z _ rel1 (rv.ext x1) ru ez fun H2 w x2 rel2 rw2 => h1 ι1 H2 _ x2 rel2 (((re.ext x1).ext x2).set rw2)
    · exact h1.elim
  · exact h.elim
theorem ip_add_ok : ∀ ι X S H x y v u d Q, Rel K ι X S H → RepD K ι X H x v → RepD K ι X H y u → iop (fun i j => dInt (i + j)) yes2 S x y = some d → (∀ H' w, Ext ι H ι H' → Rel K ι X S H' → RepD K ι X H' d w → Q w H') → ipI (fun i j => i + j) v u H Q := by
  intro ι X S H x y v u d Q rel rx ry e k
  unfold iop yes2 at e
  split at e
  · rename_i i j
    rw [if_pos rfl] at e
    cases e
    exact ⟨i, j, rI_inv rx, rI_inv ry, k H _ Ext.refl rel rd_int⟩
  · cases e
end
end M3
namespace M3
open PySem PySem.Spec PyProof.Rows L2
/-! ### == by an own __eq__ -/
def rEqI (K : PySem.W.Frag) (C : Addr) (sp : Sp) : R2 := fun x y H Q => ∃ a dx fs t, x = .ref a ∧ H a = some (.ins C dx fs) ∧ TyX K H y t ∧ PySem.W.notFirst K C t = true ∧ sp [x, y] H Q E0
theorem op_eqI {X : Cx} {C g : Addr} {n j : Nat} {fd : FuncData} {ps : List Str} {sp : Sp} (hs : PySem.W.findIn X.K (.ref C) "__eq__" = some (some (.ref g))) (hf : PySem.W.isFn X.K (.ref g) = true) (F : FnOk X.prog X.w X.K X.mg X.base CX0 n g fd ps sp) (hb : Binds X.K fd ps [])
    (hr : Room j X.A) (hj : n ≤ j) : OpR X (compareOp .Eq) (rEqI X.K C sp) := by
  intro pins s σ H x y v u Q I rx ry h
  obtain ⟨a, dx, fs, t, rfl, ea, ty, hn, q⟩ := h
  cases (show v = Value.ref a from rx)
  obtain ⟨mA, O, _⟩ := ins_get I.hok ea
  obtain ⟨od, J, _⟩ := O.look
  obtain ⟨P, Z, p, hx⟩ := kit_of I ry ty
  obtain ⟨m, hF⟩ := I.fr
  refine PySem.W.cmp_K (op := .Eq) (tb := t) hr.units0 hF I.ok.mod.kin J (Z.ty _ _ I.kIn p) hn hs hf ?_
  refine wpAny_mono (run_fn (us := [.ref a, u]) (vs := [.ref a, y]) F (hr.mono hj) hb .nil pass0 I (.cons rfl (.cons ry .nil)) q) (fun w s' z => ?_) fun _ _ x => x
  obtain ⟨z', H', I', rz, qz⟩ := z
  exact SlX.cmpback rz ⟨z', H', I', rz, qz⟩
/-! ### a new instance, what is raised wished for at the slots -/
def tMakeS (C : Addr) (sp : Sp) (E : L2.St → XK) (t : TA) : TE := fun σ H Q => t σ H fun vs H1 => ∀ x dx, H1 x = none → H1 dx = none → dx ≠ x → sp (.ref x :: vs) (upd (upd H1 dx (.own x)) x (.ins C dx [])) (fun v H2 => v = .non ∧ Q (.ref x) H2) (E σ)
section
variable {X : Cx} {C f : Addr} {k : Nat} {fd : FuncData} {ps : List Str} {sp : Sp} {CX : CXT} {x : Str} {e : Expr} {es : List Expr} {t : TA} {p pos : Pos} {E : L2.St → XK}
theorem pe_makeS (M : Mk X.K C f) (F : FnOk X.prog X.w X.K X.mg X.base CX k f fd ps sp) (hr : Room (k + 1) X.A) (hg : Gl X x) (hm : X.mg x = some (.ref C)) (hb : Binds X.K fd ps []) (hx : ∀ σ, PassesAt CX X σ (E σ))
    (ha : PA X (e :: es) t) (hdb : (x == ("__debug__" : Str)) = false := by decide) (he : starEach (e :: es) X.env = (false, eval e X.env) :: starEach es X.env := by rfl) (hpl : (backTo pos (starEach es X.env)).any (·.1) = false := by rfl) :
    PE X (.Call (.Name x p) (e :: es) [] pos) (tMakeS C sp E t) := by
  refine ⟨fun pins s σ H Q I h => ?_⟩
  refine wpAny_Call_Name_kw (ld_glob I hg hm ?_ hdb)
  refine PySem.W.callWith_K (h₀ := X.base) I.ok.mod.kin M.kp (thn (ha.run pos pins s σ H _ I h) fun us s1 ⟨vs, H1, I1, r, q⟩ => ⟨I1.kIn, ?_⟩) he hpl
  have hq := q (s1.heap.objs.size + 1) s1.heap.objs.size (I1.hok.fresh (Nat.le_succ _)) (I1.hok.fresh (Nat.le_refl _)) (Nat.ne_of_lt (Nat.lt_succ_self _))
  have I2 := Inv.made (C := C) I1
  have r2 : Vals (V.ref (s1.heap.objs.size + 1) :: vs) (Value.ref (s1.heap.objs.size + 1) :: us) := .cons rfl r
  have hl : (Value.ref (s1.heap.objs.size + 1) :: us ++ []).length = ps.length := by
    have e := r2.length
    rw [F.len _ _ _ _ hq] at e
    rw [List.append_nil]
    exact e.symm
  have b := hb _ (Value.ref (s1.heap.objs.size + 1) :: us) I2.kIn hl
  rw [List.append_nil] at b
  refine wpAny_call (make_map (f := f) I1.kIn M.makes M.init (beq_iff_eq.mp M.fn) (codeAny_mono (F.run _ X.stack _ _ ⟨Value.ref (s1.heap.objs.size + 1) :: us, []⟩ (Value.ref (s1.heap.objs.size + 1) :: us) _ _ (E σ) (hr.make C us [])
    (I2.env0.make C us []) b r2 hq) fun r s' hq' => ?_))
  cases r with
  | error e => exact hx σ pins _ _ e s' I2 hq'
  | ok fl =>
    cases fl with
    | ret u =>
      obtain ⟨v, H', I3, rv, ev, q3⟩ := I2.after hq'
      subst ev
      exact ⟨rv, ⟨V.ref (s1.heap.objs.size + 1), H', I3, rfl, q3⟩⟩
    | next => exact False.elim hq'
    | brk => exact False.elim hq'
    | cont => exact False.elim hq'
end

/-! ### attributes -/
/-- attributes that may be read and written -/
def FlOk (K : PySem.W.Frag) (FL : List (Addr × Str)) : Prop := ∀ z ∈ FL, Cls K z.1 ∧ NoAttr K z.1 z.2
def lookD (f : Str) : List (Str × D) → Option D
  | [] => none
  | (g, d) :: l => if f = g then some d else lookD f l
def lookPf (f : Str) : List (Str × P) → Option P
  | [] => none
  | (g, d) :: l => if f = g then some d else lookPf f l
def fldD (FL : List (Addr × Str)) (f : Str) (S : Store) : D → Option D
  | .obj i => match S[i]? with
    | some (.ins C l) => if (C, f) ∈ FL then lookD f l else none
    | _ => none
  | .dat (.ins C l) => if (C, f) ∈ FL then (lookPf f l).map .dat else none
  | _ => none
def mFld (FL : List (Addr × Str)) (f : Str) (a : DE) : DE := fun δ S => (a δ S).bind fun d S1 => oR (fldD FL f S1 d) S1
def putD (f : Str) (d : D) : List (Str × D) → List (Str × D)
  | [] => [(f, d)]
  | (g, x) :: r => if g = f then (g, d) :: r else (g, x) :: putD f d r
section
variable {K : PySem.W.Frag} {W : L2.St → WK} {FL : List (Addr × Str)}
theorem lookup_cons {β : Type} (f g : Str) (v : β) (l : List (Str × β)) : List.lookup f ((g, v) :: l) = if f = g then some v else List.lookup f l := by
  rw [List.lookup]
  by_cases h : f = g
  · rw [if_pos h]
    have : (f == g) = true := by simpa using h
    rw [this]
  · rw [if_neg h]
    have : (f == g) = false := by simpa using h
    rw [this]
theorem lookD_rep {ι X : List Addr} {H : Hp} {f : Str} : ∀ {l : List (Str × D)} {xs : List (Str × V)} {d : D}, RepDF K ι X H l xs → lookD f l = some d → ∃ v, xs.lookup f = some v ∧ RepD K ι X H d v
  | [], xs, d, r, e => by cases e
  | (g, d') :: l, xs, d, ⟨y, ys, ex, h, k⟩, e => by
    unfold lookD at e
    rw [ex, lookup_cons]
    split at e
    · rename_i hfg
      cases e
      exact ⟨y, by rw [if_pos hfg], h⟩
    · rename_i hfg
      obtain ⟨v, h1, h2⟩ := lookD_rep k e
      exact ⟨v, by rw [if_neg hfg]; exact h1, h2⟩
theorem lookPf_rep {ι X : List Addr} {H : Hp} {f : Str} : ∀ {l : List (Str × P)} {xs : List (Str × V)} {d : P}, RepFs K ι X H l xs → lookPf f l = some d → ∃ v, xs.lookup f = some v ∧ RepP K ι X H d v
  | [], xs, d, r, e => by cases e
  | (g, d') :: l, xs, d, r, e => by
    rw [RepFs] at r
    obtain ⟨y, ys, ex, h, k⟩ := r
    unfold lookPf at e
    rw [ex, lookup_cons]
    split at e
    · rename_i hfg
      cases e
      exact ⟨y, by rw [if_pos hfg], h⟩
    · rename_i hfg
      obtain ⟨v, h1, h2⟩ := lookPf_rep k e
      exact ⟨v, by rw [if_neg hfg]; exact h1, h2⟩
theorem fldD_rep {ι X : List Addr} {S : Store} {H : Hp} {f : Str} {x d : D} {v : V} (FO : FlOk K FL) (rel : Rel K ι X S H) (rx : RepD K ι X H x v) (e : fldD FL f S x = some d) :
    ∃ a C dx fs w, v = .ref a ∧ H a = some (.ins C dx fs) ∧ Cls K C ∧ NoAttr K C f ∧ fs.lookup f = some w ∧ RepD K ι X H d w := by
  cases x with
  | obj i =>
    obtain ⟨a, ea, rfl⟩ := rx
    unfold fldD at e
    simp only at e
    cases es : S[i]? with
    | none => rw [es] at e; cases e
    | some o =>
      cases o with
      | lst l => simp only [es] at e; cases e
      | dic l => simp only [es] at e; cases e
      | ins C l =>
        simp only [es] at e
        split at e
        · rename_i m
          obtain ⟨dx, xs, ex, rxs⟩ := rel.at_ i _ a es ea
          obtain ⟨w, ew, rw1⟩ := lookD_rep rxs e
          exact ⟨a, C, dx, xs, w, rfl, ex, (FO _ m).1, (FO _ m).2, ew, rw1⟩
        · cases e
  | dat p =>
    cases p with
    | ins C l =>
      unfold fldD at e
      simp only at e
      split at e
      · rename_i m
        cases q : lookPf f l with
        | none => rw [q] at e; cases e
        | some p =>
          rw [q] at e
          cases e
          have rx : RepP K ι X H (.ins C l) v := rx
          rw [RepP] at rx
          obtain ⟨a, dx, xs, rfl, _, _, ex, rxs⟩ := rx
          obtain ⟨w, ew, rw1⟩ := lookPf_rep rxs q
          exact ⟨a, C, dx, xs, w, rfl, ex, (FO _ m).1, (FO _ m).2, ew, rw1⟩
      · cases e
    | _ => cases e
theorem se_fld {f : Str} {ta : TE} {a : DE} (FO : FlOk K FL) (ha : SE K W ta a) : SE K W (tFld K ta f) (mFld FL f a) := by
  intro ι X S H σ δ Q rel re h
  refine ha ι X S H σ δ _ rel re (Post.bind h fun ι1 H1 x S1 v x1 rel1 rv h1 => ?_)
  obtain ⟨d, e, k⟩ := post_oR h1
  obtain ⟨a, C, dx, fs, w, h1, h2, h3, h4, h5, h6⟩ := fldD_rep FO rel1 rv e
  exact ⟨a, C, dx, fs, w, h1, h2, h3, h4, h5, k H1 w Ext.refl rel1 h6⟩
theorem putD_rep {ι X : List Addr} {H : Hp} {f : Str} {d : D} {v : V} (rd : RepD K ι X H d v) : ∀ {l : List (Str × D)} {xs : List (Str × V)}, RepDF K ι X H l xs → RepDF K ι X H (putD f d l) (putF f v xs)
  | [], xs, r => by
    rw [show xs = [] from r]
    exact ⟨v, [], rfl, rd, rfl⟩
  | (g, d') :: l, xs, ⟨y, ys, ex, h, k⟩ => by
    subst ex
    unfold putD putF
    by_cases hg : g = f
    · rw [if_pos hg, if_pos hg]
      exact ⟨v, ys, rfl, rd, k⟩
    · rw [if_neg hg, if_neg hg]
      exact ⟨y, _, rfl, h, putD_rep rd k⟩
theorem repDF_len {ι X : List Addr} {H : Hp} : ∀ {l : List (Str × D)} {xs : List (Str × V)}, RepDF K ι X H l xs → xs.length = l.length
  | [], xs, r => by rw [show xs = [] from r]; rfl
  | (g, d') :: l, xs, ⟨y, ys, ex, h, k⟩ => by rw [ex, List.length_cons, List.length_cons, repDF_len k]
def setF (FL : List (Addr × Str)) (f : Str) (x d : D) (S : Store) : Option Store := match x with
  | .obj i => match S[i]? with
    | some (.ins C l) => if (C, f) ∈ FL ∧ l.length < 1000 then some (S.set i (.ins C (putD f d l))) else none
    | _ => none
  | _ => none
def mSetF (FL : List (Addr × Str)) (f : Str) (a v : DE) : DS := fun δ S => (v δ S).st δ fun d S1 => (a δ S1).st δ fun x S2 => match setF FL f x d S2 with
  | some S3 => .ok (.nx δ) S3
  | none => .fail
theorem setF_ok {ι X : List Addr} {S S' : Store} {H : Hp} {f : Str} {x d : D} {v w : V} (FO : FlOk K FL) (rel : Rel K ι X S H) (rx : RepD K ι X H x v) (rd : RepD K ι X H d w) (e : setF FL f x d S = some S') :
    ∃ a C dx fs, v = .ref a ∧ H a = some (.ins C dx fs) ∧ Cls K C ∧ NoAttr K C f ∧ fs.length < 1000 ∧ Ext ι H ι (upd H a (.ins C dx (putF f w fs))) ∧ Rel K ι X S' (upd H a (.ins C dx (putF f w fs))) := by
  unfold setF at e
  split at e
  · rename_i i
    obtain ⟨a, ea, rfl⟩ := rx
    cases es : S[i]? with
    | none => rw [es] at e; cases e
    | some o =>
      cases o with
      | lst l => simp only [es] at e; cases e
      | dic l => simp only [es] at e; cases e
      | ins C l =>
        simp only [es] at e
        split at e
        · rename_i m
          cases e
          obtain ⟨dx, xs, ex, rxs⟩ := rel.at_ i _ a es ea
          have ma : a ∈ ι := List.mem_of_getElem? ea
          have o1 : Out1 ι X H ι X (upd H a (.ins C dx (putF f w xs))) := Out1.ext ⟨⟨[], by simp⟩, fun b w n h => by rw [upd_ne (fun z => n (by rw [z]; exact ma))]; exact h, fun b m n => absurd m n⟩
          obtain ⟨r2, x2⟩ := rel.put (o := .ins C (putD f d l)) (u := .ins C dx (putF f w xs)) ea ⟨dx, _, upd_same, (putD_rep rd rxs).out o1⟩
          exact ⟨a, C, dx, xs, rfl, ex, (FO _ m.1).1, (FO _ m.1).2, by rw [repDF_len rxs]; exact m.2, x2, r2⟩
        · cases e
  · cases e
theorem ss_setF {f : Str} {ta tv : TE} {a v : DE} (FO : FlOk K FL) (ha : SE K W ta a) (hv : SE K W tv v) : SS K W (sFld K ta tv f) (mSetF FL f a v) := by
  intro ι X S H σ δ E rel re h
  refine hv ι X S H σ δ _ rel re (PostS.st re h fun ι1 H1 d S1 w x1 rel1 rd h1 => ?_)
  refine ha ι1 X S1 H1 σ δ _ rel1 (re.ext x1) (PostS.st (re.ext x1) h1 fun ι2 H2 x S2 u x2 rel2 rx h2 => ?_)
  cases q : setF FL f x d S2 with
  | none => simp only [q] at h2; exact h2.elim
  | some S3 =>
    simp only [q] at h2
    obtain ⟨a, C, dx, fs, e1, e2, e3, e4, e5, x3, rel3⟩ := setF_ok FO rel2 rx (rd.ext x2) q
    exact ⟨a, C, dx, fs, e1, e2, e3, e4, e5, h2 ι2 _ σ x3 rel3 (((re.ext x1).ext x2).ext x3)⟩
/-- the class of an object -/
def clsO (S : Store) : D → Option Addr
  | .obj i => match S[i]? with
    | some (.ins C _) => some C
    | _ => none
  | _ => none
theorem clsO_rep {ι X : List Addr} {S : Store} {H : Hp} {a C dx : Addr} {fs : List (Str × V)} {i : Nat} (rel : Rel K ι X S H) (rx : RepD K ι X H (.obj i) (.ref a)) (e : H a = some (.ins C dx fs)) : clsO S (.obj i) = some C := by
  obtain ⟨b, eb, ev⟩ := rx
  cases ev
  obtain ⟨o, eo, ro⟩ := rel.obj eb
  unfold clsO
  simp only [eo]
  cases o with
  | lst l => obtain ⟨xs, f, _⟩ := ro; rw [e] at f; cases f
  | dic l => obtain ⟨xs, f, _⟩ := ro; rw [e] at f; cases f
  | ins C' l => obtain ⟨dx', xs, f, _⟩ := ro; rw [e] at f; cases f; rfl
/-- o.f op= e -/
def mAugF (FL : List (Addr × Str)) (f : Str) (g : Store → D → D → Option D) (a v : DE) : DS := fun δ S => (a δ S).st δ fun x S1 => match fldD FL f S1 x with
  | some old => (v δ S1).st δ fun y S2 => (match g S2 old y with
    | some z => (match setF FL f x z S2 with
      | some S3 => if clsO S1 x = clsO S2 x then .ok (.nx δ) S3 else .fail
      | none => .fail)
    | none => .fail)
  | none => .fail
theorem ss_augF {f : Str} {ta tv : TE} {g : Store → D → D → Option D} {a v : DE} {rd : V → V → Hp → VK → Prop} (FO : FlOk K FL)
    (hg : ∀ ι X S H x y v u d Q, Rel K ι X S H → RepD K ι X H x v → RepD K ι X H y u → g S x y = some d → (∀ w, RepD K ι X H d w → Q w H) → rd v u H Q) (ha : SE K W ta a) (hv : SE K W tv v) : SS K W (sFldAug K ta tv rd f) (mAugF FL f g a v) := by
  intro ι X S H σ δ E rel re h
  refine ha ι X S H σ δ _ rel re (PostS.st re h fun ι1 H1 x S1 u x1 rel1 rx h1 => ?_)
  cases q : fldD FL f S1 x with
  | none => simp only [q] at h1; exact h1.elim
  | some old =>
    simp only [q] at h1
    obtain ⟨a, C, dx, fs, w, e1, e2, e3, e4, e5, r6⟩ := fldD_rep FO rel1 rx q
    refine ⟨a, C, dx, fs, w, e1, e2, e3, e4, e5, ?_⟩
    refine hv ι1 X S1 H1 σ δ _ rel1 (re.ext x1) (PostS.st (re.ext x1) h1 fun ι2 H2 y S2 t x2 rel2 ry h2 => ?_)
    split at h2
    · rename_i z ez
      split at h2
      · rename_i S3 eS
        refine hg ι2 X S2 H2 old y w t z _ rel2 (r6.ext x2) ry ez fun zv rz => ?_
        obtain ⟨a', C', dx', fs', e1', e2', e3', e4', e5', x3, rel3⟩ := setF_ok FO rel2 (rx.ext x2) rz eS
        have ea : a' = a := by rw [e1] at e1'; cases e1'; rfl
        subst ea
        split at h2
        · rename_i hc
          -- of the same class
          have eC : C' = C := by
            cases x with
            | dat p => unfold setF at eS; cases eS
            | obj i =>
              subst e1
              have q1 := clsO_rep rel1 rx e2
              have q2 := clsO_rep rel2 (rx.ext x2) e2'
              rw [q1, q2] at hc
              exact (Option.some.inj hc).symm
          subst eC
          exact ⟨dx', fs', e2', e5', h2 ι2 _ σ x3 rel3 (((re.ext x1).ext x2).ext x3)⟩
        · exact h2.elim
      · exact h2.elim
    · exact h2.elim
/-! ### raise, try -/
def mRaise0 (C : Addr) : DS := fun δ S => .ok (.ex C none δ) S
def mRaise1 (C : Addr) (f : Str) (a : DA) : DS := fun δ S => (a δ S).st δ fun ds S1 => match ds with
  | [.dat p] => .ok (.ex C (some (f, p)) δ) S1
  | _ => .fail
theorem ss_raise0 {C : Addr} {W : WX} : SS K (wk W) (fun _ σ H => W (.ref C) none σ H) (mRaise0 C) := fun ι X S H σ δ E rel re h => h ι H none σ Ext.refl rel rfl re
theorem ss_raise1 {C : Addr} {f : Str} {W : WX} {ta : TA} {a : DA} (ha : SA K (wk W) ta a) : SS K (wk W) (fun _ σ H => ta σ H fun vs H1 => ∃ v, vs = [v] ∧ ∀ d, H1 d = none → W (.ref C) (some d) σ (upd H1 d (.xd [(f, v)]))) (mRaise1 C f a) := by
  intro ι X S H σ δ E rel re h
  refine ha ι X S H σ δ _ rel re (PostS.st re h fun ι1 H1 ds S1 vs x1 rel1 rv h1 => ?_)
  split at h1
  · rename_i p
    obtain ⟨v, rfl, r⟩ := repDs_one rv
    refine ⟨v, rfl, fun d hd => ?_⟩
    have x2 := ext_alloc (o := .xd [(f, v)]) rel1 hd
    exact h1 ι1 _ (some d) σ x2 (rel1.alloc hd) ⟨d, v, rfl, upd_same, RepP.ext x2 r⟩ ((re.ext x1).ext x2)
  · exact h1.elim
/-- a statement that was handed a result -/
def noEx (r : R Out) : R Out := match r with
  | .ok (.ex _ _ _) _ => .fail
  | r => r
def mTryOnly (K : PySem.W.Frag) (c : Value) (b h : DS) : DS := fun δ S => match b δ S with
  | .ok (.ex C x δ1) S1 => (match PySem.W.exmOne K (.ref C) c with
    | some true => noEx (h δ1 S1)
    | some false => .ok (.ex C x δ1) S1
    | none => .fail)
  | r => r
theorem PostS.noEx {X ι : List Addr} {H : Hp} {r : R Out} {E : Ends} (h : PostS K W X ι H (noEx r) E) : PostS K WF X ι H r E := by
  cases r with
  | fail => exact h
  | exc C x S => exact h
  | ok o S => cases o with
    | ex C x δ => exact h.elim
    | nx δ => exact h
    | bk δ => exact h
    | ct δ => exact h
    | rt d => exact h
theorem ss_tryOnly {c : Value} {tb : WX → TS} {ts : Addr → Value → Option Addr → TS} {Wout : WX} {b h : DS} (hb : ∀ W' : WX, SS K (wk W') (tb W') b) (hh : ∀ a cls d, SS K WF (ts a cls d) h) :
    SS K (wk Wout) (fun D σ H => tb (wOnly K c ts Wout D) D σ H) (mTryOnly K c b h) := by
  intro ι X S H σ δ E rel re hp
  refine hb _ ι X S H σ δ E rel re ?_
  unfold mTryOnly at hp
  cases e : b δ S with
  | fail => rw [e] at hp; exact hp
  | exc C x S1 => rw [e] at hp; exact hp
  | ok o S1 =>
    rw [e] at hp
    cases o with
    | nx δ1 => exact hp
    | bk δ1 => exact hp
    | ct δ1 => exact hp
    | rt d => exact hp
    | ex C x δ1 =>
      simp only at hp
      intro ι1 H1 da σ1 x1 rel1 rx re1
      cases q : PySem.W.exmOne K (.ref C) c with
      | none => rw [q] at hp; exact hp.elim
      | some bb =>
        rw [q] at hp
        refine ⟨bb, q, fun eb a ha => ?_, fun eb => ?_⟩
        · subst eb
          exact hh a _ da ι1 X S1 H1 σ1 δ1 _ rel1 re1 (PostS.noEx (PostS.ext x1 hp))
        · subst eb
          exact hp ι1 H1 da σ1 x1 rel1 rx re1
end
end M3
namespace M3
open PySem PySem.Spec PyProof.Rows L2
section
variable {X : Cx} {K : PySem.W.Frag} {W : L2.St → WK} {CS : List Addr}
/-! ### rules that name K -/
theorem call_allM (h : X.K = K) (hc : X.calm = true) : CallR X (.builtin "all") (rAll K) := h ▸ cr_all hc
theorem call_anyM (h : X.K = K) (hc : X.calm = true) : CallR X (.builtin "any") (rAny K) := h ▸ cr_any hc
theorem call_sumM (h : X.K = K) (hc : X.calm = true) : CallR X (.builtin "sum") (rSum K) := h ▸ cr_sum hc
theorem mt_indexM (h : X.K = K) : MtR X "list.index" (fun x xs H Q => rIndex K x xs H Q) := h ▸ mt_index
theorem mt_countM (h : X.K = K) : MtR X "list.count" (fun x xs H Q => rCntI K x xs H Q) := h ▸ mt_lcount
theorem mt_insertM : MtR X "list.insert" rInsM := mt_insert
theorem get_K (h : X.K = K) : PGet X (rGetK K) := W2.get_listK h
theorem pe_revLK {e : Expr} {te : TE} {k : Nat} {p1 p2 p3 pos : Pos} (h : X.K = K) (he : PE X e te) : PE X (.Subscript e (.Slice none none (some (.UnaryOp .USub (.Constant (.int 1) k p1) p2)) p3) pos) (tRevL K te) := h ▸ pe_revL he
theorem pe_fldK {f : Str} {e : Expr} {te : TE} {pos : Pos} (h : X.K = K) (ha : PE X e te) (hb : attributeBase e f X.env (eval e X.env) = eval e X.env := by rfl) : PE X (.Attribute e f pos) (tFld K te f) := h ▸ pe_fld ha hb
theorem pe_bmK {o e : Expr} {es : List Expr} {to : TE} {t : TA} {name : Str} {apos cpos : Pos} {T id : String} {r : V → List V → Hp → VK → Prop} (h : X.K = K) (pa : PlainAttrs T) (slot : Slot T name id) (hty : typeOf (.builtin id) = pure (.type "method_descriptor")) (hm : MtR X id r) (ho : PE X o to) (ha : PA X (e :: es) t)
    (hbase : attributeBase o name X.env (eval o X.env) = eval o X.env := by rfl)
    (hfew : ((backTo cpos (starEach (e :: es) X.env)).all (fun x => !x.1) && (backToKw cpos (keywordEach [] X.env)).all (fun x => x.1.isSome)
      && decide ((e :: es).length + ([] : List Keyword).length + (if ([] : List Keyword).isEmpty then 0 else 1) < 30)) = true := by rfl)
    (hline : (apos.endLine == cpos.line) = true := by rfl) (hs : starEach (e :: es) X.env = (false, eval e X.env) :: starEach es X.env := by rfl) (hplain : (backTo cpos (starEach es X.env)).any (·.1) = false := by rfl) :
    PE X (.Call (.Attribute o name apos) (e :: es) [] cpos) (tBM K T r to t) := h ▸ pe_bm pa slot hty hm ho ha hbase hfew hline hs hplain
theorem pe_bm0K {o : Expr} {to : TE} {name : Str} {apos cpos : Pos} {T id : String} {r : V → List V → Hp → VK → Prop} (h : X.K = K) (pa : PlainAttrs T) (slot : Slot T name id) (hty : typeOf (.builtin id) = pure (.type "method_descriptor")) (hm : MtR X id r) (ho : PE X o to)
    (hbase : attributeBase o name X.env (eval o X.env) = eval o X.env := by rfl) (hline : (apos.endLine == cpos.line) = true := by rfl) : PE X (.Call (.Attribute o name apos) [] [] cpos) (tBM0 K T r to) := h ▸ pe_bm0 pa slot hty hm ho hbase hline
/-! ### bit_length -/
def aBits : Store → D → Option D := fun _ x => match x with
  | .dat (.int i) => some (dInt (Builtin.Int.intBits i : Nat))
  | _ => none
theorem se_bits {to : TE} {a : DE} (ha : SE K W to a) : SE K W (tBits to) (mUn aBits a) := by
  intro ι X S H σ δ Q rel re h
  refine ha ι X S H σ δ _ rel re (Post.bind h fun ι1 H1 x S1 v x1 rel1 rv h1 => ?_)
  obtain ⟨d, e, k⟩ := post_oR h1
  unfold aBits at e
  split at e
  · cases e
    exact ⟨_, rI_inv rv, k H1 _ Ext.refl rel1 rd_int⟩
  · cases e
/-! ### isinstance of a tuple of classes -/
theorem se_isiT {te : TE} {ta : TA} {a : DE} {b : DA} (O : OwnCs K CS) (ha : SE K W te a) (hb : SA K W ta b) : SE K W (tCB (rIsiTM K) (tCons te (tCons (tTup ta) tNil))) (mCall (aIsiT K CS) (mCons a (mCons (mTup b) mNil))) := by
  intro ι X S H σ δ Q rel re h
  refine ha ι X S H σ δ _ rel re ?_
  unfold mCall mCons mNil mTup at h
  cases e : a δ S with
  | fail => rw [e] at h; exact h
  | exc C x S1 => rw [e] at h; exact h
  | ok d S1 =>
    rw [e, R.bind_ok] at h
    intro ι1 H1 v x1 rel1 rv
    refine hb ι1 X S1 H1 σ δ _ rel1 (re.ext x1) ?_
    cases e2 : b δ S1 with
    | fail => rw [e2] at h; exact h
    | exc C x S2 => rw [e2] at h; exact (fun ι' H' da x rel rx => h ι' H' da (x1.trans x) rel rx)
    | ok cs S2 =>
      rw [e2, R.bind_ok] at h
      intro ι2 H2 us x2 rel2 rus
      cases q : datAll cs with
      | none => simp only [q] at h; exact h.elim
      | some ps =>
        simp only [q] at h
        by_cases hl : ps.length ≤ 100000
        · rw [if_pos hl] at h
          have rp := datAll_rep q rus
          refine ⟨small (by rw [repPs_len rp]; exact hl), fun p hp => ?_⟩
          simp only [R.bind_ok] at h
          cases q2 : aIsiT K CS S2 [d, .dat (.tup ps)] with
          | none => rw [q2] at h; exact h.elim
          | some r =>
            rw [q2] at h
            have xa := ext_alloc (o := .tup us) rel2 hp
            have ra := rel2.alloc (o := .tup us) hp
            unfold aIsiT at q2
            simp only at q2
            split at q2
            · rename_i t ws e3 e4
              cases q5 : PySem.W.kitAny K t ws with
              | none => rw [q5] at q2; cases q2
              | some bb =>
                rw [q5] at q2
                cases q2
                refine ⟨v, p, us, t, ws, bb, rfl, upd_same, clssD_rep e4 rp, tyD_rep O ra e3 ((rv.ext x2).ext xa), q5, ?_⟩
                exact h ι2 _ _ ((x1.trans x2).trans xa) ra rd_bl
            · cases q2
        · rw [if_neg hl] at h
          exact h.elim
end
section
variable {K : PySem.W.Frag} {W : L2.St → WK}
/-! ### new lists by + and * -/
def mAddL (a b : DE) : DA := fun δ S => (a δ S).bind fun x S1 => (b δ S1).bind fun y S2 => match listD S2 x, listD S2 y with
  | some l, some k => if l.length + k.length ≤ 100000 then .ok (l ++ k) S2 else .fail
  | _, _ => .fail
theorem sl_addL {ta tb : TE} {a b : DE} (ha : SE K W ta a) (hb : SE K W tb b) : SL K W (tOp (rAddM K) ta tb) (mAddL a b) := by
  intro ι X S H σ δ Q rel re h
  refine ha ι X S H σ δ _ rel re (postL_of h fun ι1 H1 x S1 v x1 rel1 rv h1 => ?_)
  refine hb ι1 X S1 H1 σ δ _ rel1 (re.ext x1) ?_
  cases e : b δ S1 with
  | fail => rw [e] at h1; exact h1
  | exc C z S2 => rw [e] at h1; exact fun ι' H' da y rel rx => h1 ι' H' da (x1.trans y) rel rx
  | ok y S2 =>
    rw [e, R.bind_ok] at h1
    intro ι2 H2 u x2 rel2 ru
    split at h1
    · rename_i l k e1 e2
      split at h1
      · rename_i hl
        obtain ⟨p, xs, rfl, f, g⟩ := listD_rep rel2 e1 (rv.ext x2)
        obtain ⟨q, ys, rfl, f2, g2⟩ := listD_rep rel2 e2 ru
        exact .inr (.inr (.inr ⟨p, q, xs, ys, rfl, rfl, f, f2, small (by rw [repDs_len g, repDs_len g2]; exact hl), fun r hr => newL (x1.trans x2) rel2 (repDs_app g g2) h1 hr⟩))
      · exact h1.elim
    · exact h1.elim
def repD (n : Nat) (l : List D) : List D := (List.replicate n l).flatten
theorem repD_rep {ι X : List Addr} {H : Hp} {l : List D} {xs : List V} (r : RepDs K ι X H l xs) : ∀ n, RepDs K ι X H (repD n l) (List.replicate n xs).flatten
  | 0 => rfl
  | n + 1 => by
    unfold repD
    rw [List.replicate_succ, List.flatten_cons, List.replicate_succ, List.flatten_cons]
    exact repDs_app r (repD_rep r n)
def mMulL (a b : DE) : DA := fun δ S => (a δ S).bind fun x S1 => (b δ S1).bind fun y S2 => match listD S2 x, y with
  | some l, .dat (.int j) => if j ≤ 1000000 ∧ 0 ≤ j ∧ l.length * j.toNat ≤ 100000 then .ok (repD j.toNat l) S2 else .fail
  | _, _ => .fail
theorem sl_mulL {ta tb : TE} {a b : DE} (ha : SE K W ta a) (hb : SE K W tb b) : SL K W (tOp (rMulM K) ta tb) (mMulL a b) := by
  intro ι X S H σ δ Q rel re h
  refine ha ι X S H σ δ _ rel re (postL_of h fun ι1 H1 x S1 v x1 rel1 rv h1 => ?_)
  refine hb ι1 X S1 H1 σ δ _ rel1 (re.ext x1) ?_
  cases e : b δ S1 with
  | fail => rw [e] at h1; exact h1
  | exc C z S2 => rw [e] at h1; exact fun ι' H' da y rel rx => h1 ι' H' da (x1.trans y) rel rx
  | ok y S2 =>
    rw [e, R.bind_ok] at h1
    intro ι2 H2 u x2 rel2 ru
    split at h1
    · rename_i l j e1
      split at h1
      · rename_i hl
        obtain ⟨p, xs, rfl, f, g⟩ := listD_rep rel2 e1 (rv.ext x2)
        exact .inr (.inl ⟨p, j, xs, rfl, rI_inv ru, f, by omega, by omega, small (by rw [repDs_len g]; exact hl.2.2), fun r hr => newL (x1.trans x2) rel2 (repD_rep g _) h1 hr⟩)
      · exact h1.elim
    · exact h1.elim
def aAddI := iop (fun i j => dInt (i + j)) yes2
theorem in_add_ok : ∀ ι X S H x y v u d Q, Rel K ι X S H → RepD K ι X H x v → RepD K ι X H y u → aAddI S x y = some d → (∀ w, RepD K ι X H d w → Q w H) → rAdd v u H Q := by
  intro ι X S H x y v u d Q rel rx ry e k
  unfold aAddI iop yes2 at e
  split at e
  · rename_i i j
    rw [if_pos rfl] at e
    cases e
    exact ⟨i, j, rI_inv rx, rI_inv ry, k _ rd_int⟩
  · cases e
end
/-! ### what a law's text gives: the written part, the classes, the attributes -/
structure G where
  K : PySem.W.Frag
  CS : List Addr
  FL : List (Addr × Str)
  (ForestError BadForest NoHouse NoDeed BadDeeds NoNumber NoAsk NoShape NoTurn BadAccount NoMoment NoWeight Full BadHistory NoParcel NoRow BadRow NoCut NoBlocks NoDisk OtherForest NoThing BadThing BadText NothingDone NoLine NoName : Addr)
  (Forest Stand Kept Account Roads History Disk SavedKept Reel Work Desk : Addr)
  (FORMS FLAGS OF_FORESTS OF_ACCOUNTS : Addr)
end M3
namespace M3
open PySem PySem.Spec PyProof.Rows L2
/-! ### x is True, x is False, whatever x is -/
def rIsBo : R2 := fun x y H Q => ∃ b : Bool, y = .bl b ∧ Q (.bl (decide (x = .bl b))) H
theorem op_isB {X : Cx} : OpR X (compareOp .Is) rIsBo := by
  intro pins s σ H x y v u Q I rx ry h
  obtain ⟨b, rfl, q⟩ := h
  cases (show u = Value.bool b from ry)
  by_cases e : x = .bl b
  · subst e
    cases (show v = Value.bool b from rx)
    exact wpAny_is_self rfl ⟨.bl true, H, I, rfl, by simpa using q⟩
  · have nv : v ≠ Value.bool b := fun z => e (rx.inj (show RelV (.bl b) v from z))
    have q' : Q (.bl false) H := by rw [decide_eq_false e] at q; exact q
    cases x with
    | non => cases (show v = Value.none from rx); exact wpAny_is_other rfl (fun z => nomatch z) ⟨.bl false, H, I, rfl, q'⟩
    | bl a => cases (show v = Value.bool a from rx); exact wpAny_is_other rfl nv ⟨.bl false, H, I, rfl, q'⟩
    | int i => obtain ⟨t, rfl⟩ := rx; exact wpAny_is_other rfl nv ⟨.bl false, H, I, rfl, q'⟩
    | str i => obtain ⟨t, rfl⟩ := rx; exact wpAny_is_other rfl nv ⟨.bl false, H, I, rfl, q'⟩
    | byt i => obtain ⟨t, rfl⟩ := rx; exact wpAny_is_other rfl nv ⟨.bl false, H, I, rfl, q'⟩
    | flt i => obtain ⟨t, rfl⟩ := rx; exact wpAny_is_other rfl nv ⟨.bl false, H, I, rfl, q'⟩
    | ref a => cases (show v = Value.ref a from rx); exact wpAny_is_other rfl nv ⟨.bl false, H, I, rfl, q'⟩
    | ty n => cases (show v = Value.type n from rx); exact wpAny_is_other rfl nv ⟨.bl false, H, I, rfl, q'⟩
section
variable {K : PySem.W.Frag}
def isB (b : Bool) : D → Option Bool
  | .dat (.bl c) => some (decide (c = b))
  | .dat (.con _) => none
  | _ => some false
def aIsB : Store → D → D → Option D := fun _ x y => match y with
  | .dat (.bl b) => (isB b x).map dBl
  | _ => none
theorem isB_ok {ι X : List Addr} {H : Hp} {x : D} {v : V} {b c : Bool} (r : RepD K ι X H x v) (e : isB b x = some c) : decide (v = .bl b) = c := by
  cases x with
  | obj i =>
    obtain ⟨a, _, rfl⟩ := r
    cases e
    rfl
  | dat p =>
    have r : RepP K ι X H p v := r
    cases p <;> rw [RepP] at r
    · cases e; rw [r]; rfl
    · cases e
      rw [r]
      rename_i d _
      by_cases h : d = b
      · rw [h]; simp
      · rw [decide_eq_false h]; exact decide_eq_false fun z => h (by cases z; rfl)
    · cases e; rw [r]; rfl
    · cases e; rw [r]; rfl
    · cases e; obtain ⟨a, xs, rfl, _⟩ := r; rfl
    · cases e; obtain ⟨a, xs, rfl, _⟩ := r; rfl
    · cases e; obtain ⟨a, xs, rfl, _⟩ := r; rfl
    · cases e; obtain ⟨a, dx, xs, rfl, _⟩ := r; rfl
    · cases e
    · cases e; obtain ⟨a, rfl, _⟩ := r; rfl
theorem isB_okR : R2S K rIsBo aIsB := by
  intro ι X S H x y v u d Q rel rx ry e k
  unfold aIsB at e
  split at e
  · rename_i b
    cases q : isB b x with
    | none => rw [q] at e; cases e
    | some c =>
      rw [q] at e
      cases e
      refine ⟨b, rB_inv ry, ?_⟩
      rw [isB_ok rx q]
      exact k H _ Ext.refl rel rd_bl
  · cases e
/-! ### shifts -/
def aShl := iop (fun i j => dInt (i * 2 ^ j.toNat)) fun i j => decide (0 ≤ j) && (decide (j ≤ 1000000) && decide (i.natAbs < 2 ^ 64))
theorem shl_ok : R2S K (rI CPow fun i j => .int (i * 2 ^ j.toNat)) aShl := iop_ok (fun _ _ h => by
  rw [Bool.and_eq_true, Bool.and_eq_true] at h
  exact ⟨of_decide_eq_true h.1, of_decide_eq_true h.2.1, of_decide_eq_true h.2.2⟩) fun _ _ _ _ _ => rd_int
def aShr := iop (fun i j => dInt (i / 2 ^ j.toNat)) fun _ j => decide (0 ≤ j)
theorem shr_ok : R2S K (rI (fun _ j => 0 ≤ j) fun i j => .int (i / 2 ^ j.toNat)) aShr := iop_ok (fun _ _ h => of_decide_eq_true h) fun _ _ _ _ _ => rd_int
def aAndI := iop (fun i j => dInt (Builtin.bitAnd i j)) yes2
theorem andI_ok : R2S K (rI0 fun i j => .int (Builtin.bitAnd i j)) aAndI := iop0_ok fun _ _ _ _ _ => rd_int
end
/-! ### attributes as targets -/
def gFldM (K : PySem.W.Frag) (ta : TE) (f : Str) : TG := fun v σ H Q => ta σ H fun x H2 => ∃ a C dx fs, x = .ref a ∧ H2 a = some (.ins C dx fs) ∧ Cls K C ∧ NoAttr K C f ∧ fs.length < 1000 ∧ Q σ (upd H2 a (.ins C dx (putF f v fs)))
theorem pg_fldK {X : Cx} {K : PySem.W.Frag} {o : Expr} {f : Str} {pos : Pos} {ta : TE} (hK : X.K = K) (ha : PE X o ta) : PG X (.Attribute o f pos) (gFldM K ta f) := by
  subst hK
  refine ⟨fun pins s σ H v u Q I r h => ?_⟩
  rw [assign_Attribute]
  refine wpAny_bind (wpAny_holding (thn (ha.run pins s σ H _ I h) fun ov s1 ⟨x, H1, I1, rx, a, C, dx, fs, ex, ea, c, n, l, q⟩ => ?_))
  subst ex
  obtain rfl : ov = Value.ref a := rx
  refine wpAny_bind (wpAny_standAt (wpAny_bind (wpAny_holding ?_)))
  refine setattr_ok I1 ea c n l r fun s3 I3 => ?_
  exact wpAny_release ⟨σ, _, I3, q⟩
section
variable {K : PySem.W.Frag} {W : L2.St → WK} {FL : List (Addr × Str)}
def gmFld (FL : List (Addr × Str)) (f : Str) (a : DE) : DG := fun d δ S => (a δ S).bind fun x S1 => match setF FL f x d S1 with
  | some S2 => .ok δ S2
  | none => .fail
theorem sg_fld {f : Str} {ta : TE} {a : DE} (FO : FlOk K FL) (ha : SE K W ta a) : SG K W (gFldM K ta f) (gmFld FL f a) := by
  intro ι X S H σ δ d w N rel re rd h
  refine ha ι X S H σ δ _ rel re (Post.bind h fun ι1 H1 x S1 v x1 rel1 rv h1 => ?_)
  cases q : setF FL f x d S1 with
  | none => simp only [q] at h1; exact h1.elim
  | some S2 =>
    simp only [q] at h1
    obtain ⟨a, C, dx, fs, e1, e2, e3, e4, e5, x2, rel2⟩ := setF_ok FO rel1 rv (rd.ext x1) q
    exact ⟨a, C, dx, fs, e1, e2, e3, e4, e5, h1 ι1 _ σ x2 rel2 ((re.ext x1).ext x2)⟩
end
/-! ### a new instance within a comprehension -/
section
variable {X : Cx} {C f : Addr} {k j : Nat} {fd : FuncData} {ps : List Str} {sp : Sp} {x : Str} {e : Expr} {es : List Expr} {t : TA} {p pos : Pos}
theorem pe_makeF (M : Mk X.K C f) (F : FnOk X.prog X.w X.K X.mg X.base (L2.CX X.prog X.w) k f fd ps sp) (hr : Room (k + 1) X.A) (hg : Gl X x) (hm : X.mg x = some (.ref C)) (hb : Binds X.K fd ps [])
    (ha : PA X (e :: es) t) (hdb : (x == ("__debug__" : Str)) = false := by decide) (he : starEach (e :: es) X.env = (false, eval e X.env) :: starEach es X.env := by rfl) (hpl : (backTo pos (starEach es X.env)).any (·.1) = false := by rfl) :
    PE X (.Call (.Name x p) (e :: es) [] pos) (tMakeS C sp (fun _ => E0) t) := pe_makeS M F hr hg hm hb (fun _ pins H s e s' _ ⟨_, _, _, _, _, _, _, _, _, _, _, _, h⟩ => h.elim) ha hdb he hpl
end
end M3
namespace M3
open PySem PySem.Spec PyProof.Rows L2
/-! ### the end -/
inductive AllM {α : Type} (p : α → Prop) : List α → Prop
  | nil : AllM p []
  | cons {a : α} {l : List α} (h : p a) (t : AllM p l) : AllM p (a :: l)
theorem AllM.mem {α : Type} {p : α → Prop} {l : List α} (h : AllM p l) : ∀ a ∈ l, p a := by
  induction h with
  | nil => exact fun _ m => nomatch m
  | cons h t ih =>
    intro a m
    cases m with
    | head => exact h
    | tail _ m => exact ih a m
theorem ownCs_mk {K : PySem.W.Frag} {l : List Addr} (h : AllM (OwnC K) l) : OwnCs K l := h.mem
theorem flOk_mk {K : PySem.W.Frag} {l : List (Addr × Str)} (h : AllM (fun z => Cls K z.1 ∧ NoAttr K z.1 z.2) l) : FlOk K l := h.mem
/-- an error of the class at S, and what «except D» names -/
theorem exm_ab {K : PySem.W.Frag} {S D : Addr} (b : Bool) (h1 : PySem.W.subIn K (.ref D) (.type "BaseException") = some true) (h2 : PySem.W.isClsIn K D = true) (h3 : PySem.W.typeIn K (.ref D) = some (.type "type")) (h4 : PySem.W.subIn K (.ref S) (.ref D) = some b) :
    PySem.W.exmOne K (.ref S) (.ref D) = some b := by
  have e1 : (PySem.W.subIn K (.ref D) (.type "BaseException") == some true) = true := by rw [h1] <;> rfl
  have e2 : ((PySem.W.clsIn K D).isSome && PySem.W.typeIn K (.ref D) == some (.type "type")) = true := by
    have h2' : (PySem.W.clsIn K D).isSome = true := h2
    rw [h2', h3] <;> rfl
  show (if (PySem.W.subIn K (.ref D) (.type "BaseException") == some true) = true then (if ((PySem.W.clsIn K D).isSome && PySem.W.typeIn K (.ref D) == some (.type "type")) = true then PySem.W.subIn K (.ref S) (.ref D) else none) else none) = some b
  rw [if_pos e1, if_pos e2]
  exact h4
/-- what the law promises -/
def spLaw (K : PySem.W.Frag) : Sp := fun vs H Q _ => ∃ (a : Addr) (ns : List Int), vs = [.ref a] ∧ SqL K H a (ns.map V.int) ∧ ns.length ≤ 63 ∧ ∀ H', Q (.bl true) H'
theorem law_sp {K : PySem.W.Frag} {m : List D → Store → R D} (h : ∀ ns : List Int, ns.length ≤ 63 → ∃ S, m [.dat (.scr ns)] [] = .ok (.dat (.bl true)) S) : ∀ vs H Q E, spLaw K vs H Q E → spM K 1 m vs H Q E := by
  rintro vs H Q E ⟨a, ns, rfl, hs, hl, hq⟩
  obtain ⟨S, e⟩ := h ns hl
  refine ⟨rfl, [], [], [], [.dat (.scr ns)], ⟨rfl, List.nodup_nil, fun i o a e => by simp at e, fun a m => by simp at m⟩, ?_, ?_⟩
  · refine ⟨.ref a, [], rfl, ?_, rfl⟩
    show RepP K [] [] H (.scr ns) _
    rw [RepP]
    refine ⟨a, rfl, hs.imp (fun x => ⟨by simp, by simp, x⟩) id⟩
  · rw [e]
    intro ι' H' v _ _ rv
    have := rB_inv rv
    rw [this]
    exact hq H'
end M3
namespace M3
open PySem PySem.Spec PyProof.Rows L2
/-! ### running functions of data -/
theorem R.bind_congr {α β : Type} {r r' : R α} (f : α → Store → R β) (h : r = r') : r.bind f = r'.bind f := by rw [h]
theorem R.bnf_congr {α β : Type} {r r' : R α} (f : α → Store → R β) (h : r = r') : r.bnf f = r'.bnf f := by rw [h]
theorem R.st_congr {α : Type} {r r' : R α} (δ : DEnv) (f : α → Store → R Out) (h : r = r') : r.st δ f = r'.st δ f := by rw [h]

/-- the end of a def -/
def fin (r : R Out) : R D := match r with
  | .ok (.nx _) S' => .ok (.dat .non) S'
  | .ok (.rt d) S' => .ok d S'
  | .ok (.ex C x _) S' => .exc C x S'
  | _ => .fail
theorem mBody_fin {N : Nat} {b : DS} {ds : List D} {S : Store} : mBody N b ds S = fin (b (ds.map some ++ List.replicate (N - ds.length) none) S) := rfl
theorem fin_nx {δ : DEnv} {S : Store} : fin (.ok (.nx δ) S) = .ok (.dat .non) S := rfl
theorem fin_rt {d : D} {S : Store} : fin (.ok (.rt d) S) = .ok d S := rfl
theorem fin_ex {C : Addr} {x : Option (Str × P)} {δ : DEnv} {S : Store} : fin (.ok (.ex C x δ) S) = .exc C x S := rfl
/-- one statement, then the rest -/
def thenS (r : R Out) (b : DS) : R Out := match r with
  | .ok (.nx δ1) S1 => b δ1 S1
  | r => r
theorem mSeq_then {a b : DS} {δ : DEnv} {S : Store} : mSeq a b δ S = thenS (a δ S) b := rfl
theorem then_nx {δ : DEnv} {S : Store} {b : DS} : thenS (.ok (.nx δ) S) b = b δ S := rfl
theorem then_rt {d : D} {S : Store} {b : DS} : thenS (.ok (.rt d) S) b = .ok (.rt d) S := rfl
theorem then_bk {δ : DEnv} {S : Store} {b : DS} : thenS (.ok (.bk δ) S) b = .ok (.bk δ) S := rfl
theorem then_ct {δ : DEnv} {S : Store} {b : DS} : thenS (.ok (.ct δ) S) b = .ok (.ct δ) S := rfl
theorem then_ex {C : Addr} {x : Option (Str × P)} {δ : DEnv} {S : Store} {b : DS} : thenS (.ok (.ex C x δ) S) b = .ok (.ex C x δ) S := rfl
theorem thenS_congr {r r' : R Out} (b : DS) (h : r = r') : thenS r b = thenS r' b := by rw [h]

/-- which way -/
def pick2 {α : Type} (x : Bool) (a b : α) : α := match x with
  | true => a
  | false => b
theorem mIfS_eq {c : DT} {a b : DS} {δ : DEnv} {S : Store} : mIfS c a b δ S = (c δ S).st δ fun x S1 => pick2 x a b δ S1 := by
  unfold mIfS pick2
  cases c δ S with
  | ok x S1 => cases x <;> rfl
  | _ => rfl
theorem mIf_eq {c : DT} {a b : DE} {δ : DEnv} {S : Store} : mIf c a b δ S = (c δ S).bind fun x S1 => pick2 x a b δ S1 := by
  unfold mIf pick2
  cases c δ S with
  | ok x S1 => cases x <;> rfl
  | _ => rfl
theorem mAndT_eq {a b : DT} {δ : DEnv} {S : Store} : mAndT a b δ S = (a δ S).bind fun x S1 => pick2 x (b δ S1) (.ok false S1) := by
  unfold mAndT pick2
  cases a δ S with
  | ok x S1 => cases x <;> rfl
  | _ => rfl
theorem mOrT_eq {a b : DT} {δ : DEnv} {S : Store} : mOrT a b δ S = (a δ S).bind fun x S1 => pick2 x (.ok true S1) (b δ S1) := by
  unfold mOrT pick2
  cases a δ S with
  | ok x S1 => cases x <;> rfl
  | _ => rfl
def andK (x : D) (b : R D) (S : Store) : R D := match asB x with
  | some true => b
  | some false => .ok (.dat (.bl false)) S
  | none => .fail
def orK (x : D) (b : R D) (S : Store) : R D := match asB x with
  | some true => .ok (.dat (.bl true)) S
  | some false => b
  | none => .fail
theorem mAnd_eq {a b : DE} {δ : DEnv} {S : Store} : mAnd a b δ S = (a δ S).bind fun x S1 => andK x (b δ S1) S1 := rfl
theorem mOr_eq {a b : DE} {δ : DEnv} {S : Store} : mOr a b δ S = (a δ S).bind fun x S1 => orK x (b δ S1) S1 := rfl
theorem mChain_eq {f h : Store → D → D → Option D} {a b c : DE} {δ : DEnv} {S : Store} : mChain f h a b c δ S = (a δ S).bind fun x S1 => (b δ S1).bind fun y S2 => (oR (f S2 x y) S2).bind fun z S3 => andK z ((c δ S3).bind fun w S4 => oR (h S4 y w) S4) S3 := rfl
theorem andK_t {b : R D} {S : Store} : andK (.dat (.bl true)) b S = b := rfl
theorem andK_f {b : R D} {S : Store} : andK (.dat (.bl false)) b S = .ok (.dat (.bl false)) S := rfl
theorem andK_ok {x y : Bool} {S : Store} : andK (.dat (.bl x)) (.ok (.dat (.bl y)) S) S = .ok (.dat (.bl (x && y))) S := by cases x <;> rfl
theorem orK_t {b : R D} {S : Store} : orK (.dat (.bl true)) b S = .ok (.dat (.bl true)) S := rfl
theorem orK_f {b : R D} {S : Store} : orK (.dat (.bl false)) b S = b := rfl
theorem orK_ok {x y : Bool} {S : Store} : orK (.dat (.bl x)) (.ok (.dat (.bl y)) S) S = .ok (.dat (.bl (x || y))) S := by cases x <;> rfl
theorem pick2_t {α : Type} {a b : α} : pick2 true a b = a := rfl
theorem pick2_f {α : Type} {a b : α} : pick2 false a b = b := rfl
theorem pick2_congr {α : Type} {x y : Bool} (a b : α) (h : x = y) : pick2 x a b = pick2 y a b := by rw [h]

theorem mNot_b {a : DE} {δ : DEnv} {S : Store} : mNot a δ S = (a δ S).bind fun x S1 => match asB x with
  | some b => .ok (.dat (.bl (!b))) S1
  | none => .fail := rfl
theorem oR_eq {α : Type} {o : Option α} {a : α} {S : Store} (h : o = some a) : oR o S = .ok a S := by rw [h]; rfl
/-! ### types -/
section
variable {K : PySem.W.Frag} {CS : List Addr} {S : Store}
theorem isi_non_int  : aIsi K CS S [.dat .non, .dat (.con (.ty "int"))] = some (.dat (.bl false)) := by
  show (PySem.W.kitOne K (.type "NoneType") (.type "int")).map dBl = _
  rw [kit_ty (r := false) (by decide +kernel)]; rfl
theorem isi_non_bool  : aIsi K CS S [.dat .non, .dat (.con (.ty "bool"))] = some (.dat (.bl false)) := by
  show (PySem.W.kitOne K (.type "NoneType") (.type "bool")).map dBl = _
  rw [kit_ty (r := false) (by decide +kernel)]; rfl
theorem isi_non_str  : aIsi K CS S [.dat .non, .dat (.con (.ty "str"))] = some (.dat (.bl false)) := by
  show (PySem.W.kitOne K (.type "NoneType") (.type "str")).map dBl = _
  rw [kit_ty (r := false) (by decide +kernel)]; rfl
theorem isi_non_tuple  : aIsi K CS S [.dat .non, .dat (.con (.ty "tuple"))] = some (.dat (.bl false)) := by
  show (PySem.W.kitOne K (.type "NoneType") (.type "tuple")).map dBl = _
  rw [kit_ty (r := false) (by decide +kernel)]; rfl
theorem isi_non_list  : aIsi K CS S [.dat .non, .dat (.con (.ty "list"))] = some (.dat (.bl false)) := by
  show (PySem.W.kitOne K (.type "NoneType") (.type "list")).map dBl = _
  rw [kit_ty (r := false) (by decide +kernel)]; rfl
theorem isi_non_dict  : aIsi K CS S [.dat .non, .dat (.con (.ty "dict"))] = some (.dat (.bl false)) := by
  show (PySem.W.kitOne K (.type "NoneType") (.type "dict")).map dBl = _
  rw [kit_ty (r := false) (by decide +kernel)]; rfl
theorem isi_bl_int {b : Bool} : aIsi K CS S [.dat (.bl b), .dat (.con (.ty "int"))] = some (.dat (.bl true)) := by
  show (PySem.W.kitOne K (.type "bool") (.type "int")).map dBl = _
  rw [kit_ty (r := true) (by decide +kernel)]; rfl
theorem isi_bl_bool {b : Bool} : aIsi K CS S [.dat (.bl b), .dat (.con (.ty "bool"))] = some (.dat (.bl true)) := by
  show (PySem.W.kitOne K (.type "bool") (.type "bool")).map dBl = _
  rw [kit_ty (r := true) (by decide +kernel)]; rfl
theorem isi_bl_str {b : Bool} : aIsi K CS S [.dat (.bl b), .dat (.con (.ty "str"))] = some (.dat (.bl false)) := by
  show (PySem.W.kitOne K (.type "bool") (.type "str")).map dBl = _
  rw [kit_ty (r := false) (by decide +kernel)]; rfl
theorem isi_bl_tuple {b : Bool} : aIsi K CS S [.dat (.bl b), .dat (.con (.ty "tuple"))] = some (.dat (.bl false)) := by
  show (PySem.W.kitOne K (.type "bool") (.type "tuple")).map dBl = _
  rw [kit_ty (r := false) (by decide +kernel)]; rfl
theorem isi_bl_list {b : Bool} : aIsi K CS S [.dat (.bl b), .dat (.con (.ty "list"))] = some (.dat (.bl false)) := by
  show (PySem.W.kitOne K (.type "bool") (.type "list")).map dBl = _
  rw [kit_ty (r := false) (by decide +kernel)]; rfl
theorem isi_bl_dict {b : Bool} : aIsi K CS S [.dat (.bl b), .dat (.con (.ty "dict"))] = some (.dat (.bl false)) := by
  show (PySem.W.kitOne K (.type "bool") (.type "dict")).map dBl = _
  rw [kit_ty (r := false) (by decide +kernel)]; rfl
theorem isi_int_int {i : Int} : aIsi K CS S [.dat (.int i), .dat (.con (.ty "int"))] = some (.dat (.bl true)) := by
  show (PySem.W.kitOne K (.type "int") (.type "int")).map dBl = _
  rw [kit_ty (r := true) (by decide +kernel)]; rfl
theorem isi_int_bool {i : Int} : aIsi K CS S [.dat (.int i), .dat (.con (.ty "bool"))] = some (.dat (.bl false)) := by
  show (PySem.W.kitOne K (.type "int") (.type "bool")).map dBl = _
  rw [kit_ty (r := false) (by decide +kernel)]; rfl
theorem isi_int_str {i : Int} : aIsi K CS S [.dat (.int i), .dat (.con (.ty "str"))] = some (.dat (.bl false)) := by
  show (PySem.W.kitOne K (.type "int") (.type "str")).map dBl = _
  rw [kit_ty (r := false) (by decide +kernel)]; rfl
theorem isi_int_tuple {i : Int} : aIsi K CS S [.dat (.int i), .dat (.con (.ty "tuple"))] = some (.dat (.bl false)) := by
  show (PySem.W.kitOne K (.type "int") (.type "tuple")).map dBl = _
  rw [kit_ty (r := false) (by decide +kernel)]; rfl
theorem isi_int_list {i : Int} : aIsi K CS S [.dat (.int i), .dat (.con (.ty "list"))] = some (.dat (.bl false)) := by
  show (PySem.W.kitOne K (.type "int") (.type "list")).map dBl = _
  rw [kit_ty (r := false) (by decide +kernel)]; rfl
theorem isi_int_dict {i : Int} : aIsi K CS S [.dat (.int i), .dat (.con (.ty "dict"))] = some (.dat (.bl false)) := by
  show (PySem.W.kitOne K (.type "int") (.type "dict")).map dBl = _
  rw [kit_ty (r := false) (by decide +kernel)]; rfl
theorem isi_str_int {z : Str} : aIsi K CS S [.dat (.str z), .dat (.con (.ty "int"))] = some (.dat (.bl false)) := by
  show (PySem.W.kitOne K (.type "str") (.type "int")).map dBl = _
  rw [kit_ty (r := false) (by decide +kernel)]; rfl
theorem isi_str_bool {z : Str} : aIsi K CS S [.dat (.str z), .dat (.con (.ty "bool"))] = some (.dat (.bl false)) := by
  show (PySem.W.kitOne K (.type "str") (.type "bool")).map dBl = _
  rw [kit_ty (r := false) (by decide +kernel)]; rfl
theorem isi_str_str {z : Str} : aIsi K CS S [.dat (.str z), .dat (.con (.ty "str"))] = some (.dat (.bl true)) := by
  show (PySem.W.kitOne K (.type "str") (.type "str")).map dBl = _
  rw [kit_ty (r := true) (by decide +kernel)]; rfl
theorem isi_str_tuple {z : Str} : aIsi K CS S [.dat (.str z), .dat (.con (.ty "tuple"))] = some (.dat (.bl false)) := by
  show (PySem.W.kitOne K (.type "str") (.type "tuple")).map dBl = _
  rw [kit_ty (r := false) (by decide +kernel)]; rfl
theorem isi_str_list {z : Str} : aIsi K CS S [.dat (.str z), .dat (.con (.ty "list"))] = some (.dat (.bl false)) := by
  show (PySem.W.kitOne K (.type "str") (.type "list")).map dBl = _
  rw [kit_ty (r := false) (by decide +kernel)]; rfl
theorem isi_str_dict {z : Str} : aIsi K CS S [.dat (.str z), .dat (.con (.ty "dict"))] = some (.dat (.bl false)) := by
  show (PySem.W.kitOne K (.type "str") (.type "dict")).map dBl = _
  rw [kit_ty (r := false) (by decide +kernel)]; rfl
theorem isi_tup_int {l : List P} : aIsi K CS S [.dat (.tup l), .dat (.con (.ty "int"))] = some (.dat (.bl false)) := by
  show (PySem.W.kitOne K (.type "tuple") (.type "int")).map dBl = _
  rw [kit_ty (r := false) (by decide +kernel)]; rfl
theorem isi_tup_bool {l : List P} : aIsi K CS S [.dat (.tup l), .dat (.con (.ty "bool"))] = some (.dat (.bl false)) := by
  show (PySem.W.kitOne K (.type "tuple") (.type "bool")).map dBl = _
  rw [kit_ty (r := false) (by decide +kernel)]; rfl
theorem isi_tup_str {l : List P} : aIsi K CS S [.dat (.tup l), .dat (.con (.ty "str"))] = some (.dat (.bl false)) := by
  show (PySem.W.kitOne K (.type "tuple") (.type "str")).map dBl = _
  rw [kit_ty (r := false) (by decide +kernel)]; rfl
theorem isi_tup_tuple {l : List P} : aIsi K CS S [.dat (.tup l), .dat (.con (.ty "tuple"))] = some (.dat (.bl true)) := by
  show (PySem.W.kitOne K (.type "tuple") (.type "tuple")).map dBl = _
  rw [kit_ty (r := true) (by decide +kernel)]; rfl
theorem isi_tup_list {l : List P} : aIsi K CS S [.dat (.tup l), .dat (.con (.ty "list"))] = some (.dat (.bl false)) := by
  show (PySem.W.kitOne K (.type "tuple") (.type "list")).map dBl = _
  rw [kit_ty (r := false) (by decide +kernel)]; rfl
theorem isi_tup_dict {l : List P} : aIsi K CS S [.dat (.tup l), .dat (.con (.ty "dict"))] = some (.dat (.bl false)) := by
  show (PySem.W.kitOne K (.type "tuple") (.type "dict")).map dBl = _
  rw [kit_ty (r := false) (by decide +kernel)]; rfl
theorem isi_lst_int {l : List P} : aIsi K CS S [.dat (.lst l), .dat (.con (.ty "int"))] = some (.dat (.bl false)) := by
  show (PySem.W.kitOne K (.type "list") (.type "int")).map dBl = _
  rw [kit_ty (r := false) (by decide +kernel)]; rfl
theorem isi_lst_bool {l : List P} : aIsi K CS S [.dat (.lst l), .dat (.con (.ty "bool"))] = some (.dat (.bl false)) := by
  show (PySem.W.kitOne K (.type "list") (.type "bool")).map dBl = _
  rw [kit_ty (r := false) (by decide +kernel)]; rfl
theorem isi_lst_str {l : List P} : aIsi K CS S [.dat (.lst l), .dat (.con (.ty "str"))] = some (.dat (.bl false)) := by
  show (PySem.W.kitOne K (.type "list") (.type "str")).map dBl = _
  rw [kit_ty (r := false) (by decide +kernel)]; rfl
theorem isi_lst_tuple {l : List P} : aIsi K CS S [.dat (.lst l), .dat (.con (.ty "tuple"))] = some (.dat (.bl false)) := by
  show (PySem.W.kitOne K (.type "list") (.type "tuple")).map dBl = _
  rw [kit_ty (r := false) (by decide +kernel)]; rfl
theorem isi_lst_list {l : List P} : aIsi K CS S [.dat (.lst l), .dat (.con (.ty "list"))] = some (.dat (.bl true)) := by
  show (PySem.W.kitOne K (.type "list") (.type "list")).map dBl = _
  rw [kit_ty (r := true) (by decide +kernel)]; rfl
theorem isi_lst_dict {l : List P} : aIsi K CS S [.dat (.lst l), .dat (.con (.ty "dict"))] = some (.dat (.bl false)) := by
  show (PySem.W.kitOne K (.type "list") (.type "dict")).map dBl = _
  rw [kit_ty (r := false) (by decide +kernel)]; rfl
theorem isi_dic_int {l : List (P × P)} : aIsi K CS S [.dat (.dic l), .dat (.con (.ty "int"))] = some (.dat (.bl false)) := by
  show (PySem.W.kitOne K (.type "dict") (.type "int")).map dBl = _
  rw [kit_ty (r := false) (by decide +kernel)]; rfl
theorem isi_dic_bool {l : List (P × P)} : aIsi K CS S [.dat (.dic l), .dat (.con (.ty "bool"))] = some (.dat (.bl false)) := by
  show (PySem.W.kitOne K (.type "dict") (.type "bool")).map dBl = _
  rw [kit_ty (r := false) (by decide +kernel)]; rfl
theorem isi_dic_str {l : List (P × P)} : aIsi K CS S [.dat (.dic l), .dat (.con (.ty "str"))] = some (.dat (.bl false)) := by
  show (PySem.W.kitOne K (.type "dict") (.type "str")).map dBl = _
  rw [kit_ty (r := false) (by decide +kernel)]; rfl
theorem isi_dic_tuple {l : List (P × P)} : aIsi K CS S [.dat (.dic l), .dat (.con (.ty "tuple"))] = some (.dat (.bl false)) := by
  show (PySem.W.kitOne K (.type "dict") (.type "tuple")).map dBl = _
  rw [kit_ty (r := false) (by decide +kernel)]; rfl
theorem isi_dic_list {l : List (P × P)} : aIsi K CS S [.dat (.dic l), .dat (.con (.ty "list"))] = some (.dat (.bl false)) := by
  show (PySem.W.kitOne K (.type "dict") (.type "list")).map dBl = _
  rw [kit_ty (r := false) (by decide +kernel)]; rfl
theorem isi_dic_dict {l : List (P × P)} : aIsi K CS S [.dat (.dic l), .dat (.con (.ty "dict"))] = some (.dat (.bl true)) := by
  show (PySem.W.kitOne K (.type "dict") (.type "dict")).map dBl = _
  rw [kit_ty (r := true) (by decide +kernel)]; rfl
theorem isi_scr_int {l : List Int} : aIsi K CS S [.dat (.scr l), .dat (.con (.ty "int"))] = some (.dat (.bl false)) := by
  show (PySem.W.kitOne K (.type "list") (.type "int")).map dBl = _
  rw [kit_ty (r := false) (by decide +kernel)]; rfl
theorem isi_scr_bool {l : List Int} : aIsi K CS S [.dat (.scr l), .dat (.con (.ty "bool"))] = some (.dat (.bl false)) := by
  show (PySem.W.kitOne K (.type "list") (.type "bool")).map dBl = _
  rw [kit_ty (r := false) (by decide +kernel)]; rfl
theorem isi_scr_str {l : List Int} : aIsi K CS S [.dat (.scr l), .dat (.con (.ty "str"))] = some (.dat (.bl false)) := by
  show (PySem.W.kitOne K (.type "list") (.type "str")).map dBl = _
  rw [kit_ty (r := false) (by decide +kernel)]; rfl
theorem isi_scr_tuple {l : List Int} : aIsi K CS S [.dat (.scr l), .dat (.con (.ty "tuple"))] = some (.dat (.bl false)) := by
  show (PySem.W.kitOne K (.type "list") (.type "tuple")).map dBl = _
  rw [kit_ty (r := false) (by decide +kernel)]; rfl
theorem isi_scr_list {l : List Int} : aIsi K CS S [.dat (.scr l), .dat (.con (.ty "list"))] = some (.dat (.bl true)) := by
  show (PySem.W.kitOne K (.type "list") (.type "list")).map dBl = _
  rw [kit_ty (r := true) (by decide +kernel)]; rfl
theorem isi_scr_dict {l : List Int} : aIsi K CS S [.dat (.scr l), .dat (.con (.ty "dict"))] = some (.dat (.bl false)) := by
  show (PySem.W.kitOne K (.type "list") (.type "dict")).map dBl = _
  rw [kit_ty (r := false) (by decide +kernel)]; rfl
end
/-! ### operators -/
section
variable {S : Store} {i j : Int}
theorem add_ii : aAdd S (.dat (.int i)) (.dat (.int j)) = some (.dat (.int (i + j))) := rfl
theorem sub_ii : aSub S (.dat (.int i)) (.dat (.int j)) = some (.dat (.int (i - j))) := rfl
theorem lt_ii : aLt S (.dat (.int i)) (.dat (.int j)) = some (.dat (.bl (decide (i < j)))) := rfl
theorem le_ii : aLe S (.dat (.int i)) (.dat (.int j)) = some (.dat (.bl (decide (i ≤ j)))) := rfl
theorem gt_ii : aGt S (.dat (.int i)) (.dat (.int j)) = some (.dat (.bl (decide (j < i)))) := rfl
theorem ge_ii : aGe S (.dat (.int i)) (.dat (.int j)) = some (.dat (.bl (decide (j ≤ i)))) := rfl
theorem mul_ii : aMul S (.dat (.int i)) (.dat (.int j)) = if cMul i j = true then some (.dat (.int (i * j))) else none := rfl
theorem mul_l (h : i.natAbs < 2 ^ 64) : aMul S (.dat (.int i)) (.dat (.int j)) = some (.dat (.int (i * j))) := by rw [mul_ii, if_pos (by unfold cMul; simp [h])]
theorem mul_r (h : j.natAbs < 2 ^ 64) : aMul S (.dat (.int i)) (.dat (.int j)) = some (.dat (.int (i * j))) := by rw [mul_ii, if_pos (by unfold cMul; simp [h])]
theorem mod_ii (h : 0 < j) : aMod S (.dat (.int i)) (.dat (.int j)) = some (.dat (.int (i % j))) := by show (if decide (0 < j) = true then _ else _) = _; rw [if_pos (by simpa using h)]; rfl
theorem div_ii (h : 0 < j) (h2 : j < 2 ^ 64) : aDiv S (.dat (.int i)) (.dat (.int j)) = some (.dat (.int (i / j))) := by
  show (if (decide (0 < j) && decide (j.natAbs.log2 < 9000)) = true then _ else _) = _
  have q : j.natAbs.log2 < 64 := (Nat.log2_lt (by omega)).mpr (by omega)
  rw [if_pos (by rw [Bool.and_eq_true]; exact ⟨decide_eq_true h, decide_eq_true (by omega)⟩)]; rfl
theorem pow_ii (h : 0 ≤ j) (h1 : j ≤ 1000000) (h2 : i.natAbs < 2 ^ 64) : aPow S (.dat (.int i)) (.dat (.int j)) = some (.dat (.int (i ^ j.toNat))) := by
  show (if _ = true then _ else _) = _
  rw [if_pos (by rw [Bool.and_eq_true, Bool.and_eq_true]; exact ⟨⟨decide_eq_true h, decide_eq_true h1⟩, decide_eq_true h2⟩)]; rfl
theorem neg_i : aNeg S (.dat (.int i)) = some (.dat (.int (-i))) := rfl
theorem eq_ii : aEq S (.dat (.int i)) (.dat (.int j)) = some (.dat (.bl (decide (i = j)))) := rfl
theorem ne_ii : aNe S (.dat (.int i)) (.dat (.int j)) = some (.dat (.bl (!decide (i = j)))) := rfl
theorem eq_ss {s z : Str} : aEq S (.dat (.str s)) (.dat (.str z)) = some (.dat (.bl (decide (s = z)))) := rfl
theorem ne_ss {s z : Str} : aNe S (.dat (.str s)) (.dat (.str z)) = some (.dat (.bl (!decide (s = z)))) := rfl
theorem eq_bb {a b : Bool} : aEq S (.dat (.bl a)) (.dat (.bl b)) = some (.dat (.bl (decide (a = b)))) := rfl
theorem ne_bb {a b : Bool} : aNe S (.dat (.bl a)) (.dat (.bl b)) = some (.dat (.bl (!decide (a = b)))) := rfl
theorem isN_n : aIsN S (.dat .non) (.dat .non) = some (.dat (.bl true)) := rfl
theorem notN_n : aNotN S (.dat .non) (.dat .non) = some (.dat (.bl false)) := rfl
theorem isN_i : aIsN S (.dat (.int i)) (.dat .non) = some (.dat (.bl false)) := rfl
theorem notN_i : aNotN S (.dat (.int i)) (.dat .non) = some (.dat (.bl true)) := rfl
theorem isN_b {b : Bool} : aIsN S (.dat (.bl b)) (.dat .non) = some (.dat (.bl false)) := rfl
theorem notN_b {b : Bool} : aNotN S (.dat (.bl b)) (.dat .non) = some (.dat (.bl true)) := rfl
theorem isN_s {b : Str} : aIsN S (.dat (.str b)) (.dat .non) = some (.dat (.bl false)) := rfl
theorem notN_s {b : Str} : aNotN S (.dat (.str b)) (.dat .non) = some (.dat (.bl true)) := rfl
theorem isN_t {b : List P} : aIsN S (.dat (.tup b)) (.dat .non) = some (.dat (.bl false)) := rfl
theorem notN_t {b : List P} : aNotN S (.dat (.tup b)) (.dat .non) = some (.dat (.bl true)) := rfl
theorem isN_l {b : List P} : aIsN S (.dat (.lst b)) (.dat .non) = some (.dat (.bl false)) := rfl
theorem notN_l {b : List P} : aNotN S (.dat (.lst b)) (.dat .non) = some (.dat (.bl true)) := rfl
theorem isB_n {c : Bool} : aIsB S (.dat .non) (.dat (.bl c)) = some (.dat (.bl false)) := rfl
theorem isB_i {c : Bool} : aIsB S (.dat (.int i)) (.dat (.bl c)) = some (.dat (.bl false)) := rfl
theorem isB_b {b c : Bool} : aIsB S (.dat (.bl b)) (.dat (.bl c)) = some (.dat (.bl (decide (b = c)))) := rfl
theorem isB_s {b : Str} {c : Bool} : aIsB S (.dat (.str b)) (.dat (.bl c)) = some (.dat (.bl false)) := rfl
theorem isB_t {b : List P} {c : Bool} : aIsB S (.dat (.tup b)) (.dat (.bl c)) = some (.dat (.bl false)) := rfl
theorem isB_l {b : List P} {c : Bool} : aIsB S (.dat (.lst b)) (.dat (.bl c)) = some (.dat (.bl false)) := rfl
theorem int_i : aInt S [.dat (.int i)] = some (.dat (.int i)) := rfl
theorem int_b {b : Bool} : aInt S [.dat (.bl b)] = some (.dat (.int (if b then 1 else 0))) := rfl
theorem max_ii : aMax S [.dat (.int i), .dat (.int j)] = some (.dat (.int (if j > i then j else i))) := rfl
theorem min_ii : aMin S [.dat (.int i), .dat (.int j)] = some (.dat (.int (if j < i then j else i))) := rfl
/-! ### rows -/
theorem seqD_t {l : List P} : seqD S (.dat (.tup l)) = some (l.map .dat) := rfl
theorem seqD_l {l : List P} : seqD S (.dat (.lst l)) = some (l.map .dat) := rfl
theorem seqD_s {l : List Int} : seqD S (.dat (.scr l)) = some (l.map fun i => .dat (.int i)) := rfl
theorem seqP_t {l : List P} : seqP S (.dat (.tup l)) = some l := by show datAll _ = _; exact datAll_map l
theorem seqP_l {l : List P} : seqP S (.dat (.lst l)) = some l := by show datAll _ = _; exact datAll_map l
theorem listP_l {l : List P} : listP S (.dat (.lst l)) = some l := by show datAll _ = _; exact datAll_map l
theorem len_t {l : List P} : aLen S [.dat (.tup l)] = some (.dat (.int l.length)) := by show some (dInt ((l.map D.dat).length : Nat)) = _; rw [List.length_map]; rfl
theorem len_l {l : List P} : aLen S [.dat (.lst l)] = some (.dat (.int l.length)) := by show some (dInt ((l.map D.dat).length : Nat)) = _; rw [List.length_map]; rfl
theorem len_scr {l : List Int} : aLen S [.dat (.scr l)] = some (.dat (.int l.length)) := by show some (dInt ((l.map fun i => D.dat (.int i)).length : Nat)) = _; rw [List.length_map]; rfl
theorem len_o {o : Nat} {l : List D} (h : S[o]? = some (.lst l)) : aLen S [.obj o] = some (.dat (.int l.length)) := by
  have q : seqD S (.obj o) = some l := by show (match S[o]? with | some (.lst l) => some l | _ => none) = _; rw [h]
  show (seqD S (.obj o)).map _ = _
  rw [q]; rfl
theorem tuple_l {l : List P} : aTuple S [.dat (.lst l)] = some (.dat (.tup l)) := by show (listP S _).map _ = _; rw [listP_l]; rfl
theorem tuple_t {l : List P} : aTuple S [.dat (.tup l)] = some (.dat (.tup l)) := rfl
theorem listP_o {o : Nat} {l : List P} (h : S[o]? = some (.lst (l.map .dat))) : listP S (.obj o) = some l := by
  show (match S[o]? with | some (.lst l) => some l | _ => none : Option (List D)).bind datAll = _
  rw [h]; exact datAll_map l
theorem tuple_o {o : Nat} {l : List P} (h : S[o]? = some (.lst (l.map .dat))) : aTuple S [.obj o] = some (.dat (.tup l)) := by show (listP S _).map _ = _; rw [listP_o h]; rfl
theorem add_tt {l k : List P} (h : l.length + k.length ≤ 100000) : aAdd S (.dat (.tup l)) (.dat (.tup k)) = some (.dat (.tup (l ++ k))) := if_pos h
theorem add_ll {l k : List P} (h : l.length + k.length ≤ 100000) : aAdd S (.dat (.lst l)) (.dat (.lst k)) = some (.dat (.lst (l ++ k))) := by
  show (match listP S (.dat (.lst l)), listP S (.dat (.lst k)) with | some l, some k => _ | _, _ => _) = _
  rw [listP_l, listP_l]; exact if_pos h
theorem ixN_nat {n k : Nat} (h : k < n) : ixN n (k : Int) = some k := by
  unfold ixN
  rw [if_pos (by omega), if_pos (by omega)]; rfl
theorem ixN_of {n : Nat} {i : Int} (h : 0 ≤ i) (h1 : i < n) : ixN n i = some i.toNat := by
  unfold ixN
  rw [if_pos h, if_pos h1]
theorem ixN_last {n : Nat} (h : 0 < n) : ixN n (-1) = some (n - 1) := by
  unfold ixN
  rw [if_neg (by omega), if_pos (by omega)]
  congr 1
  omega
theorem atN {α : Type} {l : List α} {k : Nat} {x : α} (h : l[k]? = some x) : atI l (k : Int) = some x := by
  unfold atI
  rw [ixN_nat (List.getElem?_eq_some_iff.mp h).1]
  exact h
theorem atI_of {α : Type} {l : List α} {i : Int} {x : α} (h0 : 0 ≤ i) (h : l[i.toNat]? = some x) : atI l i = some x := by
  have q := (List.getElem?_eq_some_iff.mp h).1
  unfold atI
  rw [ixN_of h0 (by omega)]
  exact h
theorem atI_last {α : Type} {l : List α} {x : α} (h : l.getLast? = some x) : atI l (-1) = some x := by
  cases l with
  | nil => cases h
  | cons a l =>
    unfold atI
    rw [ixN_last (by simp)]
    rw [List.getLast?_eq_getElem?] at h
    exact h
theorem ix_t {l : List P} {x : P} (h : atI l i = some x) : aIx S (.dat (.tup l)) (.dat (.int i)) = some (.dat x) := by show (atI l i).map D.dat = _; rw [h]; rfl
theorem ix_l {l : List P} {x : P} (h : atI l i = some x) : aIx S (.dat (.lst l)) (.dat (.int i)) = some (.dat x) := by show (atI l i).map D.dat = _; rw [h]; rfl
theorem ix_scr {l : List Int} {x : Int} (h : atI l i = some x) : aIx S (.dat (.scr l)) (.dat (.int i)) = some (.dat (.int x)) := by
  show atI (l.map fun i => D.dat (.int i)) i = _
  unfold atI at h ⊢
  rw [List.length_map]
  cases q : ixN l.length i with
  | none => rw [q] at h; cases h
  | some j => rw [q] at h; simp only [Option.bind_some] at h ⊢; rw [List.getElem?_map, h]; rfl
theorem seqD_o {o : Nat} {l : List D} (h : S[o]? = some (.lst l)) : seqD S (.obj o) = some l := by show (match S[o]? with | some (.lst l) => some l | _ => none) = _; rw [h]
theorem ix_o {o : Nat} {l : List D} {x : D} (ho : S[o]? = some (.lst l)) (h : atI l i = some x) : aIx S (.obj o) (.dat (.int i)) = some x := by
  show (match seqD S (.obj o) with | some l => atI l i | none => none) = _
  rw [seqD_o ho]; exact h
theorem setD_o {o : Nat} {l : List D} {x : D} {k : Nat} (ho : S[o]? = some (.lst l)) (h : ixN l.length i = some k) : setD (.obj o) (.dat (.int i)) x S = some (S.set o (.lst (l.set k x))) := by
  show (match S[o]? with | some (.lst l) => (ixN l.length i).map fun j => S.set o (.lst (l.set j x)) | _ => none) = _
  rw [ho]
  show (ixN l.length i).map _ = _
  rw [h]; rfl
theorem app_o {o : Nat} {l : List D} {x : D} (ho : S[o]? = some (.lst l)) (h : l.length < 100000) : updL fAppend (.obj o) [x] S = .ok (.dat .non) (S.set o (.lst (l ++ [x]))) := by
  have q : fAppend l [x] = some (.dat .non, l ++ [x]) := if_pos h
  unfold updL
  simp only [ho, q]
theorem kind_o {o : Nat} {l : List D} (ho : S[o]? = some (.lst l)) : isKind "list" S (.obj o) = true := by
  show (if ("list" : String) = "list" then (listD S (.obj o)).isSome else _) = true
  rw [if_pos rfl]
  show (match S[o]? with | some (.lst l) => some l | _ => none : Option (List D)).isSome = true
  rw [ho]; rfl
theorem kind_l {l : List P} : isKind "list" S (.dat (.lst l)) = true := rfl
theorem frz_o {o : Nat} {l : List P} (ho : S[o]? = some (.lst (l.map .dat))) : frz1 S o = some (.lst l) := by
  unfold frz1
  rw [ho]
  show (datAll (l.map .dat)).map P.lst = _
  rw [datAll_map]; rfl
end
/-! ### pure defs -/
theorem pure_dat {f : List D → Store → R D} {ds : List D} {ps : List P} {p : P} {S S' : Store} (hd : datAll ds = some ps) (h : f ds [] = .ok (.dat p) S') : mPure f ds S = .ok (.dat p) S := by
  unfold mPure; rw [hd]; simp only [h]
theorem pure_obj {f : List D → Store → R D} {ds : List D} {ps : List P} {p : P} {i : Nat} {S S' : Store} (hd : datAll ds = some ps) (h : f ds [] = .ok (.obj i) S') (z : frz1 S' i = some p) : mPure f ds S = .ok (.dat p) S := by
  unfold mPure; rw [hd]; simp only [h, z]
theorem pure_exc {f : List D → Store → R D} {ds : List D} {ps : List P} {C : Addr} {x : Option (Str × P)} {S S' : Store} (hd : datAll ds = some ps) (h : f ds [] = .exc C x S') : mPure f ds S = .exc C x S := by
  unfold mPure; rw [hd]; simp only [h]
/-! ### loops -/
/-- a run that ends well -/
def Ends (r : R Out) (Q : Out → Store → Prop) : Prop := ∃ o S, r = .ok o S ∧ Q o S
theorem turn_nx {δ : DEnv} {S : Store} {k : DEnv → Store → R Out} : mTurn (.ok (.nx δ) S) k = k δ S := rfl
theorem turn_ct {δ : DEnv} {S : Store} {k : DEnv → Store → R Out} : mTurn (.ok (.ct δ) S) k = k δ S := rfl
theorem turn_bk {δ : DEnv} {S : Store} {k : DEnv → Store → R Out} : mTurn (.ok (.bk δ) S) k = .ok (.nx δ) S := rfl
theorem turn_rt {d : D} {S : Store} {k : DEnv → Store → R Out} : mTurn (.ok (.rt d) S) k = .ok (.rt d) S := rfl
theorem turn_ex {C : Addr} {x : Option (Str × P)} {δ : DEnv} {S : Store} {k : DEnv → Store → R Out} : mTurn (.ok (.ex C x δ) S) k = .ok (.ex C x δ) S := rfl
/-- what a turn leaves: go on (to J), or leave (to Q) -/
def TurnP (J : DEnv → Store → Prop) (Q : Out → Store → Prop) : Out → Store → Prop
  | .nx δ, S => J δ S
  | .ct δ, S => J δ S
  | .bk δ, S => Q (.nx δ) S
  | .rt d, S => Q (.rt d) S
  | .ex C x δ, S => Q (.ex C x δ) S
theorem turn_ends {r : R Out} {k : DEnv → Store → R Out} {J : DEnv → Store → Prop} {Q : Out → Store → Prop} (h : Ends r (TurnP J Q)) (hk : ∀ δ S, J δ S → Ends (k δ S) Q) : Ends (mTurn r k) Q := by
  obtain ⟨o, S, rfl, q⟩ := h
  cases o with
  | nx δ => exact hk δ S q
  | ct δ => exact hk δ S q
  | bk δ => exact ⟨_, _, rfl, q⟩
  | rt d => exact ⟨_, _, rfl, q⟩
  | ex C x δ => exact ⟨_, _, rfl, q⟩
/-- for: I i before the item at i -/
theorem forL_ends {g : DG} {b : DS} (I : Nat → DEnv → Store → Prop) {Q : Out → Store → Prop} : ∀ {l : List D} {i : Nat} {δ : DEnv} {S : Store}, I i δ S →
    (∀ k d δ S, l[k]? = some d → I (i + k) δ S → Ends ((g d δ S).st δ b) (TurnP (I (i + k + 1)) Q)) → (∀ δ S, I (i + l.length) δ S → Q (.nx δ) S) → Ends (mForL g b l δ S) Q
  | [], i, δ, S, h, _, q => ⟨_, _, rfl, q δ S h⟩
  | d :: l, i, δ, S, h, st, q => by
    refine turn_ends (J := I (i + 1)) (st 0 d δ S rfl h) fun δ S h1 => forL_ends (l := l) (i := i + 1) I h1 (fun k d δ S e hi => ?_) (fun δ S hi => q δ S ?_)
    · have z := st (k + 1) d δ S (by simpa using e) (by rw [show i + (k + 1) = i + 1 + k by omega]; exact hi)
      rw [show i + (k + 1) + 1 = i + 1 + k + 1 by omega] at z
      exact z
    · rw [List.length_cons, show i + (l.length + 1) = i + 1 + l.length by omega]; exact hi
/-- while: a measure goes down -/
theorem whileN_ends {c : DT} {b : DS} (I : Nat → DEnv → Store → Prop) {Q : Out → Store → Prop}
    (st : ∀ m δ S, I m δ S → ∃ x S1, c δ S = .ok x S1 ∧ (x = true → Ends (b δ S1) (TurnP (fun δ' S' => ∃ m', m' < m ∧ I m' δ' S') Q)) ∧ (x = false → Q (.nx δ) S1)) : ∀ {n m : Nat} {δ : DEnv} {S : Store}, m < n → I m δ S → Ends (mWhileN c b n δ S) Q
  | 0, m, δ, S, h, _ => absurd h (Nat.not_lt_zero _)
  | n + 1, m, δ, S, h, hi => by
    obtain ⟨x, S1, e, h1, h2⟩ := st m δ S hi
    unfold mWhileN
    rw [e, R.st_ok]
    cases x with
    | false => exact ⟨_, _, rfl, h2 rfl⟩
    | true => exact turn_ends (h1 rfl) fun δ' S' ⟨m', lt, hi'⟩ => whileN_ends I st (by omega) hi'
theorem while_ends {c : DT} {b : DS} (I : Nat → DEnv → Store → Prop) {Q : Out → Store → Prop} {m : Nat} {δ : DEnv} {S : Store} (hm : m < 1000000000) (hi : I m δ S)
    (st : ∀ m δ S, I m δ S → ∃ x S1, c δ S = .ok x S1 ∧ (x = true → Ends (b δ S1) (TurnP (fun δ' S' => ∃ m', m' < m ∧ I m' δ' S') Q)) ∧ (x = false → Q (.nx δ) S1)) : Ends (mWhile c b δ S) Q := by
  unfold mWhile FUEL
  exact whileN_ends I st hm hi
theorem then_ends {r : R Out} {b : DS} {Q1 Q : Out → Store → Prop} (h : Ends r Q1) (k : ∀ o S, Q1 o S → Ends (thenS (.ok o S) b) Q) : Ends (thenS r b) Q := by
  obtain ⟨o, S, rfl, q⟩ := h
  exact k o S q
/-- a comprehension over items, when each item is a pure value: f i = none leaves out -/
theorem lc_pure {g : DG} {t : DT} {e : DE} {vs : List Nat} {δ : DEnv} {S : Store} (f : D → Option D) : ∀ {l acc : List D}, (acc.length + l.length ≤ 100000) →
    (∀ d ∈ l, ∃ δ1, g d (wipeD δ vs) S = .ok δ1 S ∧ match f d with
      | some y => t δ1 S = .ok true S ∧ e δ1 S = .ok y S
      | none => t δ1 S = .ok false S) → mLcL g t e vs δ l acc S = .ok (acc ++ l.filterMap f) S
  | [], acc, _, _ => by simp [mLcL]
  | d :: l, acc, hl, h => by
    obtain ⟨δ1, e1, e2⟩ := h d (List.mem_cons_self ..)
    unfold mLcL
    rw [e1, R.bnf_ok]
    rw [List.length_cons] at hl
    cases q : f d with
    | none =>
      rw [q] at e2
      rw [e2, R.bnf_ok]
      show mLcL g t e vs δ l acc S = _
      rw [lc_pure f (by omega) fun d m => h d (List.mem_cons_of_mem _ m), List.filterMap_cons, q]
    | some y =>
      rw [q] at e2
      rw [e2.1, R.bnf_ok]
      show (e δ1 S).bnf _ = _
      rw [e2.2, R.bnf_ok, if_pos (by omega), lc_pure f (by rw [List.length_append, List.length_singleton]; omega) fun d m => h d (List.mem_cons_of_mem _ m), List.filterMap_cons, q]
      simp
end M3
local macro_rules | `(tactic| dsimp! [$ls,*]) => `(tactic| simp only [M3.mBody_fin, M3.fin_nx, M3.fin_rt, M3.fin_ex, M3.mSeq_then, M3.then_nx, M3.then_rt, M3.then_bk, M3.then_ct, M3.then_ex, M3.mIfS_eq, M3.mIf_eq, M3.mAndT_eq, M3.mOrT_eq, M3.mAnd_eq, M3.mOr_eq, M3.andK_t, M3.andK_f, M3.andK_ok, M3.orK_t, M3.orK_f, M3.orK_ok, M3.pick2_t, M3.pick2_f, M3.mNot_b, M3.asB, M3.mVar, M3.mC, M3.mOp, M3.mUn, M3.mNil, M3.mCons, M3.mTst, M3.mNotT, M3.mChain_eq, M3.mCall, M3.mDef, M3.mRet, M3.mRetN, M3.mDrop, M3.mAsg, M3.gmName, M3.gmSub, M3.mBrk, M3.mCnt, M3.mNext, M3.mTrk, M3.mLst, M3.mFrz, M3.mTup, M3.mYes, M3.mPar, M3.mRaise0, M3.mRaise1, M3.gmTup, M3.gmCons, M3.gmNil, M3.wipeD, M3.R.bind_ok, M3.R.bind_exc, M3.R.st_ok, M3.R.st_exc, M3.R.bnf_ok, M3.oR_some, M3.datAll_map, M3.datAll, Option.map_some, Option.bind_some, List.getElem?_cons_zero, List.getElem?_cons_succ, List.set_cons_zero, List.set_cons_succ, List.map_cons, List.map_nil, List.length_cons, List.length_nil, List.replicate_succ, List.replicate_zero, List.cons_append, List.nil_append, Nat.reduceAdd, Nat.reduceSub, Nat.zero_add, Nat.sub_self, Nat.reduceEqDiff, Nat.zero_le, Nat.reduceLeDiff, Int.reduceLE, Int.reduceLT, Int.reduceEq, Int.reduceNeg, Int.reduceAdd, Int.reduceSub, Int.reduceMul, decide_true, decide_false, Bool.not_true, Bool.not_false, Bool.true_and, Bool.false_and, Bool.and_true, Bool.and_false, Bool.true_or, Bool.false_or, if_true, ite_true, reduceIte, M3.isi_non_int, M3.isi_non_bool, M3.isi_non_str, M3.isi_non_tuple, M3.isi_non_list, M3.isi_non_dict, M3.isi_bl_int, M3.isi_bl_bool, M3.isi_bl_str, M3.isi_bl_tuple, M3.isi_bl_list, M3.isi_bl_dict, M3.isi_int_int, M3.isi_int_bool, M3.isi_int_str, M3.isi_int_tuple, M3.isi_int_list, M3.isi_int_dict, M3.isi_str_int, M3.isi_str_bool, M3.isi_str_str, M3.isi_str_tuple, M3.isi_str_list, M3.isi_str_dict, M3.isi_tup_int, M3.isi_tup_bool, M3.isi_tup_str, M3.isi_tup_tuple, M3.isi_tup_list, M3.isi_tup_dict, M3.isi_lst_int, M3.isi_lst_bool, M3.isi_lst_str, M3.isi_lst_tuple, M3.isi_lst_list, M3.isi_lst_dict, M3.isi_dic_int, M3.isi_dic_bool, M3.isi_dic_str, M3.isi_dic_tuple, M3.isi_dic_list, M3.isi_dic_dict, M3.isi_scr_int, M3.isi_scr_bool, M3.isi_scr_str, M3.isi_scr_tuple, M3.isi_scr_list, M3.isi_scr_dict, M3.add_ii, M3.sub_ii, M3.lt_ii, M3.le_ii, M3.gt_ii, M3.ge_ii, M3.neg_i, M3.eq_ii, M3.ne_ii, M3.eq_ss, M3.ne_ss, M3.eq_bb, M3.ne_bb, M3.isN_n, M3.notN_n, M3.isN_i, M3.notN_i, M3.isN_b, M3.notN_b, M3.isN_s, M3.notN_s, M3.isN_t, M3.notN_t, M3.isN_l, M3.notN_l, M3.isB_n, M3.isB_i, M3.isB_b, M3.isB_s, M3.isB_t, M3.isB_l, M3.int_i, M3.int_b, M3.max_ii, M3.min_ii, M3.len_t, M3.len_l, M3.len_scr, M3.tuple_l, M3.tuple_t, $ls,*])
namespace W2
inductive Ch (ps : List (Option Nat)) : Nat → List Nat → Prop
  | root {h : Nat} : ps[h]? = some none → Ch ps h [h]
  | step {h p : Nat} {l : List Nat} : ps[h]? = some (some p) → Ch ps p l → Ch ps h (h :: l)
theorem Ch.head {ps : List (Option Nat)} {h : Nat} {l : List Nat} (c : Ch ps h l) : ∃ r, l = h :: r := by
  cases c with
  | root _ => exact ⟨[], rfl⟩
  | step _ _ => exact ⟨_, rfl⟩
theorem Ch.det {ps : List (Option Nat)} {h : Nat} {l : List Nat} (c : Ch ps h l) : ∀ {m : List Nat}, Ch ps h m → l = m := by
  induction c with
  | root e =>
    intro m d
    cases d with
    | root _ => rfl
    | step e2 _ => rw [e] at e2; cases e2
  | step e c ih =>
    intro m d
    cases d with
    | root e2 => rw [e] at e2; cases e2
    | step e2 d2 =>
      rw [e] at e2
      cases e2
      rw [ih d2]
theorem Ch.tail {ps : List (Option Nat)} : ∀ {pre : List Nat} {h x : Nat} {post : List Nat}, Ch ps h (pre ++ x :: post) → Ch ps x (x :: post)
  | [], h, x, post, c => by
    obtain ⟨r, e⟩ := c.head
    have e1 : x = h := by simpa using (List.cons.inj e).1
    subst e1
    exact c
  | a :: pre, h, x, post, c => by
    have go : ∀ m, Ch ps h m → m = a :: (pre ++ x :: post) → Ch ps x (x :: post) := by
      intro m d e
      cases d with
      | root _ =>
        have := (List.cons.inj e).2
        cases pre <;> simp at this
      | step _ d2 =>
        have e2 := (List.cons.inj e).2
        subst e2
        exact Ch.tail d2
    exact go _ c rfl
theorem Ch.lt {ps : List (Option Nat)} {h : Nat} {l : List Nat} (c : Ch ps h l) : ∀ x ∈ l, x < ps.length := by
  induction c with
  | @root h e =>
    intro x hx
    have q : x = h := by simpa using hx
    subst q
    exact (List.getElem?_eq_some_iff.mp e).1
  | step e c ih =>
    intro x hx
    rcases List.mem_cons.mp hx with rfl | hx
    · exact (List.getElem?_eq_some_iff.mp e).1
    · exact ih x hx
theorem Ch.nodup {ps : List (Option Nat)} {h : Nat} {l : List Nat} (c : Ch ps h l) : l.Nodup := by
  induction c with
  | root e => simp
  | @step h p l e c ih =>
    refine List.nodup_cons.mpr ⟨fun hm => ?_, ih⟩
    obtain ⟨pre, post, e2⟩ := List.append_of_mem hm
    subst e2
    have d := Ch.tail c
    have d2 : Ch ps h (h :: (pre ++ h :: post)) := .step e c
    have q := congrArg List.length (d.det d2)
    simp at q
    omega
theorem Ch.last {ps : List (Option Nat)} {h : Nat} {l : List Nat} (c : Ch ps h l) : ∃ r, l.getLast? = some r ∧ ps[r]? = some none := by
  induction c with
  | root e => exact ⟨_, rfl, e⟩
  | @step h p l e c ih =>
    obtain ⟨r, e1, e2⟩ := ih
    refine ⟨r, ?_, e2⟩
    obtain ⟨z, rfl⟩ := c.head
    rw [List.getLast?_cons_cons]
    exact e1
/-- at place i of the way up: the parent -/
theorem Ch.next {ps : List (Option Nat)} {h : Nat} {l : List Nat} (c : Ch ps h l) {i : Nat} {x : Nat} (hx : l[i]? = some x) : (ps[x]? = some none ∧ i + 1 = l.length) ∨ (∃ y, ps[x]? = some (some y) ∧ l[i + 1]? = some y) := by
  have hi := (List.getElem?_eq_some_iff.mp hx).1
  have hs : l = l.take i ++ x :: l.drop (i + 1) := by
    have e : l.drop i = x :: l.drop (i + 1) := by
      rw [List.drop_eq_getElem_cons hi]
      congr 1
      exact (List.getElem?_eq_some_iff.mp hx).2
    rw [← e, List.take_append_drop]
  rw [hs] at c
  have d := Ch.tail c
  generalize hq : l.drop (i + 1) = q at d
  cases d with
  | root e =>
    have := congrArg List.length hq
    simp at this
    exact .inl ⟨e, by omega⟩
  | @step _ y _ e d2 =>
    obtain ⟨r, rfl⟩ := d2.head
    refine .inr ⟨y, e, ?_⟩
    have := congrArg (fun z => z[0]?) hq
    simpa [List.getElem?_drop] using this
theorem Ch.par_lt {ps : List (Option Nat)} {h p : Nat} {l : List Nat} (c : Ch ps h l) (e : ps[h]? = some (some p)) : p < ps.length := by
  cases c with
  | root e2 => rw [e] at e2; cases e2
  | step e2 c2 =>
    rw [e] at e2
    cases e2
    obtain ⟨r, e3⟩ := c2.head
    exact c2.lt _ (by rw [e3]; simp)
open Classical in
noncomputable def up (ps : List (Option Nat)) (h : Nat) : List Nat := if e : ∃ l, Ch ps h l then e.choose else []
theorem up_of {ps : List (Option Nat)} {h : Nat} {l : List Nat} (c : Ch ps h l) : up ps h = l := by
  unfold up
  rw [dif_pos ⟨l, c⟩]
  exact (Exists.choose_spec (⟨l, c⟩ : ∃ l, Ch ps h l)).det c
/-- a right forest -/
def Tree (ps : List (Option Nat)) : Prop := ∀ h, h < ps.length → Ch ps h (up ps h) ∧ (up ps h).length ≤ ps.length
theorem tree_of {ps : List (Option Nat)} (h : ∀ h, h < ps.length → ∃ l, Ch ps h l ∧ l.length ≤ ps.length) : Tree ps := fun x hx => by
  obtain ⟨l, c, z⟩ := h x hx
  rw [up_of c]
  exact ⟨c, z⟩
/-- by an order: each house's parent stands ahead -/
theorem tree_ord {ps : List (Option Nat)} {o : List Nat} (hl : o.length = ps.length) (sur : ∀ h, h < ps.length → ∃ k : Nat, o[k]? = some h)
    (hp : ∀ (k : Nat) h, o[k]? = some h → ps[h]? = some none ∨ ∃ j p, j < k ∧ o[j]? = some p ∧ ps[h]? = some (some p)) : Tree ps := by
  have go : ∀ (k : Nat), ∀ (m : Nat), m ≤ k → ∀ h, o[m]? = some h → ∃ l, Ch ps h l ∧ l.length ≤ m + 1 := by
    intro k
    induction k with
    | zero =>
      intro m hm h e
      rcases hp m h e with q | ⟨j, p, hj, _, _⟩
      · exact ⟨[h], .root q, by simp⟩
      · omega
    | succ k ih =>
      intro m hm h e
      rcases hp m h e with q | ⟨j, p, hj, ej, q⟩
      · exact ⟨[h], .root q, by simp⟩
      · obtain ⟨l, c, z⟩ := ih j (by omega) p ej
        exact ⟨h :: l, .step q c, by simp; omega⟩
  refine tree_of fun h hh => ?_
  obtain ⟨k, ek⟩ := sur h hh
  obtain ⟨l, c, z⟩ := go k k (Nat.le_refl _) h ek
  have := (List.getElem?_eq_some_iff.mp ek).1
  exact ⟨l, c, by omega⟩
/-! ### the deepest common house -/
def fnd (l m : List Nat) : Option Nat := l.find? fun x => decide (x ∈ m)
theorem find_first {p : Nat → Bool} : ∀ {l : List Nat} {i : Nat} {x : Nat}, l[i]? = some x → p x = true → (∀ (j : Nat) y, j < i → l[j]? = some y → p y = false) → l.find? p = some x
  | [], i, x, h, _, _ => by simp at h
  | a :: l, 0, x, h, hp, _ => by
    have e : a = x := by simpa using h
    subst e
    rw [List.find?_cons, hp]
  | a :: l, i + 1, x, h, hp, hn => by
    have ha : p a = false := hn 0 a (by omega) rfl
    rw [List.find?_cons, ha]
    exact find_first (l := l) (i := i) (by simpa using h) hp fun j y hj e => hn (j + 1) y (by omega) (by simpa using e)
theorem fnd_some {l m : List Nat} {i x : Nat} (h : l[i]? = some x) (hm : x ∈ m) (hn : ∀ (j : Nat) y, j < i → l[j]? = some y → y ∉ m) : fnd l m = some x :=
  find_first h (decide_eq_true hm) fun j y hj e => decide_eq_false (hn j y hj e)
theorem fnd_none {l m : List Nat} (hn : ∀ (j : Nat) y, l[j]? = some y → y ∉ m) : fnd l m = none := by
  unfold fnd
  rw [List.find?_eq_none]
  intro x hx
  obtain ⟨j, hj, e⟩ := List.getElem_of_mem hx
  have := hn j x (List.getElem?_eq_some_iff.mpr ⟨hj, e⟩)
  simpa using this
theorem fnd_split {l m : List Nat} {x : Nat} (h : fnd l m = some x) : x ∈ m ∧ ∃ pre post, l = pre ++ x :: post ∧ ∀ y ∈ pre, y ∉ m := by
  unfold fnd at h
  rw [List.find?_eq_some_iff_append] at h
  obtain ⟨h1, as, bs, e, h2⟩ := h
  exact ⟨by simpa using h1, as, bs, e, fun y hy => by simpa using h2 y hy⟩
theorem fnd_comm {ps : List (Option Nat)} {a b : Nat} {l m : List Nat} (ca : Ch ps a l) (cb : Ch ps b m) : fnd l m = fnd m l := by
  cases e : fnd l m with
  | none =>
    symm
    refine fnd_none fun j y hy hm => ?_
    have ym : y ∈ m := List.mem_of_getElem? hy
    unfold fnd at e
    rw [List.find?_eq_none] at e
    have := e y hm
    simp [ym] at this
  | some x =>
    obtain ⟨xm, pre, post, el, hpre⟩ := fnd_split e
    obtain ⟨pre2, post2, em⟩ := List.append_of_mem xm
    rw [el] at ca
    rw [em] at cb
    have nb := cb.nodup
    have e2 : x :: post = x :: post2 := (Ch.tail ca).det (Ch.tail cb)
    symm
    refine fnd_some (i := pre2.length) (by rw [em]; simp) (by rw [el]; simp) fun j y hj hy yl => ?_
    have yp : y ∈ pre2 := by
      rw [em, List.getElem?_append_left hj] at hy
      exact List.mem_of_getElem? hy
    rw [el] at yl
    rcases List.mem_append.mp yl with h1 | h1
    · exact hpre y h1 (by rw [em]; exact List.mem_append_left _ yp)
    · rw [e2] at h1
      exact (List.nodup_append.mp nb).2.2 y yp y h1 rfl
/-! ### the way -/
def wayOf (l m : List Nat) (x : Nat) : List Nat := l.take (l.idxOf x) ++ [x] ++ (m.take (m.idxOf x)).reverse
theorem take_idx {l : List Nat} {x : Nat} (h : x ∈ l) : l.take (l.idxOf x + 1) = l.take (l.idxOf x) ++ [x] := by
  have hl : l.idxOf x < l.length := List.idxOf_lt_length_of_mem h
  rw [List.take_add_one, List.getElem?_eq_getElem hl, List.getElem_idxOf hl]
  rfl
theorem rev_idx (l : List Nat) : (List.range l.length).map (fun k => l.getD (l.length - 1 - k) 0) = l.reverse := by
  apply List.ext_getElem?
  intro i
  by_cases hi : i < l.length
  · rw [List.getElem?_map, List.getElem?_range hi, List.getElem?_reverse hi]
    simp only [Option.map_some]
    have h2 : l.length - 1 - i < l.length := by omega
    rw [List.getD_eq_getElem?_getD, List.getElem?_eq_getElem h2]
    rfl
  · rw [List.getElem?_eq_none (by simpa using hi), List.getElem?_eq_none (by simpa using hi)]
theorem nodup_len : ∀ {n : Nat} {l : List Nat}, l.Nodup → (∀ x ∈ l, x < n) → l.length ≤ n
  | 0, l, _, h => by
    cases l with
    | nil => exact Nat.le_refl _
    | cons a r => exact absurd (h a (by simp)) (by omega)
  | n + 1, l, nd, h => by
    by_cases hm : n ∈ l
    · have nd2 : (l.erase n).Nodup := nd.erase n
      have h2 : ∀ x ∈ l.erase n, x < n := fun x hx => by
        have h3 := h x (List.mem_of_mem_erase hx)
        have h4 : x ≠ n := fun e => by
          subst e
          exact (List.Nodup.mem_erase_iff nd).mp hx |>.1 rfl
        omega
      have h5 := nodup_len nd2 h2
      rw [List.length_erase_of_mem hm] at h5
      omega
    · have h2 : ∀ x ∈ l, x < n := fun x hx => by
        have h3 := h x hx
        have h4 : x ≠ n := fun e => hm (e ▸ hx)
        omega
      exact Nat.le_succ_of_le (nodup_len nd h2)
theorem Ch.len {ps : List (Option Nat)} {h : Nat} {l : List Nat} (c : Ch ps h l) : l.length ≤ ps.length := nodup_len c.nodup c.lt
/-- each parent is a house -/
def Inr (ps : List (Option Nat)) : Prop := ∀ (k q : Nat), ps[k]? = some (some q) → q < ps.length
theorem Tree.inr {ps : List (Option Nat)} (t : Tree ps) : Inr ps := fun k q e => (t k (List.getElem?_eq_some_iff.mp e).1).1.par_lt e
theorem tree_iff {ps : List (Option Nat)} : Tree ps ↔ ∀ h, h < ps.length → ∃ l, Ch ps h l :=
  ⟨fun t h hh => ⟨_, (t h hh).1⟩, fun t => tree_of fun h hh => let ⟨l, c⟩ := t h hh; ⟨l, c, c.len⟩⟩
theorem no_next {ps : List (Option Nat)} (ir : Inr ps) {h : Nat} (hh : h < ps.length) (n : ¬ ∃ l, Ch ps h l) : ∃ q, ps[h]? = some (some q) ∧ q < ps.length ∧ ¬ ∃ l, Ch ps q l := by
  have e : ps[h]? = some ps[h] := List.getElem?_eq_getElem hh
  cases q : ps[h] with
  | none => rw [q] at e; exact absurd ⟨_, .root e⟩ n
  | some q' =>
    rw [q] at e
    exact ⟨q', e, ir _ _ e, fun ⟨l, c⟩ => n ⟨_, .step e c⟩⟩
end W2
namespace M3
open PySem PySem.Spec PyProof.Rows L2
/-! ### houses and none -/
def ov : Option Nat → P
  | none => .non
  | some q => .int q
def nv (h : Nat) : P := .int h
def isNn : P → Bool
  | .non => true
  | _ => false
theorem rngD_get {lo : Int} {n k : Nat} {d : D} (h : (rngD lo n)[k]? = some d) : k < n ∧ d = .dat (.int (lo + (k : Int))) := by
  unfold rngD at h
  rw [List.getElem?_map] at h
  have hk : k < n := by
    by_cases c : k < n
    · exact c
    · rw [List.getElem?_eq_none (by simpa using c)] at h; cases h
  rw [List.getElem?_range hk] at h
  cases h
  exact ⟨hk, rfl⟩
theorem rngD_mem {lo : Int} {n : Nat} {d : D} (h : d ∈ rngD lo n) : ∃ k : Nat, k < n ∧ d = .dat (.int (lo + (k : Int))) := by
  obtain ⟨k, hk⟩ := List.getElem?_of_mem h
  exact ⟨k, rngD_get hk⟩
theorem rngD_len {lo : Int} {n : Nat} : (rngD lo n).length = n := by unfold rngD; simp
theorem rng1_ok {a : DA} {δ : DEnv} {S S1 : Store} {n : Nat} (h : a δ S = .ok [.dat (.int (n : Int))] S1) (hn : n ≤ 100000) : mRng1 a δ S = .ok (.items (rngD 0 n)) S1 := by
  unfold mRng1
  rw [h, R.bind_ok]
  simp only []
  rw [if_pos (by omega)]
  rfl
theorem rng2_ok {a : DA} {δ : DEnv} {S S1 : Store} {i n : Nat} (h : a δ S = .ok [.dat (.int (i : Int)), .dat (.int (n : Int))] S1) (hi : i ≤ 100000) (hn : n ≤ 100000) : mRng2 a δ S = .ok (.items (rngD i (n - i))) S1 := by
  unfold mRng2
  rw [h, R.bind_ok]
  simp only []
  rw [if_pos (by omega)]
  congr 3
  omega
theorem for_items {w : DI} {g : DG} {b : DS} {δ : DEnv} {S S1 : Store} {l : List D} (h : w δ S = .ok (.items l) S1) : mFor w g b δ S = mForL g b l δ S1 := by
  unfold mFor; rw [h, R.st_ok]
theorem for_ob {w : DI} {g : DG} {b : DS} {δ : DEnv} {S S1 : Store} {o : Nat} {l : List D} (h : w δ S = .ok (.ob o) S1) (ho : S1[o]? = some (.lst l)) : mFor w g b δ S = mForO g b o l.length l.length 0 δ S1 := by
  unfold mFor; rw [h, R.st_ok]; simp only [ho]
theorem walk_t {a : DE} {δ : DEnv} {S S1 : Store} {l : List P} (h : a δ S = .ok (.dat (.tup l)) S1) : mWalk a δ S = .ok (.items (l.map .dat)) S1 := by unfold mWalk; rw [h]; rfl
theorem walk_l {a : DE} {δ : DEnv} {S S1 : Store} {l : List P} (h : a δ S = .ok (.dat (.lst l)) S1) : mWalk a δ S = .ok (.items (l.map .dat)) S1 := by unfold mWalk; rw [h]; rfl
theorem walk_o {a : DE} {δ : DEnv} {S S1 : Store} {o : Nat} {l : List D} (h : a δ S = .ok (.obj o) S1) (ho : S1[o]? = some (.lst l)) : mWalk a δ S = .ok (.ob o) S1 := by
  unfold mWalk; rw [h, R.bind_ok]
  show oR (match S1[o]? with | some (.lst _) => some (Wk.ob o) | _ => none) S1 = _
  rw [ho]; rfl
theorem forO_ends {g : DG} {b : DS} {o : Nat} {l : List D} (I : Nat → DEnv → Store → Prop) {Q : Out → Store → Prop} (hl : ∀ i δ S, I i δ S → S[o]? = some (.lst l))
    (st : ∀ i d δ S, l[i]? = some d → I i δ S → Ends ((g d δ S).st δ b) (TurnP (I (i + 1)) Q)) (q : ∀ δ S, I l.length δ S → Q (.nx δ) S) : ∀ {k i : Nat} {δ : DEnv} {S : Store}, i + k = l.length → I i δ S → Ends (mForO g b o l.length k i δ S) Q
  | 0, i, δ, S, e, h => by
    unfold mForO
    simp only [hl i δ S h, if_true]
    refine ⟨_, _, rfl, q δ S ?_⟩
    rw [← e, Nat.add_zero]; exact h
  | k + 1, i, δ, S, e, h => by
    unfold mForO
    have e1 : l[i]? = some l[i] := List.getElem?_eq_getElem (by omega)
    simp only [hl i δ S h, if_true, e1]
    exact turn_ends (st i _ δ S e1 h) fun δ' S' h' => forO_ends I hl st q (by omega) h'
theorem lc_items {w : DI} {g : DG} {t : DT} {e : DE} {vs : List Nat} {δ : DEnv} {S S1 : Store} {l : List D} (f : D → Option D) (hw : w δ S = .ok (.items l) S1) (hl : l.length ≤ 100000)
    (h : ∀ d ∈ l, ∃ δ1, g d (wipeD δ vs) S1 = .ok δ1 S1 ∧ match f d with
      | some y => t δ1 S1 = .ok true S1 ∧ e δ1 S1 = .ok y S1
      | none => t δ1 S1 = .ok false S1) : mLc w g t e vs δ S = .ok (l.filterMap f) S1 := by
  unfold mLc
  rw [hw, R.bind_ok]
  simp only []
  rw [lc_pure f (by simpa using hl) h, R.bnf_ok]
  rfl
theorem lcL_map {α : Type} {g : DG} {t : DT} {e : DE} {vs : List Nat} {δ : DEnv} {S : Store} (h : α → D) (f : α → Option P) : ∀ {xs : List α} {acc : List D}, (acc.length + xs.length ≤ 100000) →
    (∀ x ∈ xs, ∃ δ1, g (h x) (wipeD δ vs) S = .ok δ1 S ∧ match f x with
      | some y => t δ1 S = .ok true S ∧ e δ1 S = .ok (.dat y) S
      | none => t δ1 S = .ok false S) → mLcL g t e vs δ (xs.map h) acc S = .ok (acc ++ (xs.filterMap f).map .dat) S
  | [], acc, _, _ => by simp [mLcL]
  | d :: l, acc, hl, hh => by
    obtain ⟨δ1, e1, e2⟩ := hh d (List.mem_cons_self ..)
    rw [List.map_cons]
    unfold mLcL
    rw [e1, R.bnf_ok]
    rw [List.length_cons] at hl
    cases q : f d with
    | none =>
      rw [q] at e2
      rw [e2, R.bnf_ok]
      show mLcL g t e vs δ (l.map h) acc S = _
      rw [lcL_map h f (by omega) fun d m => hh d (List.mem_cons_of_mem _ m), List.filterMap_cons, q]
    | some y =>
      rw [q] at e2
      rw [e2.1, R.bnf_ok]
      show (e δ1 S).bnf _ = _
      rw [e2.2, R.bnf_ok, if_pos (by omega), lcL_map h f (by rw [List.length_append, List.length_singleton]; omega) fun d m => hh d (List.mem_cons_of_mem _ m), List.filterMap_cons, q]
      simp
theorem lc_map {α : Type} {w : DI} {g : DG} {t : DT} {e : DE} {vs : List Nat} {δ : DEnv} {S S1 : Store} {xs : List α} (h : α → D) (f : α → Option P) (hw : w δ S = .ok (.items (xs.map h)) S1) (hl : xs.length ≤ 100000)
    (hh : ∀ x ∈ xs, ∃ δ1, g (h x) (wipeD δ vs) S1 = .ok δ1 S1 ∧ match f x with
      | some y => t δ1 S1 = .ok true S1 ∧ e δ1 S1 = .ok (.dat y) S1
      | none => t δ1 S1 = .ok false S1) : mLc w g t e vs δ S = .ok ((xs.filterMap f).map .dat) S1 := by
  unfold mLc
  rw [hw, R.bind_ok]
  simp only []
  rw [lcL_map h f (by simpa using hl) hh, R.bnf_ok]
  rfl
theorem lc_all {α : Type} {w : DI} {g : DG} {t : DT} {e : DE} {vs : List Nat} {δ : DEnv} {S S1 : Store} {xs : List α} (h : α → D) (k : α → P) (hw : w δ S = .ok (.items (xs.map h)) S1) (hl : xs.length ≤ 100000)
    (hh : ∀ x ∈ xs, ∃ δ1, g (h x) (wipeD δ vs) S1 = .ok δ1 S1 ∧ t δ1 S1 = .ok true S1 ∧ e δ1 S1 = .ok (.dat (k x)) S1) : mLc w g t e vs δ S = .ok ((xs.map k).map .dat) S1 := by
  rw [lc_map h (fun x => some (k x)) hw hl hh]
  congr 2
  rw [← List.filterMap_eq_map]
  rfl
theorem rngD0 (n : Nat) : rngD 0 n = (List.range n).map fun k => .dat (nv k) := by
  unfold rngD
  refine List.map_congr_left fun k _ => ?_
  rw [Int.zero_add]
  rfl
theorem rng0_ok {a : DA} {δ : DEnv} {S S1 : Store} {n : Nat} (h : a δ S = .ok [.dat (.int (n : Int))] S1) (hn : n ≤ 100000) : mRng1 a δ S = .ok (.items ((List.range n).map fun k => .dat (nv k))) S1 := by rw [rng1_ok h hn, rngD0]
theorem all_lst {S : Store} {bs : List Bool} : aAll S [.dat (.lst (bs.map .bl))] = some (.dat (.bl (bs.all id))) := by
  show ((listP S _).bind boolsP).map _ = _
  rw [listP_l]
  show (boolsP _).map _ = _
  rw [boolsP_map]
  rfl
theorem any_lst {S : Store} {bs : List Bool} : aAny S [.dat (.lst (bs.map .bl))] = some (.dat (.bl (bs.any id))) := by
  show ((listP S _).bind boolsP).map _ = _
  rw [listP_l]
  show (boolsP _).map _ = _
  rw [boolsP_map]
  rfl
theorem inP_nv (h : Nat) (l : List Nat) : inP (nv h) (l.map nv) = decide (h ∈ l) := by
  induction l with
  | nil => rfl
  | cons a l ih =>
    have e : inP (nv h) ((a :: l).map nv) = (eqF (nv a) (nv h) || inP (nv h) (l.map nv)) := rfl
    have e2 : eqF (nv a) (nv h) = decide (h = a) := by
      show ((a : Int) == (h : Int)) = _
      by_cases c : h = a
      · subst c; simp
      · rw [decide_eq_false c]; simpa using fun z : (a : Int) = h => c (by omega)
    rw [e, e2, ih]
    by_cases c : h = a <;> simp [c]
theorem flat_nv (l : List Nat) : (l.map nv).all flatP = true := by
  rw [List.all_map]
  exact List.all_eq_true.mpr fun _ _ => rfl
theorem in_nv {S : Store} {h : Nat} {l : List Nat} : aIn S (.dat (nv h)) (.dat (.lst (l.map nv))) = some (.dat (.bl (decide (h ∈ l)))) := by
  show (match seqP S (.dat (.lst (l.map nv))) with | some l => if flatP (nv h) = true ∧ l.all flatP = true then some (inP (nv h) l) else none | none => none : Option Bool).map dBl = _
  rw [seqP_l]
  simp only []
  rw [if_pos ⟨rfl, flat_nv l⟩, inP_nv]
  rfl
theorem idxF_nv {h : Nat} {l : List Nat} (hm : h ∈ l) : idxF (nv h) (l.map nv) = some (l.idxOf h) := by
  induction l with
  | nil => cases hm
  | cons a l ih =>
    have e2 : eqF (nv a) (nv h) = decide (h = a) := by
      show ((a : Int) == (h : Int)) = _
      by_cases c : h = a
      · subst c; simp
      · rw [decide_eq_false c]; simpa using fun z : (a : Int) = h => c (by omega)
    rw [List.map_cons, idxF, e2, List.idxOf_cons]
    by_cases c : h = a
    · subst c; simp
    · have hm2 : h ∈ l := (List.mem_cons.mp hm).resolve_left c
      rw [if_neg (by simpa using c), ih hm2]
      have : (a == h) = false := by simpa using fun z => c z.symm
      rw [this]; rfl
theorem index_nv {S : Store} {h : Nat} {l : List Nat} (hm : h ∈ l) : rdM fIndex (.dat (.lst (l.map nv))) [.dat (nv h)] S = .ok (.dat (nv (l.idxOf h))) S := by
  show oR (match listP S (.dat (.lst (l.map nv))) with | some l => if flatP (nv h) = true ∧ l.all flatP = true then (idxF (nv h) l).map fun j => dInt (j : Nat) else none | none => none) S = _
  rw [listP_l]
  simp only []
  rw [if_pos ⟨rfl, flat_nv l⟩, idxF_nv hm]
  rfl
theorem cut_take {α : Type} (l : List α) (k : Nat) : cutL l none (some (k : Int)) = l.take k := by
  unfold cutL
  rw [HT.sIx_none, HT.sIx_nat, List.drop_zero, Nat.sub_zero]
  by_cases c : k ≤ l.length
  · rw [Nat.min_eq_left c]
  · rw [Nat.min_eq_right (by omega), List.take_of_length_le (Nat.le_refl _), List.take_of_length_le (by omega)]
theorem sl_take {S : Store} {l : List P} {k : Nat} : aSl S (.dat (.lst l)) none (some (k : Int)) = some (.dat (.lst (l.take k))) := by
  show (listP S _).map _ = _
  rw [listP_l, Option.map_some, cut_take]
theorem lcL_inv {g : DG} {t : DT} {e : DE} {vs : List Nat} {δ : DEnv} (J : Store → Prop) (Pp : P → Prop) : ∀ {l acc : List D} {S : Store}, J S → (acc.length + l.length ≤ 100000) →
    (∀ d ∈ l, ∀ S, J S → ∃ δ1 p S', g d (wipeD δ vs) S = .ok δ1 S ∧ t δ1 S = .ok true S ∧ e δ1 S = .ok (.dat p) S' ∧ J S' ∧ Pp p) → ∃ (ps : List P) (S' : Store), mLcL g t e vs δ l acc S = .ok (acc ++ ps.map .dat) S' ∧ J S' ∧ ps.length = l.length ∧ ∀ p ∈ ps, Pp p
  | [], acc, S, hJ, _, _ => ⟨[], S, by simp [mLcL], hJ, rfl, fun _ h => (nomatch h)⟩
  | d :: l, acc, S, hJ, hl, h => by
    obtain ⟨δ1, p, S', e1, e2, e3, hJ', hp⟩ := h d (List.mem_cons_self ..) S hJ
    rw [List.length_cons] at hl
    obtain ⟨ps, S2, e4, hJ2, hn, hps⟩ := lcL_inv J Pp (l := l) (acc := acc ++ [.dat p]) hJ' (by rw [List.length_append, List.length_singleton]; omega) fun d m => h d (List.mem_cons_of_mem _ m)
    refine ⟨p :: ps, S2, ?_, hJ2, by rw [List.length_cons, List.length_cons, hn], fun q m => ?_⟩
    · unfold mLcL
      rw [e1, R.bnf_ok, e2, R.bnf_ok]
      show (e δ1 S).bnf _ = _
      rw [e3, R.bnf_ok, if_pos (by omega), e4]
      simp
    · rcases List.mem_cons.mp m with rfl | m
      · exact hp
      · exact hps q m
theorem lc_inv {w : DI} {g : DG} {t : DT} {e : DE} {vs : List Nat} {δ : DEnv} {S S1 : Store} {l : List D} (J : Store → Prop) (Pp : P → Prop) (hw : w δ S = .ok (.items l) S1) (hJ : J S1) (hl : l.length ≤ 100000)
    (h : ∀ d ∈ l, ∀ S, J S → ∃ δ1 p S', g d (wipeD δ vs) S = .ok δ1 S ∧ t δ1 S = .ok true S ∧ e δ1 S = .ok (.dat p) S' ∧ J S' ∧ Pp p) : ∃ (ps : List P) (S' : Store), mLc w g t e vs δ S = .ok (ps.map .dat) S' ∧ J S' ∧ ps.length = l.length ∧ ∀ p ∈ ps, Pp p := by
  obtain ⟨ps, S', e1, a⟩ := lcL_inv (acc := []) J Pp hJ (by simpa using hl) h
  refine ⟨ps, S', ?_, a⟩
  unfold mLc
  rw [hw, R.bind_ok]
  simp only []
  rw [e1, R.bnf_ok]
  rfl
theorem fin_ends {r : R Out} {Q : D → Store → Prop} (h : Ends r fun o S => ∃ d, o = .rt d ∧ Q d S) : ∃ d S, fin r = .ok d S ∧ Q d S := by
  obtain ⟨o, S, rfl, d, rfl, q⟩ := h
  exact ⟨d, S, rfl, q⟩
theorem Ends.mono {r : R Out} {Q Q' : Out → Store → Prop} (h : Ends r Q) (k : ∀ o S, Q o S → Q' o S) : Ends r Q' := let ⟨o, S, e, q⟩ := h; ⟨o, S, e, k o S q⟩
theorem Ends.of {o : Out} {S : Store} {Q : Out → Store → Prop} (h : Q o S) : Ends (.ok o S) Q := ⟨_, _, rfl, h⟩
theorem Ends.eq {r r' : R Out} {Q : Out → Store → Prop} (h : Ends r' Q) (e : r = r') : Ends r Q := e ▸ h
theorem fld_ins {FL : List (Addr × Str)} {f : Str} {C : Addr} {l : List (Str × P)} {p : P} {S : Store} (hm : (C, f) ∈ FL) (h : lookPf f l = some p) : fldD FL f S (.dat (.ins C l)) = some (.dat p) := by
  show (if (C, f) ∈ FL then (lookPf f l).map D.dat else none) = _
  rw [if_pos hm, h]; rfl
theorem setF_o {FL : List (Addr × Str)} {f : Str} {C : Addr} {i : Nat} {l : List (Str × D)} {d : D} {S : Store} (ho : S[i]? = some (.ins C l)) (hm : (C, f) ∈ FL) (hl : l.length < 1000) : setF FL f (.obj i) d S = some (S.set i (.ins C (putD f d l))) := by
  show (match S[i]? with | some (.ins C l) => if (C, f) ∈ FL ∧ l.length < 1000 then some (S.set i (.ins C (putD f d l))) else none | _ => none) = _
  rw [ho]
  exact if_pos ⟨hm, hl⟩
theorem get_app {S t : Store} {o : Nat} {x : O} (h : S[o]? = some x) : (S ++ t)[o]? = some x := by
  rw [List.getElem?_append_left (List.getElem?_eq_some_iff.mp h).1]; exact h
theorem get_new {S : Store} {x : O} : (S ++ [x])[S.length]? = some x := by
  rw [List.getElem?_append_right (Nat.le_refl _), Nat.sub_self]; rfl
theorem get_set {S : Store} {o o' : Nat} {x y : O} (n : o' ≠ o) (h : S[o]? = some x) : (S.set o' y)[o]? = some x := by
  rw [List.getElem?_set_ne n]; exact h
theorem get_set_self {S : Store} {o : Nat} {x y : O} (h : S[o]? = some x) : (S.set o y)[o]? = some y := List.getElem?_set_self (List.getElem?_eq_some_iff.mp h).1
theorem lt_of_get {α : Type} {S : List α} {o : Nat} {x : α} (h : S[o]? = some x) : o < S.length := (List.getElem?_eq_some_iff.mp h).1
theorem map_get {α β : Type} {f : α → β} {l : List α} {k : Nat} {x : α} (h : l[k]? = some x) : (l.map f)[k]? = some (f x) := by rw [List.getElem?_map, h]; rfl
theorem fin_eq {r : R Out} {d : D} {S : Store} (h : r = .ok (.rt d) S) : fin r = .ok d S := by rw [h]; rfl
end M3
namespace M3
open PySem PySem.Spec PyProof.Rows L2
/-! ### a written dict asked for None -/
theorem mapOf_L {prog : Program} {w : World} {K : PySem.W.Frag} {h : Heap} {a : Addr} {es : Array DictEntry} {n : Nat} (X : K.In h) (hl : K.lookup a = some ⟨.type "dict", none, .dict es n, #[]⟩) (hk : PySem.W.KeysLit w.params es.toList) : h.MapOf (leafKind prog w) a (fun k => findBy Leaf.isOf es k) :=
  ⟨_, es, n, X _ _ hl, ⟨rfl, rfl, rfl⟩, rfl, fun e he => by
    obtain ⟨x, t, e1, e2⟩ := hk.all e (Array.mem_toList_iff.mpr he)
    exact ⟨.text x, by rw [e1]; exact PySem.strKind_is prog w x t, e2⟩, fun _ => rfl⟩
theorem find_non {P : Params} {es : Array DictEntry} (hk : PySem.W.KeysLit P es.toList) : findBy Leaf.isOf es .none = none := by
  unfold findBy
  have : es.find? (fun e => Leaf.isOf .none e.key) = none := by
    rw [Array.find?_eq_none]
    intro e he
    obtain ⟨x, t, e1, _⟩ := hk.all e (Array.mem_toList_iff.mpr he)
    rw [e1]
    exact Bool.false_ne_true
  rw [this]; rfl
theorem op_in_non {X : Cx} {d : Addr} {es : Array DictEntry} {n : Nat} (D : KDict X.K X.w d es n) : OpR X (compareOp .In) (fun x y H Q => x = .non ∧ y = .ref d ∧ Q (.bl false) H) := by
  intro pins s σ H x y v u Q I rx ry h
  obtain ⟨rfl, rfl, q⟩ := h
  cases (show v = Value.none from rx)
  cases (show u = Value.ref d from ry)
  refine wpAny_in_of (knd := leafKind X.prog X.w) (k := .none) rfl D.low (mapOf_L (prog := X.prog) I.kIn D.at_ D.lit) ?_
  rw [find_non D.lit]
  exact ⟨.bl false, H, I.tok _, rfl, q⟩
/-! ### a written dict: text keys, values that never change -/
structure TabOk (K : PySem.W.Frag) (w : World) (t : Addr) (kvs : List (Str × P)) : Prop where
  ex : ∃ kv : List (Str × V), W2.KD K w t kv ∧ ∀ z, match lookPf z kvs with
    | none => kv.lookup z = none
    | some p => ∃ v, kv.lookup z = some v ∧ ∀ ι X H, RepP K ι X H p v
def rInTab (t : Addr) (kvs : List (Str × P)) : R2 := fun x y H Q => y = .ref t ∧ ((x = .non ∧ Q (.bl false) H) ∨ ∃ z, x = .str z ∧ Q (.bl (lookPf z kvs).isSome) H)
def rIxTab (K : PySem.W.Frag) (t : Addr) (kvs : List (Str × P)) : R2 := fun x y H Q => x = .ref t ∧ ∃ z p, y = .str z ∧ lookPf z kvs = some p ∧ ∀ v, (∀ ι X H', RepP K ι X H' p v) → Q v H
theorem op_inTab {X : Cx} {K : PySem.W.Frag} {t : Addr} {kvs : List (Str × P)} (hK : X.K = K) (T : TabOk K X.w t kvs) : OpR X (compareOp .In) (rInTab t kvs) := by
  subst hK
  obtain ⟨kv, D, hv⟩ := T.ex
  obtain ⟨es, n, KDc⟩ := D.ex
  intro pins s σ H x y v u Q I rx ry h
  obtain ⟨hy, ⟨hx, q⟩ | ⟨z, hx, q⟩⟩ := h
  · exact op_in_non KDc pins s σ H x y v u Q I rx ry ⟨hx, hy, q⟩
  · refine op_in_kd KDc pins s σ H x y v u Q I rx ry ?_
    have hz := hv z
    cases e : lookPf z kvs with
    | none =>
      rw [e] at hz q
      exact ⟨z, none, hx, hy, D.miss z hz, q⟩
    | some p =>
      rw [e] at hz q
      obtain ⟨v0, e1, _⟩ := hz
      obtain ⟨u0, e2, _⟩ := D.hit z v0 e1
      exact ⟨z, some u0, hx, hy, e2, q⟩
theorem ix_Tab {X : Cx} {K : PySem.W.Frag} {t : Addr} {kvs : List (Str × P)} (hK : X.K = K) (T : TabOk K X.w t kvs) : IxR X (rIxTab K t kvs) := by
  subst hK
  obtain ⟨kv, D, hv⟩ := T.ex
  intro value slice pins s σ H x y v u Q I rx ry h hs
  obtain ⟨hx, z, p, hy, e, q⟩ := h
  have hz := hv z
  rw [e] at hz
  obtain ⟨v0, e1, r⟩ := hz
  exact W2.ix_KD D value slice pins s σ H x y v u Q I rx ry ⟨z, v0, hx, hy, e1, q v0 r⟩ hs
section
variable {K : PySem.W.Frag}
def aInTab (t : Addr) (kvs : List (Str × P)) : Store → D → D → Option D := fun _ x y => match x, y with
  | .dat .non, .dat (.con (.ref a)) => if a = t then some (dBl false) else none
  | .dat (.str z), .dat (.con (.ref a)) => if a = t then some (dBl (lookPf z kvs).isSome) else none
  | _, _ => none
def aIxTab (t : Addr) (kvs : List (Str × P)) : Store → D → D → Option D := fun _ x y => match x, y with
  | .dat (.con (.ref a)), .dat (.str z) => if a = t then (lookPf z kvs).map .dat else none
  | _, _ => none
theorem inTab_ok {t : Addr} {kvs : List (Str × P)} : R2S K (rInTab t kvs) (aInTab t kvs) := by
  intro ι X S H x y v u d Q rel rx ry e k
  unfold aInTab at e
  split at e
  · split at e
    · rename_i h
      cases e
      subst h
      exact ⟨rC_inv ry, .inl ⟨rN_inv rx, k H _ Ext.refl rel rd_bl⟩⟩
    · cases e
  · split at e
    · rename_i h
      cases e
      subst h
      exact ⟨rC_inv ry, .inr ⟨_, rS_inv rx, k H _ Ext.refl rel rd_bl⟩⟩
    · cases e
  · cases e
theorem ixTab_ok {t : Addr} {kvs : List (Str × P)} : R2S K (rIxTab K t kvs) (aIxTab t kvs) := by
  intro ι X S H x y v u d Q rel rx ry e k
  unfold aIxTab at e
  split at e
  · split at e
    · rename_i z h
      subst h
      cases q : lookPf z kvs with
      | none => rw [q] at e; cases e
      | some p =>
        rw [q] at e
        cases e
        exact ⟨rC_inv rx, z, p, rS_inv ry, q, fun v r => k H v Ext.refl rel (r ι X H)⟩
    · cases e
  · cases e
end
/-! ### the written dict made -/
inductive KAll (P : Params) : List DictEntry → List (Str × V) → Prop
  | nil : KAll P [] []
  | cons {e : DictEntry} {es : List DictEntry} {z : Str} {v : V} {kv : List (Str × V)} (k : ∃ τ, e.key = .str z τ) (h : e.hash = PyData.keyHash P z) (r : RelV v e.val) (t : KAll P es kv) : KAll P (e :: es) ((z, v) :: kv)
theorem KAll.lit {P : Params} {es : List DictEntry} {kv : List (Str × V)} (h : KAll P es kv) : PySem.W.KeysLit P es := by
  induction h with
  | nil => trivial
  | cons k h r t ih =>
    obtain ⟨τ, k⟩ := k
    exact ⟨⟨_, τ, k, h⟩, ih⟩
theorem KAll.find {P : Params} {es : List DictEntry} {kv : List (Str × V)} (h : KAll P es kv) (z : Str) : (match kv.lookup z with
    | some v => ∃ e, es.find? (·.key.isStr z) = some e ∧ RelV v e.val
    | none => es.find? (·.key.isStr z) = none) ∧ es.any (·.refKey) = false := by
  induction h with
  | nil => exact ⟨rfl, rfl⟩
  | @cons e es x v kv k h r t ih =>
    obtain ⟨τ, k⟩ := k
    refine ⟨?_, ?_⟩
    · by_cases q : z = x
      · subst q
        have e1 : List.lookup z ((z, v) :: kv) = some v := by simp [List.lookup]
        rw [e1]
        refine ⟨e, ?_, r⟩
        rw [List.find?_cons, k]
        show (match (z == z) with | true => some e | false => _) = _
        simp
      · have e1 : List.lookup z ((x, v) :: kv) = List.lookup z kv := by
          have : (z == x) = false := by simpa using q
          simp [List.lookup, this]
        have e2 : (e :: es).find? (·.key.isStr z) = es.find? (·.key.isStr z) := by
          rw [List.find?_cons, k]
          have : (Value.str x τ).isStr z = false := by
            show (x == z) = false
            simpa using fun c : x = z => q c.symm
          rw [this]
        rw [e1, e2]
        exact ih.1
    · rw [List.any_cons, ih.2, Bool.or_false]
      show e.refKey = false
      unfold DictEntry.refKey
      rw [k]
theorem kd_of {K : PySem.W.Frag} {w : World} {t : Addr} {es : List DictEntry} {n : Nat} {kv : List (Str × V)} (l : K.lookup t = some ⟨.type "dict", none, .dict es.toArray n, #[]⟩) (low : (t == sysModules) = false) (h : KAll w.params es kv) : W2.KD K w t kv := by
  have ns : ∀ z, PySem.W.nsIn K t z = (match es.find? (·.key.isStr z) with
      | some e => some (some e.val)
      | none => if es.any (·.refKey) then none else some none) := fun z => by
    unfold PySem.W.nsIn
    rw [l]
    rfl
  refine ⟨⟨es.toArray, n, l, h.lit, low⟩, fun z v e => ?_, fun z e => ?_⟩
  · have := (h.find z).1
    rw [e] at this
    obtain ⟨en, e1, r⟩ := this
    refine ⟨en.val, ?_, r⟩
    rw [ns, e1]
  · have := (h.find z).1
    rw [e] at this
    rw [ns, this, (h.find z).2]
    rfl
inductive TabAll (K : PySem.W.Frag) : List (Str × V) → List (Str × P) → Prop
  | nil : TabAll K [] []
  | cons {z z' : Str} {v : V} {p : P} {kv : List (Str × V)} {kp : List (Str × P)} (h : z = z' ∧ ∀ ι X H, RepP K ι X H p v) (t : TabAll K kv kp) : TabAll K ((z, v) :: kv) ((z', p) :: kp)
theorem tab_mk {K : PySem.W.Frag} {kv : List (Str × V)} {kp : List (Str × P)} (h : TabAll K kv kp) : ∀ z, match lookPf z kp with
    | none => kv.lookup z = none
    | some p => ∃ v, kv.lookup z = some v ∧ ∀ ι X H, RepP K ι X H p v := by
  induction h with
  | nil => exact fun z => rfl
  | @cons x x' v p kv kp h t ih =>
    obtain ⟨rfl, h⟩ := h
    intro z
    by_cases q : z = x
    · subst q
      have e1 : List.lookup z ((z, v) :: kv) = some v := by simp [List.lookup]
      have e2 : lookPf z ((z, p) :: kp) = some p := if_pos rfl
      rw [e2]
      exact ⟨v, e1, h⟩
    · have e1 : List.lookup z ((x, v) :: kv) = List.lookup z kv := by
        have : (z == x) = false := by simpa using q
        simp [List.lookup, this]
      have e2 : lookPf z ((x, p) :: kp) = lookPf z kp := if_neg q
      rw [e2, e1]
      exact ih z
theorem rep_strs {K : PySem.W.Frag} {ι X : List Addr} {H : Hp} (l : List Str) : RepPs K ι X H (l.map .str) (l.map V.str) := by
  induction l with
  | nil => show RepPs K ι X H [] []; rw [RepPs]
  | cons s l ih =>
    show RepPs K ι X H (.str s :: l.map .str) (V.str s :: l.map V.str)
    rw [RepPs]
    exact ⟨_, _, rfl, by rw [RepP], ih⟩
theorem rep_txt {K : PySem.W.Frag} {a : Addr} {dd : Option Addr} {its : Array Value} {n : Nat} {sl : Array (Option Value)} (l : List Str) (h : K.lookup a = some ⟨.type "tuple", dd, .seq its n, sl⟩) (hz : its.size ≤ 100) (r : Vals (l.map V.str) its.toList) : ∀ ι X H, RepP K ι X H (.tup (l.map .str)) (.ref a) := fun ι X H => by
  rw [RepP]
  exact ⟨a, l.map V.str, rfl, .inr ⟨_, its, n, h, rfl, rfl, Nat.le_trans hz (small (by decide)), r⟩, rep_strs l⟩
/-! ### {} -/
def mDnew : DE := fun _ S => .ok (.dat (.dic [])) S
theorem se_dnew {K : PySem.W.Frag} {W : L2.St → WK} : SE K W tDNewK mDnew := by
  intro ι X S H σ δ Q rel re h p hp
  have x2 := ext_alloc (o := .dK []) rel hp
  have na : p ∉ ι ∧ p ∉ X := rel.nin hp
  refine h ι _ (.ref p) x2 (rel.alloc hp) ?_
  show RepP K ι X _ (.dic []) _
  rw [RepP]
  refine ⟨p, [], rfl, na.1, na.2, upd_same, ?_⟩
  rw [RepKs]
/-! ### try .. except C as n: return (text, n.f) -/
def mTryAsF (K : PySem.W.Frag) (c : Value) (C0 : Addr) (i : Nat) (cst f : Str) (b : DS) : DS := fun δ S => match b δ S with
  | .ok (.ex C x δ1) S1 => (match PySem.W.exmOne K (.ref C) c with
    | some true => (match x with
      | some (f', p) => if f' = f ∧ C = C0 ∧ i < δ1.length then .ok (.rt (.dat (.tup [.str cst, p]))) S1 else .fail
      | none => .fail)
    | some false => .ok (.ex C x δ1) S1
    | none => .fail)
  | r => r
theorem ss_tryAsF {K : PySem.W.Frag} {c : Value} {C0 : Addr} {i : Nat} {cst f : Str} {tb : WX → TS} {Wout : WX} {b : DS} {tby : Addr → Value → Option Addr → TE → TE} (hb : ∀ W' : WX, SS K (wk W') (tb W') b)
    (htby : ∀ a cls d te, tby a cls d te = fun σ H Q => te σ H fun x H1 => x = .ref a ∧ cls = .ref C0 ∧ ∃ (dd : Addr) (v : V), d = some dd ∧ H1 dd = some (.xd [(f, v)]) ∧ Q v H1) :
    SS K (wk Wout) (fun D σ H => tb (wAs K c i (fun a cls d => tRet (tTup (tCons (tC (.str cst)) (tCons (tby a cls d (tVar i)) tNil)))) Wout D) D σ H) (mTryAsF K c C0 i cst f b) := by
  intro ι X S H σ δ E rel re hp
  refine hb _ ι X S H σ δ E rel re ?_
  unfold mTryAsF at hp
  cases e : b δ S with
  | fail => rw [e] at hp; exact hp
  | exc C x S1 => rw [e] at hp; exact hp
  | ok o S1 =>
    rw [e] at hp
    cases o with
    | nx δ1 => exact hp
    | bk δ1 => exact hp
    | ct δ1 => exact hp
    | rt d => exact hp
    | ex C x δ1 =>
      simp only at hp
      intro ι1 H1 da σ1 x1 rel1 rx re1
      cases q : PySem.W.exmOne K (.ref C) c with
      | none => rw [q] at hp; exact hp.elim
      | some bb =>
        rw [q] at hp
        refine ⟨bb, q, fun eb a ha => ?_, fun eb => ?_⟩
        · subst eb
          cases x with
          | none => exact hp.elim
          | some z =>
            obtain ⟨f', p⟩ := z
            simp only at hp
            by_cases cc : f' = f ∧ C = C0 ∧ i < δ1.length
            · rw [if_pos cc] at hp
              obtain ⟨rfl, rfl, hi⟩ := cc
              obtain ⟨dd, v, ed, ex, rp⟩ := rx
              have hi2 : i < σ1.length := by rw [← re1.1]; exact hi
              show tTup _ _ H1 _
              unfold tTup tCons tC
              rw [htby]
              refine ⟨.ref a, List.getElem?_set_self hi2, rfl, rfl, dd, v, ed, ex, ?_⟩
              refine ⟨small (by show 2 ≤ 100000; decide), fun t ht => ?_⟩
              have x2 := ext_alloc (o := .tup [.str cst, v]) rel1 ht
              have r2 := rel1.alloc (o := .tup [.str cst, v]) ht
              refine hp ι1 _ (.ref t) (x1.trans x2) r2 ?_
              show RepP K ι1 X _ (.tup [.str cst, p]) _
              rw [RepP]
              have na : t ∉ ι1 ∧ t ∉ X := rel1.nin ht
              refine ⟨t, _, rfl, .inl ⟨na.1, na.2, .inl upd_same⟩, ?_⟩
              rw [RepPs]
              refine ⟨_, _, rfl, by rw [RepP], ?_⟩
              rw [RepPs]
              refine ⟨_, _, rfl, RepP.ext x2 rp, ?_⟩
              rw [RepPs]
            · rw [if_neg cc] at hp; exact hp.elim
        · subst eb
          exact hp ι1 H1 da σ1 x1 rel1 rx re1
end M3
namespace M3
open PySem PySem.Spec PyProof.Rows L2
/-! ### try, its parts kept apart -/
def tTry (tb : WX → TS) (wf : L2.Ends → WX) : TS := fun D σ H => tb (wf D) D σ H
section
variable {X : Cx} {x n : Str} {c : Value} {i : Nat} {body suite : List Stmt} {b₀ : Stmt} {np pos pos' : Pos} {tb : WX → TS} {ts : Addr → Value → Option Addr → TS} {Wout : WX}
theorem ps_tryO (hs : X.stack = X.env :: X.outer) (hf : X.env.frame = some X.env.locals) (hc : Names X x c) (tk : Takes X Wout)
    (hb : ∀ (W : WX) (pn : List (Addr × Obj)) (xe : Value → Shared → Prop), Takes (X.tr pn xe) W → PassesOwn (model X.prog X.w) X.A X.env xe → PSs (X.tr pn xe) body (tb W))
    (hsu : ∀ (a : Addr) (oe : Obj) (cls : Value) (d : Option Addr) (pn : List (Addr × Obj)), Zc cls d oe → (∃ vs, oe.data = .fields vs) → PSs (X.suite a ((a, oe) :: pn)) (b₀ :: suite) (ts a cls d)) :
    PS X (.Try body [.ExceptHandler (some (.Name x np)) none (b₀ :: suite) pos'] [] [] pos) (tTry tb (wOnly X.K c ts Wout)) := ps_try_only hs hf hc tk hb hsu
theorem ps_tryA (hs : X.stack = X.env :: X.outer) (hf : X.env.frame = some X.env.locals) (hN : X.N.Nodup) (hi : X.N[i]? = some n) (hln : X.env.kindOf n = some .local) (hc : Names X x c) (tk : Takes X Wout)
    (hb : ∀ (W : WX) (pn : List (Addr × Obj)) (xe : Value → Shared → Prop), Takes (X.tr pn xe) W → PassesOwn (model X.prog X.w) X.A X.env xe → PSs (X.tr pn xe) body (tb W))
    (hsu : ∀ (a : Addr) (oe : Obj) (cls : Value) (d : Option Addr) (pn : List (Addr × Obj)), Zc cls d oe → (∃ vs, oe.data = .fields vs) → PSs (X.suite a ((a, oe) :: pn)) (b₀ :: suite) (ts a cls d)) :
    PS X (.Try body [.ExceptHandler (some (.Name x np)) (some n) (b₀ :: suite) pos'] [] [] pos) (tTry tb (wAs X.K c i ts Wout)) := ps_try_as hs hf hN hi hln hc tk hb hsu
end
section
variable {K : PySem.W.Frag}
theorem ss_tryO {c : Value} {tb : WX → TS} {ts : Addr → Value → Option Addr → TS} {Wout : WX} {b h : DS} (hb : ∀ W' : WX, SS K (wk W') (tb W') b) (hh : ∀ a cls d, SS K WF (ts a cls d) h) :
    SS K (wk Wout) (tTry tb (wOnly K c ts Wout)) (mTryOnly K c b h) := ss_tryOnly hb hh
theorem ss_tryA {c : Value} {C0 : Addr} {i : Nat} {cst f : Str} {tb : WX → TS} {Wout : WX} {b : DS} {tby : Addr → Value → Option Addr → TE → TE} (hb : ∀ W' : WX, SS K (wk W') (tb W') b)
    (htby : ∀ a cls d te, tby a cls d te = fun σ H Q => te σ H fun x H1 => x = .ref a ∧ cls = .ref C0 ∧ ∃ (dd : Addr) (v : V), d = some dd ∧ H1 dd = some (.xd [(f, v)]) ∧ Q v H1) :
    SS K (wk Wout) (tTry tb (wAs K c i (fun a cls d => tRet (tTup (tCons (tC (.str cst)) (tCons (tby a cls d (tVar i)) tNil)))) Wout)) (mTryAsF K c C0 i cst f b) := ss_tryAsF hb htby
theorem body_all {n : Nat} {N : List Str} {cx : Cx} {body : List Stmt} {t : TS} {b : DS} {vs : List V} {H : Hp} {Q : VK} {E : XK} (hp : PSs cx body t) (hb : SS K (wk fun cls d _ H => E cls d H) t b) (h : spM K n (mBody N.length b) vs H Q E) :
    ∃ t, PSs cx body t ∧ t { nx := fun _ H' => Q .non H', rt := Q } (L2.start N vs) H := ⟨t, hp, body_ok hb h⟩
end
end M3
namespace M3
open PySem PySem.Spec PyProof.Rows L2
/-! ### == by an own __eq__ -/
theorem op_eqX {X : Cx} {K : PySem.W.Frag} {C g : Addr} {n j : Nat} {fd : FuncData} {ps : List Str} {sp : Sp} (hK : X.K = K) (hs : PySem.W.findIn K (.ref C) "__eq__" = some (some (.ref g))) (hf : PySem.W.isFn K (.ref g) = true) (F : FnOk X.prog X.w X.K X.mg X.base (L2.CX X.prog X.w) n g fd ps sp) (hb : Binds X.K fd ps [])
    (hr : Room j X.A) (hj : n ≤ j) : OpR X (compareOp .Eq) (rEqI K C sp) := by
  subst hK
  intro pins s σ H x y v u Q I rx ry h
  obtain ⟨a, dx, fs, t, rfl, ea, ty, hn, q⟩ := h
  cases (show v = Value.ref a from rx)
  obtain ⟨mA, O, _⟩ := ins_get I.hok ea
  obtain ⟨od, J, _⟩ := O.look
  obtain ⟨P, Z, p, hx⟩ := kit_of I ry ty
  obtain ⟨m, hF⟩ := I.fr
  refine PySem.W.cmp_K (op := .Eq) (tb := t) hr.units0 hF I.ok.mod.kin J (Z.ty _ _ I.kIn p) hn hs hf ?_
  refine wpAny_mono (run_fn (us := [.ref a, u]) (vs := [.ref a, y]) F (hr.mono hj) hb .nil passF I (.cons rfl (.cons ry .nil)) q) (fun w s' z => ?_) fun _ _ x => x
  obtain ⟨z', H', I', rz, qz⟩ := z
  exact SlX.cmpback rz ⟨z', H', I', rz, qz⟩
/-- the classes whose == is known not to be asked first -/
def aEqX (K : PySem.W.Frag) (CS : List Addr) (C : Addr) (m : List D → Store → R D) : Store → D → D → Option D := fun S x y => match x with
  | .dat (.ins C' _) => if C' = C then (match tyD CS S y with
    | some t => if PySem.W.notFirst K C t = true then (match mPure m [x, y] S with
      | .ok (.dat (.bl b)) _ => some (dBl b)
      | _ => none) else none
    | none => none) else none
  | _ => none
theorem pure_same {f : List D → Store → R D} {ds : List D} {S S' : Store} {d : D} (h : mPure f ds S = .ok d S') : S' = S := by
  unfold mPure at h
  cases e : datAll ds with
  | none => rw [e] at h; cases h
  | some ps =>
    rw [e] at h
    simp only at h
    cases q : f ds [] with
    | fail => rw [q] at h; cases h
    | exc C x S1 => rw [q] at h; cases h
    | ok d1 S1 =>
      rw [q] at h
      cases d1 with
      | dat p => cases h; rfl
      | obj i =>
        simp only at h
        cases z : frz1 S1 i with
        | none => rw [z] at h; cases h
        | some p => rw [z] at h; cases h; rfl
theorem eqX_ok {K : PySem.W.Frag} {CS : List Addr} {C : Addr} {m : List D → Store → R D} (O : OwnCs K CS) : R2S K (rEqI K C (spM K 2 (mPure m))) (aEqX K CS C m) := by
  intro ι X S H x y v u d Q rel rx ry e k
  unfold aEqX at e
  split at e
  · rename_i C' l
    split at e
    · rename_i hC
      subst hC
      cases et : tyD CS S y with
      | none => rw [et] at e; cases e
      | some t =>
        rw [et] at e
        simp only at e
        split at e
        · rename_i hn
          split at e
          · rename_i b S' em
            cases e
            have hS := pure_same em
            subst hS
            have rx' : RepP K ι X H (.ins C' l) v := rx
            rw [RepP] at rx'
            obtain ⟨a, dx, xs, rfl, n1, n2, ea, _⟩ := rx'
            refine ⟨a, dx, xs, t, rfl, ea, tyD_rep O rel et ry, hn, rfl, ι, X, S', [.dat (.ins C' l), y], rel, ⟨_, _, rfl, rx, ⟨_, _, rfl, ry, rfl⟩⟩, ?_⟩
            rw [em]
            intro ι' H' w x1 rel1 rw1
            obtain ⟨t', rfl⟩ := x1.pre
            have hl : t' = [] := by
              have a1 := rel1.len
              have a2 := rel.len
              rw [List.length_append] at a1
              exact List.length_eq_zero_iff.mp (by omega)
            subst hl
            rw [List.append_nil] at x1 rel1 rw1
            exact k H' w x1 rel1 rw1
          · cases e
        · cases e
    · cases e
  · cases e
end M3
namespace M3
open PySem PySem.Spec PyProof.Rows L2
/-! ### zip of two walks of unlike kinds: a tuple and a list -/
/-- tells of these places alone -/
def Of (cs : List Addr) (P : Heap → Prop) : Prop := ∀ h h' : Heap, (∀ c ∈ cs, ∀ o, h.get? c = some o → h'.get? c = some o) → P h → P h'
/-- the walk at i, standing at P, gives x and stands at P' -/
def Giv (i : Addr) (P P' : Heap → Prop) (x : Value) : Prop := ∀ (prog : Program) (w : World) (A : Around) (E Q : Value → Shared → Prop) (s : Shared), P s.heap →
  (∀ h', P' h' → Heap.SameBut i s.heap h' → Q x { s with heap := h' }) → wpAny (model prog w) A (Builtin.SmallTypes.nextOf (.ref i)) Q E s
/-- the walk at i is at its end -/
def Fin' (i : Addr) (P : Heap → Prop) : Prop := ∀ (prog : Program) (w : World) (A : Around) (E Q : Value → Shared → Prop) (s : Shared), A.handled = none → P s.heap →
  (∀ h' e, Heap.ExtBut i s.heap h' → (∃ o, h'.get? e = some o ∧ o.cls = .type "StopIteration") → E (.ref e) { s with heap := h' }) → wpAny (model prog w) A (Builtin.SmallTypes.nextOf (.ref i)) Q E s
theorem Of.but {cs : List Addr} {P : Heap → Prop} {h h' : Heap} {i : Addr} (o : Of cs P) (x : Heap.ExtBut i h h') (n : i ∉ cs) (p : P h) : P h' := o h h' (fun c m u e => x c u (fun q => n (q ▸ m)) e) p
/-- where all this lies -/
structure Lie (z TI TO i j : Addr) (cs ds : List Addr) : Prop where
  zc : z ∉ cs
  tc : TO ∉ cs
  jc : j ∉ cs
  zd : z ∉ ds
  td : TO ∉ ds
  id' : i ∉ ds
  Iz : TI ≠ z
  Oz : TO ≠ z
  iz : i ≠ z
  jz : j ≠ z
  Oi : TO ≠ i
  Oj : TO ≠ j
section
variable {prog : Program} {w : World} {A : Around} {E : Value → Shared → Prop} {s : Shared} {z TI TO i j : Addr} {cs ds : List Addr} {P P' U U' : Heap → Prop} {x y a b : Value}
theorem gz_item {Q : Value → Shared → Prop} (L : Lie z TI TO i j cs ds) (oP : Of cs P) (oP' : Of cs P') (oU : Of ds U) (oU' : Of ds U') (gP : Giv i P P' x) (gU : Giv j U U' y)
    (hz : IsZip s.heap z TI TO .none) (hI : IsPair s.heap TI (.ref i) (.ref j)) (hO : IsPair s.heap TO a b) (p : P s.heap) (u : U s.heap)
    (k : ∀ h', IsZip h' z TI TO (rawInt s.heap.objs.size) → IsPair h' TO x y → P' h' → U' h' → IsPair h' s.heap.objs.size x y → h'.objs.size = s.heap.objs.size + 1 → (∀ c o, c ≠ z → c ≠ TO → c ≠ i → c ≠ j → s.heap.get? c = some o → h'.get? c = some o) → Q (.ref s.heap.objs.size) { s with heap := h' }) :
    wpAny (model prog w) A (Builtin.«zip.__next__» ⟨[.ref z], []⟩) (fun fin s' => ∃ v, fin = .done (.ret v) ∧ Q v s') E s := by
  show wpAny _ _ (field (.ref z) 2 >>= _) _ _ _; refine wpAny_bind (wpAny_field hz rfl (x := .bool false) rfl ?_)
  show wpAny _ _ (field (.ref z) 3 >>= _) _ _ _; refine wpAny_bind (wpAny_field hz rfl (x := .ref TI) rfl (wpAny_bind (wpAny_seqItems hI rfl ?_)))
  show wpAny _ _ (Builtin.SmallTypes.ownedTupleIsFree (.ref z) >>= _) _ _ _; refine wpAny_bind ?_
  unfold Builtin.SmallTypes.ownedTupleIsFree; refine wpAny_bind (wpAny_field hz rfl (x := .none) rfl (wpAny_pure ?_))
  simp only [if_true]; refine wpAny_bind (wpAny_rule (wpAny_bind (wpAny_field hz rfl (x := .ref TO) rfl (wpAny_bind (wpAny_setField_rec hz (by simp) fun a1 za t1 => wpAny_bind ?_)))))
  have za' : IsZip a1 z TI TO .ellipsis := za
  simp only [List.zipIdx_cons, List.zipIdx_nil, List.forIn_cons, List.forIn_nil]; refine wpAny_bind (wpAny_bind (wpAny_onRaise ?_))
  show wpAny _ _ (Builtin.SmallTypes.nextOf (.ref i) >>= _) _ _ _; refine wpAny_bind (gP _ _ _ _ _ _ (oP.but t1.extBut L.zc p) fun a2 p2 t2 => wpAny_pure ?_)
  have O2 : IsPair a2 TO a b := t2.extBut _ _ L.Oi (t1.extBut _ _ L.Oz hO)
  refine wpAny_bind (wpAny_seqItems O2 rfl (wpAny_bind (wpAny_updateSeq_pair O2 fun a3 O3 t3 => wpAny_bind (wpAny_letGo (wpAny_pure ?_)))))
  have O3' : IsPair a3 TO x b := O3
  refine wpAny_bind (wpAny_bind (wpAny_onRaise ?_))
  show wpAny _ _ (Builtin.SmallTypes.nextOf (.ref j) >>= _) _ _ _; refine wpAny_bind (gU _ _ _ _ _ _ (oU.but t3.extBut L.td (oU.but t2.extBut L.id' (oU.but t1.extBut L.zd u))) fun a4 u4 t4 => wpAny_pure ?_)
  have O4 : IsPair a4 TO x b := t4.extBut _ _ L.Oj O3'
  refine wpAny_bind (wpAny_seqItems O4 rfl (wpAny_bind (wpAny_updateSeq_pair O4 fun a5 O5 t5 => wpAny_bind (wpAny_letGo (wpAny_pure (wpAny_pure ?_))))))
  have O5' : IsPair a5 TO x y := O5
  refine wpAny_bind (wpAny_seqItems O5' rfl (wpAny_bind (wpAny_newTuple ?_)))
  have sz : a5.objs.size = s.heap.objs.size := by rw [t5.1, t4.1, t3.1, t2.1, t1.1]
  have z5 : IsZip a5 z TI TO .ellipsis := t5.extBut _ _ (Ne.symm L.Oz) (t4.extBut _ _ (Ne.symm L.jz) (t3.extBut _ _ (Ne.symm L.Oz) (t2.extBut _ _ (Ne.symm L.iz) za')))
  have ke : ∀ c o, c ≠ z → c ≠ TO → c ≠ i → c ≠ j → s.heap.get? c = some o → a5.get? c = some o := fun c o q1 q2 q3 q4 e => t5.extBut _ _ q2 (t4.extBut _ _ q4 (t3.extBut _ _ q2 (t2.extBut _ _ q3 (t1.extBut _ _ q1 e))))
  have p5 : P' a5 := oP'.but t5.extBut L.tc (oP'.but t4.extBut L.jc (oP'.but t3.extBut L.tc p2))
  have u5 : U' a5 := oU'.but t5.extBut L.td u4
  have zl : z < a5.objs.size := Heap.lt_size z5
  show wpAny _ _ (Builtin.SmallTypes.ownedTupleHandOut (.ref z) (.ref a5.objs.size) >>= _) _ _ _; refine wpAny_bind ?_
  unfold Builtin.SmallTypes.ownedTupleHandOut
  have z6 : IsZip (a5.push { cls := .type "tuple", data := .seq #[x, y] }) z TI TO .ellipsis := Heap.get?_push_of_some _ z5
  refine wpAny_bind (wpAny_setField_rec z6 (by simp) fun a7 z7 t7 => ?_)
  have z7' : IsZip a7 z TI TO (rawInt a5.objs.size) := z7
  refine wpAny_setField_rec z7' (by simp) fun a8 z8 t8 => ?_
  have z8' : IsZip a8 z TI TO (rawInt a5.objs.size) := z8
  have up : ∀ c o, c ≠ z → a5.get? c = some o → a8.get? c = some o := fun c o q e => t8.extBut _ _ q (t7.extBut _ _ q (Heap.get?_push_of_some _ e))
  have T8 : IsPair a8 a5.objs.size x y := t8.extBut _ _ (Nat.ne_of_gt zl) (t7.extBut _ _ (Nat.ne_of_gt zl) (Heap.get?_push_size _ rfl))
  have s8 : a8.objs.size = a5.objs.size + 1 := by rw [t8.1, t7.1, Heap.size_push]
  have p8 : P' a8 := oP' _ _ (fun c m o e => up c o (fun q => L.zc (q ▸ m)) e) p5
  have u8 : U' a8 := oU' _ _ (fun c m o e => up c o (fun q => L.zd (q ▸ m)) e) u5
  rw [sz] at z8' T8 s8; refine wpAny_pure ⟨_, rfl, ?_⟩
  show Q (.ref a5.objs.size) _; rw [sz]
  exact k a8 z8' (up _ _ L.Oz O5') p8 u8 T8 s8 fun c o q1 q2 q3 q4 e => up c o q1 (ke c o q1 q2 q3 q4 e)
theorem gz_end {Q : Fin → Shared → Prop} (hh : A.handled = none) (L : Lie z TI TO i j cs ds) (oP : Of cs P) (oU : Of ds U) (hend : Fin' i P ∨ (∃ P' x, Giv i P P' x) ∧ Fin' j U)
    (hz : IsZip s.heap z TI TO .none) (hI : IsPair s.heap TI (.ref i) (.ref j)) (hO : IsPair s.heap TO a b) (p : P s.heap) (u : U s.heap)
    (k : ∀ h' e, (∀ c o, c ≠ z → c ≠ TO → c ≠ i → c ≠ j → s.heap.get? c = some o → h'.get? c = some o) → (∃ o, h'.get? e = some o ∧ o.cls = .type "StopIteration") → E (.ref e) { s with heap := h' }) :
    wpAny (model prog w) A (Builtin.«zip.__next__» ⟨[.ref z], []⟩) Q E s := by
  show wpAny _ _ (field (.ref z) 2 >>= _) _ _ _; refine wpAny_bind (wpAny_field hz rfl (x := .bool false) rfl ?_)
  show wpAny _ _ (field (.ref z) 3 >>= _) _ _ _; refine wpAny_bind (wpAny_field hz rfl (x := .ref TI) rfl (wpAny_bind (wpAny_seqItems hI rfl ?_)))
  show wpAny _ _ (Builtin.SmallTypes.ownedTupleIsFree (.ref z) >>= _) _ _ _; refine wpAny_bind ?_
  unfold Builtin.SmallTypes.ownedTupleIsFree; refine wpAny_bind (wpAny_field hz rfl (x := .none) rfl (wpAny_pure ?_))
  simp only [if_true]; refine wpAny_bind (wpAny_rule (wpAny_bind (wpAny_field hz rfl (x := .ref TO) rfl (wpAny_bind (wpAny_setField_rec hz (by simp) fun a1 za t1 => wpAny_bind ?_)))))
  have za' : IsZip a1 z TI TO .ellipsis := za
  simp only [List.zipIdx_cons, List.zipIdx_nil, List.forIn_cons, List.forIn_nil]; refine wpAny_bind (wpAny_bind (wpAny_onRaise ?_))
  show wpAny _ _ (Builtin.SmallTypes.nextOf (.ref i) >>= _) _ _ _
  rcases hend with f | ⟨⟨P', x, gP⟩, f⟩
  · refine wpAny_bind (f _ _ _ _ _ _ hh (oP.but t1.extBut L.zc p) fun a2 e t2 ⟨oe, he, ce⟩ => ?_)
    have z2 : IsZip a2 z TI TO .ellipsis := t2 _ _ (Ne.symm L.iz) za'
    have ez : e ≠ z := fun q => by subst q; rw [z2] at he; cases he; simp at ce
    refine wpAny_setField_rec z2 (by simp) fun a3 _ t3 => k a3 e (fun c o q1 _ q3 _ h => t3.extBut _ _ q1 (t2 _ _ q3 (t1.extBut _ _ q1 h))) ⟨oe, t3.extBut _ _ ez he, ce⟩
  · refine wpAny_bind (gP _ _ _ _ _ _ (oP.but t1.extBut L.zc p) fun a2 p2 t2 => wpAny_pure ?_)
    have O2 : IsPair a2 TO a b := t2.extBut _ _ L.Oi (t1.extBut _ _ L.Oz hO)
    refine wpAny_bind (wpAny_seqItems O2 rfl (wpAny_bind (wpAny_updateSeq_pair O2 fun a3 O3 t3 => wpAny_bind (wpAny_letGo (wpAny_pure ?_)))))
    refine wpAny_bind (wpAny_bind (wpAny_onRaise ?_))
    show wpAny _ _ (Builtin.SmallTypes.nextOf (.ref j) >>= _) _ _ _; refine wpAny_bind (f _ _ _ _ _ _ hh (oU.but t3.extBut L.td (oU.but t2.extBut L.id' (oU.but t1.extBut L.zd u))) fun a4 e t4 ⟨oe, he, ce⟩ => ?_)
    have z4 : IsZip a4 z TI TO .ellipsis := t4 _ _ (Ne.symm L.jz) (t3.extBut _ _ (Ne.symm L.Oz) (t2.extBut _ _ (Ne.symm L.iz) za'))
    have ez : e ≠ z := fun q => by subst q; rw [z4] at he; cases he; simp at ce
    refine wpAny_setField_rec z4 (by simp) fun a5 _ t5 => k a5 e (fun c o q1 q2 q3 q4 h => t5.extBut _ _ q1 (t4 _ _ q4 (t3.extBut _ _ q2 (t2.extBut _ _ q3 (t1.extBut _ _ q1 h))))) ⟨oe, t5.extBut _ _ ez he, ce⟩
theorem gz_next {Q : Option Value → Shared → Prop} (L : Lie z TI TO i j cs ds) (oP : Of cs P) (oP' : Of cs P') (oU : Of ds U) (oU' : Of ds U') (gP : Giv i P P' x) (gU : Giv j U U' y)
    (hz : IsZip s.heap z TI TO .none) (hI : IsPair s.heap TI (.ref i) (.ref j)) (hO : IsPair s.heap TO a b) (p : P s.heap) (u : U s.heap)
    (k : ∀ h', IsZip h' z TI TO (rawInt s.heap.objs.size) → IsPair h' TO x y → P' h' → U' h' → IsPair h' s.heap.objs.size x y → h'.objs.size = s.heap.objs.size + 1 → (∀ c o, c ≠ z → c ≠ TO → c ≠ i → c ≠ j → s.heap.get? c = some o → h'.get? c = some o) → Q (some (.ref s.heap.objs.size)) { s with heap := h' }) :
    wpAny (model prog w) A (pyNext (.ref z)) Q E s := by
  have ty : s.TypeIs (.ref z) "zip" := ⟨_, hz, rfl⟩
  unfold pyNext
  exact wpAny_bind (wpAny_attempt (wpAny_callSpecial?_slot (name := Str.ofString "__next__") ty F.slot_zip_next (wpAny_call_entry F.slot_zip_next ty F.entry_zip_next
    (gz_item L oP oP' oU oU' gP gU hz hI hO p u fun h' q1 q2 q3 q4 q5 q6 q7 => wpAny_pure (k h' q1 q2 q3 q4 q5 q6 q7)) (F.args_zip_next_1 _))))
theorem gz_stop {Q : Option Value → Shared → Prop} (hh : A.handled = none) (L : Lie z TI TO i j cs ds) (oP : Of cs P) (oU : Of ds U) (hend : Fin' i P ∨ (∃ P' x, Giv i P P' x) ∧ Fin' j U)
    (hz : IsZip s.heap z TI TO .none) (hI : IsPair s.heap TI (.ref i) (.ref j)) (hO : IsPair s.heap TO a b) (p : P s.heap) (u : U s.heap)
    (k : ∀ h', (∀ c o, c ≠ z → c ≠ TO → c ≠ i → c ≠ j → s.heap.get? c = some o → h'.get? c = some o) → Q none { s with heap := h' }) : wpAny (model prog w) A (pyNext (.ref z)) Q E s := by
  have ty : s.TypeIs (.ref z) "zip" := ⟨_, hz, rfl⟩
  unfold pyNext
  refine wpAny_bind (wpAny_attempt (wpAny_callSpecial?_slot (name := Str.ofString "__next__") ty F.slot_zip_next (wpAny_call_entry F.slot_zip_next ty F.entry_zip_next
    (gz_end hh L oP oU hend hz hI hO p u fun h' e q ⟨o, ho, hc⟩ => ?_) (F.args_zip_next_1 _))))
  exact wpAny_bind (wpAny_isInstance (T := "StopIteration") (b := true) ⟨o, ho, hc⟩ isSubtype_stop (wpAny_pure (k _ q)))
end
/-! ### a tuple's walk, a list's walk -/
def AtT (i l : Addr) (its : Array Value) (k : Nat) (h : Heap) : Prop := h.IsTupleIter i l k ∧ h.IsTuple l its
def AtL (i l : Addr) (its : Array Value) (k : Nat) (h : Heap) : Prop := h.IsListIter i l k ∧ h.IsList l its
theorem of_atT {i l : Addr} {its : Array Value} {k : Nat} : Of [i, l] (AtT i l its k) := fun h h' q ⟨a, ol, e, c⟩ => ⟨a.at fun o e => q i (by simp) o e, ol, q l (by simp) ol e, c⟩
theorem of_atL {i l : Addr} {its : Array Value} {k : Nat} : Of [i, l] (AtL i l its k) := fun h h' q ⟨a, ol, e, c⟩ => ⟨a.at fun o e => q i (by simp) o e, ol, q l (by simp) ol e, c⟩
theorem giv_T {i l : Addr} {its : Array Value} {k : Nat} {x : Value} (n : l ≠ i) (hx : its[k]? = some x) : Giv i (AtT i l its k) (AtT i l its (k + 1)) x := fun prog w A E Q s p q =>
  RZ.nextOf_tuple_item p.1 p.2 hx fun h' p1 t => q h' ⟨p1, p.2.extBut t.extBut n⟩ t
theorem giv_L {i l : Addr} {its : Array Value} {k : Nat} {x : Value} (n : l ≠ i) (hx : its[k]? = some x) : Giv i (AtL i l its k) (AtL i l its (k + 1)) x := fun prog w A E Q s p q =>
  wpAny_nextOf_list_item p.1 p.2 hx fun h' p1 t => q h' ⟨p1, p.2.extBut t.extBut n⟩ t
theorem fin_T {i l : Addr} {its : Array Value} {k : Nat} (hx : its[k]? = none) : Fin' i (AtT i l its k) := fun prog w A E Q s hh p q => RZ.nextOf_tuple_end hh p.1 p.2 hx q
theorem fin_L {i l : Addr} {its : Array Value} {k : Nat} (hx : its[k]? = none) : Fin' i (AtL i l its k) := fun prog w A E Q s hh p q => wpAny_nextOf_list_end hh p.1 p.2 hx q
/-- a tuple at a, a list at b, side by side, items in new pairs -/
def ItzM (K : PySem.W.Frag) (a b : Addr) : It :=
  ⟨fun i H => ∃ (xs ys : List V) (x y : V), SqT K H a xs ∧ SqL K H b ys ∧ xs[i]? = some x ∧ ys[i]? = some y,
    fun i H v H' => ∃ T x y, v = .ref T ∧ H T = none ∧ H' = upd H T (.tup [x, y]) ∧ (∀ xs, SqT K H a xs → xs[i]? = some x) ∧ ∀ ys, SqL K H b ys → ys[i]? = some y,
    fun i H => ∃ xs ys : List V, SqT K H a xs ∧ SqL K H b ys ∧ (xs.length ≤ i ∨ ys.length ≤ i)⟩
theorem mem5 {c z TI TO i1 i2 : Addr} (h : c ∈ [z, TI, TO, i1, i2]) : c = z ∨ c = TI ∨ c = TO ∨ c = i1 ∨ c = i2 := by simpa using h
theorem lie_of {z TI TO i1 i2 a b : Addr} (D : ZipApart z TI TO i1 i2 a b) : Lie z TI TO i1 i2 [i1, a] [i2, b] where
  zc := by simp; exact ⟨Ne.symm D.i1z, Ne.symm D.l1z⟩
  tc := by simp; exact ⟨D.TOi1, Ne.symm D.l1TO⟩
  jc := by simp; exact ⟨Ne.symm D.i12, Ne.symm D.l1i2⟩
  zd := by simp; exact ⟨Ne.symm D.i2z, Ne.symm D.l2z⟩
  td := by simp; exact ⟨D.TOi2, Ne.symm D.l2TO⟩
  id' := by simp; exact ⟨D.i12, Ne.symm D.l2i1⟩
  Iz := D.TIz
  Oz := D.TOz
  iz := D.i1z
  jz := D.i2z
  Oi := D.TOi1
  Oj := D.TOi2
theorem turn_zipM {P : Program} {w : World} {K : PySem.W.Frag} {elts : List Expr} {kk : Nat} {tpos : Pos} {a b z TI TO i1 i2 : Addr} (D : ZipApart z TI TO i1 i2 a b) :
    Turn P w K (.Tuple elts kk tpos) (ItzM K a b) [z, TI, TO, i1, i2] z (fun i h => IsZip h z TI TO .none ∧ IsPair h TI (.ref i1) (.ref i2) ∧ (∃ x y, IsPair h TO x y) ∧ h.IsTupleIter i1 a i ∧ h.IsListIter i2 b i) where
  mem := by simp
  obj := fun i h ⟨hz, hI, ⟨x, y, hO⟩, ⟨o1, e1, _, d1⟩, ⟨o2, e2, _, d2⟩⟩ c hc => by
    rcases mem5 hc with q | q | q | q | q <;> subst q
    · exact ⟨_, hz, fun v q => nomatch q⟩
    · exact ⟨_, hI, fun v q => nomatch q⟩
    · exact ⟨_, hO, fun v q => nomatch q⟩
    · exact ⟨o1, e1, fun v q => by rw [d1] at q; cases q⟩
    · exact ⟨o2, e2, fun v q => by rw [d2] at q; cases q⟩
  keep := fun i h h' ⟨hz, hI, ⟨x, y, hO⟩, w1, w2⟩ k => ⟨k z (by simp) _ hz, k TI (by simp) _ hI, ⟨x, y, k TO (by simp) _ hO⟩, w1.at fun o q => k i1 (by simp) o q, w2.at fun o q => k i2 (by simp) o q⟩
  item := by
    intro X hP hw hK hc i pins s σ H E I hf st hg
    subst hP hw hK
    obtain ⟨hz, hI, ⟨x0, y0, hO⟩, w1, w2⟩ := st
    obtain ⟨xs, ys, x, y, hqx, hqy, hx, hy⟩ := hg
    obtain ⟨its, rv, p, _⟩ := I.tuple hqx
    obtain ⟨jts, rv', p', _⟩ := I.list hqy
    obtain ⟨u, hu, ru⟩ := rv.get hx
    obtain ⟨v, hv, rv2⟩ := rv'.get hy
    have zl : z < s.heap.objs.size := Heap.lt_size hz
    refine gz_next (lie_of D) of_atT of_atT of_atL of_atL (giv_T D.l1i1 (its := its.toArray) (k := i) (x := u) (by simpa using hu)) (giv_L D.l2i2 (its := jts.toArray) (k := i) (x := v) (by simpa using hv)) hz hI hO ⟨w1, p⟩ ⟨w2, p'.isList⟩ fun h' z' O' q1 q2 hT hsz hk => ?_
    refine ⟨_, rfl, wpAny_letOwnedTupleGo_zip (s := { s with heap := h' }) z' fun h2 z2 sb => ?_⟩
    have T2 : h2.get? s.heap.objs.size = some { cls := .type "tuple", data := .seq #[u, v] } := (sb.2 _ (Nat.ne_of_gt zl)).trans hT
    have new : ObjOk X.prog X.w (upd H s.heap.objs.size (.tup [x, y])) h2 s.heap.objs.size (.tup [x, y]) := ⟨by show 2 ≤ sizeLine; decide, [u, v], .cons ru (.cons rv2 .nil), ⟨_, T2, rfl, _, rfl⟩⟩
    have I1 : Inv X pins σ (upd H s.heap.objs.size (.tup [x, y])) { s with heap := h2 } := I.turnedNew (t' := s.toks) (ch := [z, TI, TO, i1, i2]) (fun c o hb q => by
      simp only [List.mem_cons, List.mem_nil_iff, or_false, not_or] at hb
      exact (sb.2 c hb.1).trans (hk c o hb.1 hb.2.2.1 hb.2.2.2.1 hb.2.2.2.2 q)) hf (Nat.le_refl _) new
    refine ⟨.ref s.heap.objs.size, _, I1, rfl, ⟨_, x, y, rfl, I.hok.fresh (Nat.le_refl _), rfl, fun l hl => by rw [I.tuple_inj hl hqx]; exact hx, fun l hl => by rw [I.list_inj hl hqy]; exact hy⟩, ⟨z2, ?_, ⟨u, v, ?_⟩, ?_, ?_⟩, fun c hcm => ?_⟩
    · exact (sb.2 _ D.TIz).trans (hk _ _ D.TIz D.TITO D.TIi1 D.TIi2 hI)
    · exact (sb.2 _ D.TOz).trans O'
    · exact q1.1.at fun o q => (sb.2 _ D.i1z).trans q
    · exact q2.1.at fun o q => (sb.2 _ D.i2z).trans q
    · have lt : c < s.heap.objs.size := by
        rcases mem5 hcm with q | q | q | q | q <;> subst q
        · exact zl
        · exact Heap.lt_size hI
        · exact Heap.lt_size hO
        · obtain ⟨_, e, _⟩ := w1; exact Heap.lt_size e
        · obtain ⟨_, e, _⟩ := w2; exact Heap.lt_size e
      rw [upd_ne (Nat.ne_of_lt lt)]; exact (hf c hcm).1
  done := by
    intro X hP hw hK hc i pins s σ H E I hf st hg
    subst hP hw hK
    obtain ⟨hz, hI, ⟨x0, y0, hO⟩, w1, w2⟩ := st
    obtain ⟨xs, ys, hqx, hqy, he⟩ := hg
    obtain ⟨its, rv, p, _⟩ := I.tuple hqx
    obtain ⟨jts, rv', p', _⟩ := I.list hqy
    have l1 := rv.length
    have l2 := rv'.length
    have hend : Fin' i1 (AtT i1 a its.toArray i) ∨ (∃ P' x, Giv i1 (AtT i1 a its.toArray i) P' x) ∧ Fin' i2 (AtL i2 b jts.toArray i) := by
      cases e : its.toArray[i]? with
      | none => exact .inl (fin_T e)
      | some u =>
        have hl : i < its.length := by have := (Array.getElem?_eq_some_iff.mp e).1; simpa using this
        exact .inr ⟨⟨_, _, giv_T D.l1i1 e⟩, fin_L (by simp; omega)⟩
    exact gz_stop (I.ok.hd hc) (lie_of D) of_atT of_atL hend hz hI hO ⟨w1, p⟩ ⟨w2, p'.isList⟩ fun h' hk => ⟨rfl, I.turnedL (t' := s.toks) (ch := [z, TI, TO, i1, i2]) (fun c o hb q => by
      simp only [List.mem_cons, List.mem_nil_iff, or_false, not_or] at hb
      exact hk c o hb.1 hb.2.2.1 hb.2.2.2.1 hb.2.2.2.2 q) hf⟩
  self := fun A i s Q E st h => wpAny_pyIter_zip st.1 h
/-! ### the zip that is made -/
abbrev zm1 (h : Heap) (a : Addr) : Heap := h.push { cls := .type "tuple_iterator", data := .fields #[.ref a, .int 0 0] }
abbrev zm2 (h : Heap) (a b : Addr) : Heap := (zm1 h a).push { cls := .type "list_iterator", data := .fields #[.ref b, .int 0 0] }
abbrev zm3 (h : Heap) (a b : Addr) : Heap := (zm2 h a b).push { cls := .type "tuple", data := .seq #[.ref h.objs.size, .ref (zm1 h a).objs.size] }
abbrev zm4 (h : Heap) (a b : Addr) : Heap := (zm3 h a b).push { cls := .type "tuple", data := .seq #[.none, .none] }
abbrev zm5 (h : Heap) (a b : Addr) : Heap := (zm4 h a b).push { cls := .type "zip", data := .fields #[.none, .bool false, .bool false, .ref (zm2 h a b).objs.size, .ref (zm3 h a b).objs.size] }
theorem meets_zipM (l1 l2 : Addr) (xs ys : Array Value) : Meets (Builtin.«zip.__new__» ⟨[.type "zip", .ref l1, .ref l2], []⟩) (fun _ R s => s.heap.IsTuple l1 xs ∧ s.heap.IsList l2 ys ∧ R (.ok (.ret (.ref (zm4 s.heap l1 l2).objs.size))) { s with heap := zm5 s.heap l1 l2 }) :=
  .of_wp fun prog w A R s h => by
    obtain ⟨hp, g, d, tk, os⟩ := s; obtain ⟨q1, q2, h⟩ := h
    have sub := sub_zip
    have t1 : Heap.IsTuple (Shared.heap ⟨hp, g, d, tk, os⟩) l1 xs := q1
    have t2 : Heap.IsList (Shared.heap ⟨hp.push { cls := .type "tuple_iterator", data := .fields #[.ref l1, .int 0 0] }, g, d, tk, os⟩) l2 ys := Heap.IsList.push q2 _
    wp_walk using wpAny_pyIter_tuple t1, wpAny_pyIter_list t2
    exact ⟨_, rfl, h⟩
theorem call_zipM {prog : Program} {w : World} {A : Around} {E : Value → Shared → Prop} {s : Shared} {l1 l2 : Addr} {xs ys : Array Value} {Q : Value → Shared → Prop} (q1 : s.heap.IsTuple l1 xs) (q2 : s.heap.IsList l2 ys)
    (h : ∀ h', IsZip h' (s.heap.objs.size + 4) (s.heap.objs.size + 2) (s.heap.objs.size + 3) .none → IsPair h' (s.heap.objs.size + 2) (.ref s.heap.objs.size) (.ref (s.heap.objs.size + 1)) → IsPair h' (s.heap.objs.size + 3) .none .none →
      h'.IsTupleIter s.heap.objs.size l1 0 → h'.IsListIter (s.heap.objs.size + 1) l2 0 → (∀ c o, s.heap.get? c = some o → h'.get? c = some o) → Q (.ref (s.heap.objs.size + 4)) { s with heap := h' }) :
    wpAny (model prog w) A (call (.type "zip") [.ref l1, .ref l2]) Q E s := by
  refine callType_new F.called_zip (by decide) (F.typeCall_zip_2 _ _) (F.newCall_zip_2 _ _) (fun obj => F.args_object_init_3 obj _ _) F.entry_zip_new (meets_zipM l1 l2 xs ys) ⟨q1, q2, ?_⟩
  have n1 : (zm1 s.heap l1).objs.size = s.heap.objs.size + 1 := Heap.size_push ..
  have n2 : (zm2 s.heap l1 l2).objs.size = s.heap.objs.size + 2 := by rw [Heap.size_push, n1]
  have n3 : (zm3 s.heap l1 l2).objs.size = s.heap.objs.size + 3 := by rw [Heap.size_push, n2]
  have n4 : (zm4 s.heap l1 l2).objs.size = s.heap.objs.size + 4 := by rw [Heap.size_push, n3]
  have u1 : ∀ {h : Heap} {x : Obj} {c : Addr} {o : Obj}, h.get? c = some o → (h.push x).get? c = some o := fun e => Heap.get?_push_of_some _ e
  have e5 : (zm5 s.heap l1 l2).get? (zm4 s.heap l1 l2).objs.size = some _ := Heap.get?_push_size _ rfl
  have e4 : (zm5 s.heap l1 l2).get? (zm3 s.heap l1 l2).objs.size = some _ := u1 (Heap.get?_push_size _ rfl)
  have e3 : (zm5 s.heap l1 l2).get? (zm2 s.heap l1 l2).objs.size = some _ := u1 (u1 (Heap.get?_push_size _ rfl))
  have e2 : (zm5 s.heap l1 l2).get? (zm1 s.heap l1).objs.size = some _ := u1 (u1 (u1 (Heap.get?_push_size _ rfl)))
  have e1 : (zm5 s.heap l1 l2).get? s.heap.objs.size = some _ := u1 (u1 (u1 (u1 (Heap.get?_push_size _ rfl))))
  show _ ∧ _
  rw [n2, n3, n4] at e5; rw [n1, n2] at e3; rw [n3] at e4; rw [n1] at e2; rw [n4]
  exact ⟨⟨_, e5, rfl⟩, h _ e5 e3 e4 ⟨_, e1, rfl, rfl⟩ ⟨_, e2, rfl, rfl⟩ fun c o e => u1 (u1 (u1 (u1 (u1 e))))⟩
/-- zip(tuple, list) -/
def iZipM (K : PySem.W.Frag) (ta : TA) : TI := fun σ H R => ta σ H fun vs H1 => ∃ a b xs ys, vs = [.ref a, .ref b] ∧ SqT K H1 a xs ∧ SqL K H1 b ys ∧ R (ItzM K a b) H1
theorem pi_zipM {X : Cx} {K : PySem.W.Frag} (hK : X.K = K) {e e2 : Expr} {ta : TA} {p pos tpos : Pos} {elts : List Expr} {kk : Nat} (hg : Gl X "zip") (hm : X.mg "zip" = none) (ha : PA X [e, e2] ta)
    (hs : starEach [e, e2] X.env = (false, eval e X.env) :: starEach [e2] X.env := by rfl) (hpl : (backTo pos (starEach [e2] X.env)).any (·.1) = false := by rfl) :
    PI X (.Tuple elts kk tpos) (.Call (.Name "zip" p) [e, e2] [] pos) (iZipM K ta) := by
  subst hK
  refine ⟨fun pins s σ H R I h => ?_⟩
  refine Call_ (ld_blt I hg hm PyProof.Rows.boot_zip (PyProof.Rows.callWith_type1 (thn (ha.run pos pins s σ H _ I h) fun us s1 ⟨vs, H1, I1, r1, a, b, xs, ys, ex, qx, qy, q⟩ => ?_) hs hpl))
  subst ex
  obtain _ | ⟨ra, _ | ⟨rb, _ | _⟩⟩ := r1
  cases ra
  cases rb
  have fresh5 : ∀ c, c ∈ [s1.heap.objs.size + 4, s1.heap.objs.size + 2, s1.heap.objs.size + 3, s1.heap.objs.size, s1.heap.objs.size + 1] → FpOk X pins H1 c := fun c hcm => by
    have le : s1.heap.objs.size ≤ c := by
      rcases mem5 hcm with q | q | q | q | q <;> (rw [q]; first | exact Nat.le_refl _ | exact Nat.le_add_right _ _)
    exact I1.fpOk le (I1.hok.fresh le)
  obtain ⟨its, rv, p1, _⟩ := I1.tuple qx
  obtain ⟨jts, rv', p2, _⟩ := I1.list qy
  obtain ⟨o1, ho1, _⟩ := id p1
  refine call_zipM (show s1.heap.IsTuple a its.toArray from p1) p2.isList fun h' hz hI hO w1 w2 hk => wpAny_pyIter_zip hz ?_
  have I2 : Inv X pins σ H1 { s1 with heap := h' } := I1.kept (t' := s1.toks) hk
  exact ⟨s1.heap.objs.size + 4, [s1.heap.objs.size + 4, s1.heap.objs.size + 2, s1.heap.objs.size + 3, s1.heap.objs.size, s1.heap.objs.size + 1], _, _, H1, rfl, I2, turn_zipM (PySem.W.ktu_apart s1.heap.objs.size a b (Heap.lt_size ho1) p2.lt), ⟨hz, hI, ⟨_, _, hO⟩, w1, w2⟩, fresh5, q⟩
def mZipM (a : DA) : DI := fun δ S => (a δ S).bind fun ds S1 => match ds with
  | [.dat (.tup l), .dat (.lst k)] => .ok (.items ((l.zip k).map fun z => .dat (.tup [z.1, z.2]))) S1
  | _ => .fail
theorem si_zipM {K : PySem.W.Frag} {W : L2.St → WK} {ta : TA} {a : DA} (ha : SA K W ta a) : SI K W (iZipM K ta) (mZipM a) := by
  intro ι X S H σ δ Q rel re h
  refine ha ι X S H σ δ _ rel re ?_
  unfold mZipM at h
  cases e : a δ S with
  | fail => rw [e] at h; exact h
  | exc C x S1 => rw [e] at h; exact h
  | ok ds S1 =>
    rw [e, R.bind_ok] at h
    intro ι1 H1 vs x1 rel1 rv
    split at h
    · rename_i d1 l k
      obtain ⟨y, ys, rfl, r1, z, zs, rfl, r2, r3⟩ := rv
      rw [show zs = [] from r3]
      obtain ⟨a1, xs, rfl, g1, f1⟩ := frzOf_rep (b := false) (l := l) rfl r1
      obtain ⟨a2, ys, rfl, g2, f2⟩ := frzOf_rep (b := true) (l := k) rfl r2
      rw [if_neg Bool.false_ne_true] at f1
      rw [if_pos rfl] at f2
      refine ⟨a1, a2, xs, ys, rfl, f1 _ _ _ Out1.refl, f2 _ _ _ Out1.refl, h ι1 H1 _ x1 rel1 (itOk_pair fun ι' X' H' x => ?_)⟩
      have lz : (l.zip k).length = min l.length k.length := List.length_zip
      have s1 := f1 _ _ _ x
      have s2 := f2 _ _ _ x
      have l1 := repPs_len g1
      have l2 := repPs_len g2
      refine ⟨fun i hi => ⟨xs, ys, xs[i]'(by omega), ys[i]'(by omega), s1, s2, List.getElem?_eq_getElem _, List.getElem?_eq_getElem _⟩, ⟨xs, ys, s1, s2, by omega⟩, fun i v H'' y => ?_⟩
      obtain ⟨T, x', y', ev, hT, eh, hx, hy⟩ := y
      exact ⟨T, x', y', ev, hT, eh, fun p ep => repPs_nth (RepPs.out x.p g1) ep (hx xs s1), fun q eq => repPs_nth (RepPs.out x.p g2) eq (hy ys s2)⟩
    · exact h.elim
end M3
namespace M3
open PySem PySem.Spec PyProof.Rows L2
/-! ### enumerate over a list that may change; its length does not -/
def mForEO (g : DG) (b : DS) (o n : Nat) : Nat → Nat → DS
  | 0, _ => fun δ S => match S[o]? with
    | some (.lst l) => if l.length = n then .ok (.nx δ) S else .fail
    | _ => .fail
  | k + 1, i => fun δ S => match S[o]? with
    | some (.lst l) => if l.length = n then (match l[i]? with
      | some (.dat p) => mTurn ((g (.dat (.tup [.int (i : Nat), p])) δ S).st δ b) (mForEO g b o n k (i + 1))
      | _ => .fail) else .fail
    | _ => .fail
def mForE (a : DA) (g : DG) (b : DS) : DS := fun δ S => match a δ S with
  | .ok [.obj o] S1 => match S1[o]? with
    | some (.lst l) => mForEO g b o l.length l.length 0 δ S1
    | _ => .fail
  | _ => mFor (mEnum a) g b δ S
section
variable {K : PySem.W.Frag} {W : L2.St → WK}
theorem ss_forE {ta : TA} {g : TG} {tb : TS} {a : DA} {m : DG} {b : DS} (ha : SA K W ta a) (hg : SG K W g m) (hb : SS K W tb b) : SS K W (tFor (W2.iEnumA K ta) g tb) (mForE a m b) := by
  intro ι X S H σ δ E rel re h
  have old : mForE a m b δ S = mFor (mEnum a) m b δ S → tFor (W2.iEnumA K ta) g tb E σ H := fun e => by
    rw [e] at h
    exact ss_for (si_enum ha) hg hb ι X S H σ δ E rel re h
  cases e : a δ S with
  | fail => exact old (by unfold mForE; rw [e])
  | exc C x S1 => exact old (by unfold mForE; rw [e])
  | ok ds S1 =>
    match ds, e with
    | [], e => exact old (by unfold mForE; rw [e])
    | .dat p :: ds, e => exact old (by unfold mForE; rw [e])
    | .obj o :: d :: ds, e => exact old (by unfold mForE; rw [e])
    | [.obj o], e =>
      refine ha ι X S H σ δ _ rel re ?_
      unfold mForE at h
      rw [e] at h
      rw [e]
      intro ι1 H1 vs x1 rel1 rv
      obtain ⟨y, ys, rfl, r1, r2⟩ := rv
      rw [show ys = [] from r2]
      obtain ⟨ad, ea, rfl⟩ : ∃ ad, ι1[o]? = some ad ∧ y = .ref ad := r1
      simp only at h
      cases es : S1[o]? with
      | none => rw [es] at h; exact h.elim
      | some ob =>
        cases ob with
        | ins C fs => simp only [es] at h; exact h.elim
        | dic fs => simp only [es] at h; exact h.elim
        | lst l =>
          simp only [es] at h
          obtain ⟨xs1, ex1, rx1⟩ := obj_now rel1 ea es
          refine ⟨ad, xs1, rfl, .inl ⟨SqL.of ex1, ?_⟩⟩
          refine ⟨fun i n σ' H' => ∃ ι2 δ2 S2, i + n = l.length ∧ Ext ι1 H1 ι2 H' ∧ Rel K ι2 X S2 H' ∧ RepE K ι2 X H' δ2 σ' ∧ PostS K W X ι2 H' (mForEO m b o l.length n i δ2 S2) E,
            ⟨l.length, ι1, δ, S1, by omega, Ext.refl, rel1, re.ext x1, PostS.ext x1 h⟩, ?_⟩
          rintro i n σ2 H2 ⟨ι2, δ2, S2, hi, x2, rel2, re2, h2⟩
          have ea2 := x2.at ea
          cases n with
          | zero =>
            unfold mForEO at h2
            cases es2 : S2[o]? with
            | none => simp only [es2] at h2; exact h2.elim
            | some ob =>
              cases ob with
              | ins C fs => simp only [es2] at h2; exact h2.elim
              | dic fs => simp only [es2] at h2; exact h2.elim
              | lst l2 =>
                simp only [es2] at h2
                by_cases hl : l2.length = l.length
                · rw [if_pos hl] at h2
                  obtain ⟨xs, ex, rx⟩ := obj_now rel2 ea2 es2
                  exact .inl ⟨⟨xs, SqL.of ex, by rw [repDs_len rx]; omega⟩, h2 ι2 H2 σ2 Ext.refl rel2 re2⟩
                · rw [if_neg hl] at h2; exact h2.elim
          | succ n =>
            unfold mForEO at h2
            cases es2 : S2[o]? with
            | none => simp only [es2] at h2; exact h2.elim
            | some ob =>
              cases ob with
              | ins C fs => simp only [es2] at h2; exact h2.elim
              | dic fs => simp only [es2] at h2; exact h2.elim
              | lst l2 =>
                simp only [es2] at h2
                by_cases hl : l2.length = l.length
                · rw [if_pos hl] at h2
                  cases ed : l2[i]? with
                  | none => simp only [ed] at h2; exact h2.elim
                  | some d =>
                    cases d with
                    | obj q => simp only [ed] at h2; exact h2.elim
                    | dat p =>
                      simp only [ed] at h2
                      obtain ⟨xs, ex, rx⟩ := obj_now rel2 ea2 es2
                      obtain ⟨y, ey, ry⟩ := repDs_at rx ed
                      refine .inr ⟨⟨xs, y, SqL.of ex, ey⟩, fun σ' H' => ∃ ι3 δ3 S3, Ext ι1 H1 ι3 H' ∧ Rel K ι3 X S3 H' ∧ RepE K ι3 X H' δ3 σ' ∧ PostS K W X ι3 H' (mForEO m b o l.length n (i + 1) δ3 S3) E,
                        fun σ' H' ⟨ι3, δ3, S3, q⟩ => ⟨n, Nat.lt_succ_self n, ι3, δ3, S3, by omega, q⟩, fun v H3 yy => ?_⟩
                      obtain ⟨T, x, rfl, hT, rfl, yy⟩ := yy
                      have exy : x = y := by
                        have := yy xs (SqL.of ex)
                        rw [ey] at this
                        exact (Option.some.inj this).symm
                      subst exy
                      have x3 : Ext ι2 H2 ι2 (upd H2 T (.tup [.int (i : Nat), x])) := ext_alloc rel2 hT
                      have rel3 := rel2.alloc (o := .tup [.int (i : Nat), x]) hT
                      obtain ⟨nn, mm⟩ := rel2.nin hT
                      have rd : RepD K ι2 X (upd H2 T (.tup [.int (i : Nat), x])) (.dat (.tup [.int (i : Nat), p])) (.ref T) := by
                        show RepP K ι2 X _ _ _
                        rw [RepP]
                        refine ⟨T, [.int (i : Nat), x], rfl, .inl ⟨nn, mm, .inl upd_same⟩, ?_⟩
                        rw [RepPs]
                        refine ⟨_, [x], rfl, rp_int, ?_⟩
                        rw [RepPs]
                        refine ⟨x, [], rfl, ?_, ?_⟩
                        · have ry : RepP K ι2 X H2 p x := ry
                          exact ry.ext x3
                        · rw [RepPs]
                      have re3 := re2.ext x3
                      have h3 := turn_ok (PostS.ext x3 h2) (N := fun σ' H' => ∃ ι3 δ3 S3, Ext ι1 H1 ι3 H' ∧ Rel K ι3 X S3 H' ∧ RepE K ι3 X H' δ3 σ' ∧ PostS K W X ι3 H' (mForEO m b o l.length n (i + 1) δ3 S3) E)
                        fun ι' H' σ' δ' S' x4 rel4 re4 h4 => ⟨ι', δ', S', (x2.trans x3).trans x4, rel4, re4, h4⟩
                      refine hg ι2 X S2 _ σ2 δ2 _ _ _ rel3 re3 rd (PostS.st re3 h3 fun ι5 H5 δ5 S5 σ5 x5 rel5 re5 h5 => ?_)
                      exact hb ι5 X S5 H5 σ5 δ5 _ rel5 re5 h5
                · rw [if_neg hl] at h2; exact h2.elim
end
end M3
namespace M3
open PySem PySem.Spec PyProof.Rows L2
/-! ### a pure def whose answer is a list of lists that were made -/
def frzA (S : Store) : D → Option P
  | .dat p => some p
  | .obj i => frz1 S i
def frzL (S : Store) : List D → Option (List P)
  | [] => some []
  | d :: ds => match frzA S d with
    | some p => (frzL S ds).map fun ps => p :: ps
    | none => none
def frz2 (S : Store) : D → Option P
  | .dat p => some p
  | .obj i => match S[i]? with
    | some (.lst l) => (frzL S l).map .lst
    | _ => none
def mPure2 (f : List D → Store → R D) (ds : List D) (S : Store) : R D := match datAll ds with
  | none => .fail
  | some _ => match f ds [] with
    | .ok d S' => (match frz2 S' d with
      | some p => .ok (.dat p) S
      | none => .fail)
    | .exc C x _ => .exc C x S
    | .fail => .fail
section
variable {K : PySem.W.Frag} {W : L2.St → WK}
theorem frzL_rep {ι X ι' X' : List Addr} {S : Store} {H : Hp} (rel : Rel K ι X S H) (x : OutP ι X H ι' X' H) (hn : ∀ (j : Nat) a, ι[j]? = some a → a ∉ ι' ∧ a ∉ X') : ∀ {ds : List D} {ps : List P} {vs : List V}, frzL S ds = some ps → RepDs K ι X H ds vs → RepPs K ι' X' H ps vs
  | [], ps, vs, e, r => by
    cases e
    rw [RepPs]
    exact r
  | d :: ds, ps, vs, e, ⟨y, ys, ev, f, g⟩ => by
    unfold frzL at e
    cases q : frzA S d with
    | none => simp only [q] at e; cases e
    | some p =>
      simp only [q] at e
      cases q2 : frzL S ds with
      | none => rw [q2] at e; cases e
      | some qs =>
        rw [q2] at e
        cases e
        rw [RepPs]
        refine ⟨y, ys, ev, ?_, frzL_rep rel x hn q2 g⟩
        cases d with
        | dat p' => cases q; exact RepP.out x f
        | obj j =>
          obtain ⟨a, ea, rfl⟩ := f
          exact frz1_rep rel x q ea (hn j a ea).1 (hn j a ea).2
theorem pure2_ok {n : Nat} {f : List D → Store → R D} : ∀ vs H Q E, spM K n (mPure2 f) vs H Q E → spM K n f vs H Q E := by
  rintro vs H Q E ⟨hn, ι, X, S, ds, rel, rd, hp⟩
  unfold mPure2 at hp
  cases e : datAll ds with
  | none => rw [e] at hp; exact hp.elim
  | some ps =>
    simp only [e] at hp
    have y : OutP ι X H [] (ι ++ X) H := ⟨fun a o n m e => ⟨e, by simp, fun z => by
      rcases List.mem_append.mp z with z | z
      · exact n z
      · exact m z⟩⟩
    have relX : Rel K [] (ι ++ X) [] H := ⟨rfl, List.nodup_nil, fun i o a e => by simp at e, fun a m => ⟨by simp, by
      rcases List.mem_append.mp m with m | m
      · exact rel.mem m
      · exact (rel.ex a m).2⟩⟩
    refine ⟨hn, [], ι ++ X, [], ds, relX, datAll_repD y e rd, ?_⟩
    have back : ∀ ι' H', Ext [] H ι' H' → Ext ι H ι H' ∧ Rel K ι X S H' := fun ι' H' x => by
      have o1 : Out1 ι X H ι X H' := ⟨fun e => e, fun a o n m e => ⟨x.old a o (by simp) e, n, m⟩⟩
      refine ⟨⟨⟨[], by simp⟩, fun b o _ e => x.old b o (by simp) e, fun b m n => absurd m n⟩, rel.keep o1 rfl (fun a m => ?_) fun a m => ⟨(rel.ex a m).1, ?_⟩⟩
      · obtain ⟨u, eu⟩ := rel.mem m
        rw [eu, x.old a u (by simp) eu]
      · obtain ⟨_, u, eu⟩ := rel.ex a m
        exact ⟨u, x.old a u (by simp) eu⟩
    have yy : ∀ ι' H', OutP ι' (ι ++ X) H' ι X H' := fun ι' H' => ⟨fun a o n m e => ⟨e, fun z => m (List.mem_append_left _ z), fun z => m (List.mem_append_right _ z)⟩⟩
    cases q : f ds [] with
    | fail => rw [q] at hp; exact hp
    | exc C x S' =>
      rw [q] at hp
      exact fun ι' H' da x rel' rx => hp ι H' da (back ι' H' x).1 (back ι' H' x).2 (repX_out (yy ι' H') (fun _ _ _ z => z) rx)
    | ok d S' =>
      rw [q] at hp
      simp only at hp
      cases z : frz2 S' d with
      | none => rw [z] at hp; exact hp.elim
      | some p =>
        simp only [z] at hp
        cases d with
        | dat p' =>
          cases z
          exact fun ι' H' v x rel' rv => hp ι H' v (back ι' H' x).1 (back ι' H' x).2 (RepP.out (yy ι' H') rv)
        | obj i =>
          rintro ι' H' v x rel' ⟨a, ea, rfl⟩
          have nin : ∀ (j : Nat) a, ι'[j]? = some a → a ∉ ι ∧ a ∉ X := fun j a ea => by
            have hna : H a = none := x.new a (List.mem_of_getElem? ea) (by simp)
            exact rel.nin hna
          refine hp ι H' _ (back ι' H' x).1 (back ι' H' x).2 ?_
          show RepP K ι X H' p _
          unfold frz2 at z
          cases es : S'[i]? with
          | none => simp only [es] at z; cases z
          | some o =>
            have ro := rel'.at_ i o a es ea
            cases o with
            | ins C l => simp only [es] at z; cases z
            | dic l => simp only [es] at z; cases z
            | lst l =>
              simp only [es] at z
              obtain ⟨xs, f', g'⟩ := ro
              cases q2 : frzL S' l with
              | none => rw [q2] at z; cases z
              | some qs =>
                rw [q2] at z
                cases z
                rw [RepP]
                exact ⟨a, xs, rfl, (nin i a ea).1, (nin i a ea).2, f', frzL_rep rel' (yy ι' H') nin q2 g'⟩
end
/-- how such a def is run -/
theorem pure2_of {f : List D → Store → R D} {ds : List D} {ps : List P} {p : P} {d : D} {S S' : Store} (hd : datAll ds = some ps) (h : f ds [] = .ok d S') (z : frz2 S' d = some p) : mPure2 f ds S = .ok (.dat p) S := by
  unfold mPure2
  rw [hd]
  simp only []
  rw [h]
  simp only [z]
end M3
namespace M3
open PySem PySem.Spec PyProof.Rows L2
/-! ### a pure def that is handed a list which may change: it looks at it, and answers with a list of integers of its own -/
def isIntP : P → Bool
  | .int _ => true
  | _ => false
def isNonP : P → Bool
  | .non => true
  | _ => false
def plainRes : P → Bool
  | .non => true
  | .bl _ => true
  | .int _ => true
  | .str _ => true
  | .lst l => l.all isIntP
  | _ => false
def borA (S : Store) : D → Option P
  | .dat p => some p
  | .obj i => match S[i]? with
    | some (.lst l) => match datAll l with
      | some ps => if ps.any isNonP = true then some (.lst ps) else none
      | none => none
    | _ => none
def borL (S : Store) : List D → Option (List P)
  | [] => some []
  | d :: ds => match borA S d with
    | some p => (borL S ds).map fun ps => p :: ps
    | none => none
def mBor (f : List D → Store → R D) (ds : List D) (S : Store) : R D := match borL S ds with
  | none => .fail
  | some ps => match f (ps.map .dat) [] with
    | .ok (.dat p) _ => if plainRes p = true then .ok (.dat p) S else .fail
    | _ => .fail
section
variable {K : PySem.W.Frag}
theorem repPs_intsB {ι X ι' X' : List Addr} {H H' : Hp} : ∀ {l : List P} {xs : List V}, l.all isIntP = true → RepPs K ι X H l xs → RepPs K ι' X' H' l xs ∧ ∀ v ∈ xs, ∃ i, v = .int i
  | [], xs, _, r => by
    rw [RepPs] at r
    subst r
    exact ⟨by rw [RepPs], by simp⟩
  | p :: l, xs, e, r => by
    rw [List.all_cons, Bool.and_eq_true] at e
    rw [RepPs] at r
    obtain ⟨y, ys, rfl, f, g⟩ := r
    obtain ⟨g1, g2⟩ := repPs_intsB (ι' := ι') (X' := X') (H' := H') e.2 g
    cases p with
    | int i =>
      rw [RepP] at f
      subst f
      refine ⟨?_, fun v m => ?_⟩
      · rw [RepPs]
        exact ⟨_, ys, rfl, by rw [RepP], g1⟩
      · rcases List.mem_cons.mp m with rfl | m
        · exact ⟨i, rfl⟩
        · exact g2 v m
    | _ => exact absurd e.1 Bool.false_ne_true
theorem repPs_non {ι X : List Addr} {H : Hp} : ∀ {l : List P} {xs : List V}, l.any isNonP = true → RepPs K ι X H l xs → V.non ∈ xs
  | [], xs, e, r => by cases e
  | p :: l, xs, e, r => by
    rw [RepPs] at r
    obtain ⟨y, ys, rfl, f, g⟩ := r
    rw [List.any_cons, Bool.or_eq_true] at e
    rcases e with e | e
    · cases p with
      | non => rw [RepP] at f; subst f; exact List.mem_cons_self ..
      | _ => cases e
    · exact List.mem_cons_of_mem _ (repPs_non e g)
theorem bor_ok {n : Nat} {f : List D → Store → R D} : ∀ vs H Q E, spM K n (mBor f) vs H Q E → spM K n f vs H Q E := by
  rintro vs H Q E ⟨hn, ι, X, S, ds, rel, rd, hp⟩
  unfold mBor at hp
  cases e : borL S ds with
  | none => rw [e] at hp; exact hp.elim
  | some ps =>
    simp only [e] at hp
    obtain ⟨bs, hbs⟩ : ∃ bs : List Addr, bs = ds.filterMap fun d => match d with
      | .obj i => ι[i]?
      | _ => none := ⟨_, rfl⟩
    obtain ⟨X2, hX2⟩ : ∃ X2 : List Addr, X2 = (ι.filter fun a => !decide (a ∈ bs)) ++ X := ⟨_, rfl⟩
    have inX2 : ∀ a, a ∈ X2 ↔ (a ∈ ι ∧ a ∉ bs) ∨ a ∈ X := fun a => by rw [hX2]; simp
    have relX : Rel K [] X2 [] H := ⟨rfl, List.nodup_nil, fun i o a e => by simp at e, fun a m => ⟨by simp, by
      rcases (inX2 a).mp m with m | m
      · exact rel.mem m.1
      · exact (rel.ex a m).2⟩⟩
    have y : OutP ι X H [] X2 H := ⟨fun a o n m e => ⟨e, by simp, fun z => by
      rcases (inX2 a).mp z with z | z
      · exact n z.1
      · exact m z⟩⟩
    have memb : ∀ (i : Nat) a, D.obj i ∈ ds → ι[i]? = some a → a ∈ bs := fun i a m e => by
      rw [hbs]
      exact List.mem_filterMap.mpr ⟨_, m, e⟩
    have reps : ∀ {es : List D} {qs : List P} {us : List V}, (∀ d ∈ es, d ∈ ds) → borL S es = some qs → RepDs K ι X H es us → RepDs K [] X2 H (qs.map .dat) us := by
      intro es
      induction es with
      | nil => intro qs us _ e r; cases e; exact r
      | cons d es ih =>
        rintro qs us hm e ⟨v, us', rfl, r1, r2⟩
        unfold borL at e
        cases q : borA S d with
        | none => simp only [q] at e; cases e
        | some p =>
          simp only [q] at e
          cases q2 : borL S es with
          | none => rw [q2] at e; cases e
          | some ts =>
            rw [q2] at e
            cases e
            refine ⟨v, us', rfl, ?_, ih (fun d m => hm d (List.mem_cons_of_mem _ m)) q2 r2⟩
            show RepP K [] X2 H p v
            cases d with
            | dat p' => cases q; exact RepP.out y r1
            | obj i =>
              obtain ⟨a, ea, rfl⟩ := r1
              have ma := memb i a (hm _ (List.mem_cons_self ..)) ea
              have na : a ∉ X2 := fun z => by
                rcases (inX2 a).mp z with z | z
                · exact z.2 ma
                · exact (rel.ex a z).1 (List.mem_of_getElem? ea)
              unfold borA at q
              cases es' : S[i]? with
              | none => simp only [es'] at q; cases q
              | some o =>
                have ro := rel.at_ i o a es' ea
                cases o with
                | ins C l => simp only [es'] at q; cases q
                | dic l => simp only [es'] at q; cases q
                | lst l =>
                  simp only [es'] at q
                  obtain ⟨xs, f1, g1⟩ := ro
                  cases q3 : datAll l with
                  | none => simp only [q3] at q; cases q
                  | some ts' =>
                    simp only [q3] at q
                    split at q
                    · cases q
                      rw [RepP]
                      exact ⟨a, xs, rfl, by simp, na, f1, RepPs.out y (datAll_rep q3 g1)⟩
                    · cases q
    refine ⟨hn, [], X2, [], ps.map .dat, relX, reps (fun _ m => m) e rd, ?_⟩
    cases q : f (ps.map .dat) [] with
    | fail => rw [q] at hp; exact hp.elim
    | exc C x S' => rw [q] at hp; exact hp.elim
    | ok d S' =>
      rw [q] at hp
      cases d with
      | obj i => exact hp.elim
      | dat p =>
        simp only at hp
        by_cases pr : plainRes p = true
        · rw [if_pos pr] at hp
          intro ι' H' v x rel' rv
          have rv : RepP K ι' X2 H' p v := rv
          have o1 : Out1 ι X H ι X H' := ⟨fun e => e, fun a o n m e => ⟨x.old a o (by simp) e, n, m⟩⟩
          have b1 : Ext ι H ι H' := ⟨⟨[], by simp⟩, fun b o _ e => x.old b o (by simp) e, fun b m n => absurd m n⟩
          have b2 : Rel K ι X S H' := rel.keep o1 rfl (fun a m => by
            obtain ⟨u, eu⟩ := rel.mem m
            rw [eu, x.old a u (by simp) eu]) fun a m => ⟨(rel.ex a m).1, by
            obtain ⟨_, u, eu⟩ := rel.ex a m
            exact ⟨u, x.old a u (by simp) eu⟩⟩
          refine hp ι H' v b1 b2 ?_
          show RepP K ι X H' p v
          cases p with
          | non => rw [RepP] at rv ⊢; exact rv
          | bl b => rw [RepP] at rv ⊢; exact rv
          | int i => rw [RepP] at rv ⊢; exact rv
          | str z => rw [RepP] at rv ⊢; exact rv
          | lst l =>
            rw [RepP] at rv
            obtain ⟨a, xs, rfl, n1, n2, f1, g1⟩ := rv
            obtain ⟨g2, hI⟩ := repPs_intsB (ι' := ι) (X' := X) (H' := H') pr g1
            rw [RepP]
            refine ⟨a, xs, rfl, fun m => ?_, fun m => n2 ((inX2 a).mpr (.inr m)), f1, g2⟩
            have mb : a ∈ bs := Classical.byContradiction fun z => n2 ((inX2 a).mpr (.inl ⟨m, z⟩))
            rw [hbs] at mb
            obtain ⟨d, md, ed⟩ := List.mem_filterMap.mp mb
            cases d with
            | dat p' => cases ed
            | obj i =>
              have ea : ι[i]? = some a := ed
              -- what it held then
              have hold : ∃ t, borA S (.obj i) = some t := by
                clear mb hp reps rd q hbs memb relX y
                induction ds generalizing ps with
                | nil => cases md
                | cons d ds ih =>
                  unfold borL at e
                  cases q : borA S d with
                  | none => simp only [q] at e; cases e
                  | some p =>
                    simp only [q] at e
                    cases q2 : borL S ds with
                    | none => rw [q2] at e; cases e
                    | some ts =>
                      rcases List.mem_cons.mp md with z | z
                      · exact ⟨p, z ▸ q⟩
                      · exact ih _ q2 z
              obtain ⟨t, et⟩ := hold
              unfold borA at et
              cases es' : S[i]? with
              | none => simp only [es'] at et; cases et
              | some o =>
                have ro := rel.at_ i o a es' ea
                cases o with
                | ins C l => simp only [es'] at et; cases et
                | dic l => simp only [es'] at et; cases et
                | lst l0 =>
                  simp only [es'] at et
                  obtain ⟨xs0, f0, g0⟩ := ro
                  cases q3 : datAll l0 with
                  | none => simp only [q3] at et; cases et
                  | some ts' =>
                    simp only [q3] at et
                    split at et
                    · rename_i hnon
                      have := repPs_non hnon (datAll_rep q3 g0)
                      rw [x.old a _ (by simp) f0] at f1
                      cases f1
                      obtain ⟨j, ej⟩ := hI _ this
                      cases ej
                    · cases et
          | tup l => exact absurd pr Bool.false_ne_true
          | dic l => exact absurd pr Bool.false_ne_true
          | ins C l => exact absurd pr Bool.false_ne_true
          | con w => exact absurd pr Bool.false_ne_true
          | scr l => exact absurd pr Bool.false_ne_true
        · rw [if_neg pr] at hp; exact hp.elim
end
theorem bor_of {f : List D → Store → R D} {ds : List D} {ps : List P} {p : P} {S S' : Store} (hd : borL S ds = some ps) (h : f (ps.map .dat) [] = .ok (.dat p) S') (z : plainRes p = true) : mBor f ds S = .ok (.dat p) S := by
  unfold mBor
  rw [hd]
  simp only []
  rw [h]
  simp only []
  rw [if_pos z]
end M3
namespace M3
open PySem PySem.Spec PyProof.Rows L2
/-! ### len(set(xs)) of integers; a word that a written dict does not hold -/
/-- how many different ones -/
def setLen (ns : List Int) : Nat := (PyProof.Rows.firstMet (fun i => ns.getD i 0) ns.length).length
def tLenSetM (K : PySem.W.Frag) (ta : TE) : TE := fun σ H Q => ta σ H fun x H1 => ∃ (l : Addr) (ns : List Int), x = .ref l ∧ SqL K H1 l (ns.map V.int) ∧ ns.length ≤ 4000 ∧ Q (.int (setLen ns : Nat)) H1
theorem pe_lenSetM {X : Cx} {K : PySem.W.Frag} {a : Expr} {ta : TE} {p p2 q pos : Pos} (hK : X.K = K) (hg : Gl X "len") (hm : X.mg "len" = none) (hg2 : Gl X "set") (hm2 : X.mg "set" = none) (ha : PE X a ta) (hc : X.calm = true := by rfl)
    (na : starEach [a] X.env = (false, eval a X.env) :: starEach [] X.env := by rfl) : PE X (.Call (.Name "len" p) [.Call (.Name "set" p2) [a] [] q] [] pos) (tLenSetM K ta) := by
  subst hK
  refine ⟨fun pins s σ H Q I h => ?_⟩
  refine Call_ (ld_blt I hg hm boot_len ?_)
  refine PyProof.Rows.callWith_builtin1 (PyProof.Rows.args_cons ?_ rfl) rfl rfl
  refine Call_ (ld_blt I hg2 hm2 boot_set ?_)
  refine PyProof.Rows.callWith_type1 (PyProof.Rows.args_cons (thn (ha.run pins s σ H _ I h) fun v s1 ⟨x, H1, I1, r1, q1⟩ => PyProof.Rows.args_nil ?_) na) na rfl
  obtain ⟨l, ns, rfl, hq, hl, q1⟩ := q1
  cases r1
  obtain ⟨its, r, pl, hz⟩ := I1.list hq
  have hlen : its.toArray.size = ns.length := by rw [List.size_toArray, ← r.length, List.length_map]
  refine call_set_list (I1.ok.hd hc) pl.isList (by simpa using RZ.intsAre_vals r) (by rw [hlen]; unfold scanBound; omega) fun h' tk hS hk => ?_
  refine PyProof.Rows.args_nil ?_
  rw [hlen] at hS
  obtain ⟨o, es, ep, t, ho, hex, hd, _, _, _, hf, hn⟩ := hS
  have I2 : Inv X pins σ H1 { s1 with heap := h', toks := tk } := I1.kept fun b o e => hk b o (Heap.lt_size e) e
  have hle : (PyProof.Rows.firstMet (fun i => ns.getD i 0) ns.length).length ≤ ns.length := PyProof.Rows.firstMet_length_le _ _
  refine call_len_set ho hex hd hf (by rw [hn]; omega) ⟨.int (setLen ns : Nat), H1, I2.tok _, ⟨_, by rw [hn]; rfl⟩, q1⟩
/-- a tuple display of whatever things, taken apart at once -/
def mAsgT (n : Nat) (a : DA) (g : DGs) : DS := fun δ S => (a δ S).st δ fun ds S1 => if ds.length = n ∧ n ≤ 100000 then (g ds δ S1).st δ fun δ1 S2 => .ok (.nx δ1) S2 else .fail
theorem ss_asgT {K : PySem.W.Frag} {W : L2.St → WK} {n : Nat} {t : TA} {gs : TGs} {a : DA} {ms : DGs} (ha : SA K W t a) (hs : SGs K W gs ms) : SS K W (tAsg (tTup t) (gTup K n gs)) (mAsgT n a ms) := by
  intro ι X S H σ δ E rel re h
  refine ha ι X S H σ δ _ rel re (PostS.st re h fun ι1 H1 ds S1 vs x1 rel1 rv h1 => ?_)
  by_cases c : ds.length = n ∧ n ≤ 100000
  · rw [if_pos c] at h1
    have lv : vs.length = ds.length := repDs_len rv
    refine ⟨small (by omega), fun p hp => ?_⟩
    have x2 : Ext ι1 H1 ι1 (upd H1 p (.tup vs)) := ext_alloc rel1 hp
    have rel2 := rel1.alloc (o := .tup vs) hp
    have re2 := (re.ext x1).ext x2
    refine ⟨p, vs, rfl, SqT.of upd_same, by omega, ?_⟩
    exact hs ι1 X S1 _ σ δ ds vs _ rel2 re2 (rv.ext x2) (PostS.st re2 (PostS.ext x2 h1) fun ι5 H5 δ5 S5 σ5 x5 rel5 re5 h5 => h5 ι5 H5 σ5 Ext.refl rel5 re5)
  · rw [if_neg c] at h1; exact h1.elim
def mLenSet (a : DE) : DE := fun δ S => (a δ S).bind fun x S1 => match (listP S1 x).bind intsP with
  | some ns => if ns.length ≤ 4000 then .ok (.dat (.int (setLen ns : Nat))) S1 else .fail
  | none => .fail
section
variable {K : PySem.W.Frag} {W : L2.St → WK}
theorem se_lenSet {t : TE} {a : DE} (ha : SE K W t a) : SE K W (tLenSetM K t) (mLenSet a) := by
  intro ι X S H σ δ Q rel re h
  refine ha ι X S H σ δ _ rel re (Post.bind h fun ι1 H1 x S1 v x1 rel1 rv h1 => ?_)
  cases q : (listP S1 x).bind intsP with
  | none => rw [q] at h1; exact h1.elim
  | some ns =>
    simp only [q] at h1
    by_cases c : ns.length ≤ 4000
    · rw [if_pos c] at h1
      obtain ⟨l, rfl, f⟩ := ints_of rel1 q rv
      exact ⟨l, ns, rfl, f, c, h1 ι1 H1 _ Ext.refl rel1 rd_int⟩
    · rw [if_neg c] at h1; exact h1.elim
end
theorem op_notIn_non {X : Cx} {d : Addr} {es : Array DictEntry} {n : Nat} (D : KDict X.K X.w d es n) : OpR X (compareOp .NotIn) (fun x y H Q => x = .non ∧ y = .ref d ∧ Q (.bl true) H) := by
  intro pins s σ H x y v u Q I rx ry h
  obtain ⟨rfl, rfl, q⟩ := h
  cases (show v = Value.none from rx)
  cases (show u = Value.ref d from ry)
  refine wpAny_notIn_of (knd := leafKind X.prog X.w) (k := .none) rfl D.low (mapOf_L (prog := X.prog) I.kIn D.at_ D.lit) ?_
  rw [find_non D.lit]
  exact ⟨.bl true, H, I.tok _, rfl, q⟩
def rNotInTab (t : Addr) (kvs : List (Str × P)) : R2 := fun x y H Q => y = .ref t ∧ ((x = .non ∧ Q (.bl true) H) ∨ ∃ z, x = .str z ∧ Q (.bl (!(lookPf z kvs).isSome)) H)
theorem op_notInTab {X : Cx} {K : PySem.W.Frag} {t : Addr} {kvs : List (Str × P)} (hK : X.K = K) (T : TabOk K X.w t kvs) : OpR X (compareOp .NotIn) (rNotInTab t kvs) := by
  subst hK
  obtain ⟨kv, D, hv⟩ := T.ex
  obtain ⟨es, n, KDc⟩ := D.ex
  intro pins s σ H x y v u Q I rx ry h
  obtain ⟨hy, ⟨hx, q⟩ | ⟨z, hx, q⟩⟩ := h
  · exact op_notIn_non KDc pins s σ H x y v u Q I rx ry ⟨hx, hy, q⟩
  · refine op_notIn_kd KDc pins s σ H x y v u Q I rx ry ?_
    have hz := hv z
    cases e : lookPf z kvs with
    | none =>
      rw [e] at hz q
      exact ⟨z, none, hx, hy, D.miss z hz, q⟩
    | some p =>
      rw [e] at hz q
      obtain ⟨v0, e1, _⟩ := hz
      obtain ⟨u0, e2, _⟩ := D.hit z v0 e1
      exact ⟨z, some u0, hx, hy, e2, q⟩
def aNotInTab (t : Addr) (kvs : List (Str × P)) : Store → D → D → Option D := fun _ x y => match x, y with
  | .dat .non, .dat (.con (.ref a)) => if a = t then some (dBl true) else none
  | .dat (.str z), .dat (.con (.ref a)) => if a = t then some (dBl (!(lookPf z kvs).isSome)) else none
  | _, _ => none
theorem notInTab_ok {K : PySem.W.Frag} {t : Addr} {kvs : List (Str × P)} : R2S K (rNotInTab t kvs) (aNotInTab t kvs) := by
  intro ι X S H x y v u d Q rel rx ry e k
  unfold aNotInTab at e
  split at e
  · split at e
    · rename_i h
      cases e
      subst h
      exact ⟨rC_inv ry, .inl ⟨rN_inv rx, k H _ Ext.refl rel rd_bl⟩⟩
    · cases e
  · split at e
    · rename_i h
      cases e
      subst h
      exact ⟨rC_inv ry, .inr ⟨_, rS_inv rx, k H _ Ext.refl rel rd_bl⟩⟩
    · cases e
  · cases e
end M3
namespace M3
open PySem PySem.Spec PyProof.Rows L2
/-! ### a pure def that looks at lists which may change, through and through, and answers with no list -/
mutual
def deepA (S : Store) : Nat → D → Option P
  | _, .dat p => some p
  | 0, .obj _ => none
  | n + 1, .obj i => match S[i]? with
    | some (.lst l) => (deepL S n l).map .lst
    | _ => none
def deepL (S : Store) : Nat → List D → Option (List P)
  | _, [] => some []
  | n, d :: ds => match deepA S n d with
    | some p => (deepL S n ds).map fun ps => p :: ps
    | none => none
end
def flatRes : P → Bool
  | .non => true
  | .bl _ => true
  | .int _ => true
  | .str _ => true
  | _ => false
def mBorF (f : List D → Store → R D) (ds : List D) (S : Store) : R D := match deepL S 5 ds with
  | none => .fail
  | some ps => match f (ps.map .dat) [] with
    | .ok (.dat p) _ => if flatRes p = true then .ok (.dat p) S else .fail
    | _ => .fail
section
variable {K : PySem.W.Frag}
mutual
theorem deepA_rep {ι X : List Addr} {S : Store} {H : Hp} (rel : Rel K ι X S H) (y : OutP ι X H [] X H) : ∀ {n : Nat} {d : D} {p : P} {v : V}, deepA S n d = some p → RepD K ι X H d v → RepP K [] X H p v
  | n, .dat p', p, v, e, r => by
    rw [deepA] at e
    cases e
    exact RepP.out y r
  | 0, .obj i, p, v, e, r => by
    rw [deepA] at e
    cases e
  | n + 1, .obj i, p, v, e, r => by
    obtain ⟨a, ea, rfl⟩ := r
    rw [deepA] at e
    cases es : S[i]? with
    | none => simp only [es] at e; cases e
    | some o =>
      have ro := rel.at_ i o a es ea
      cases o with
      | ins C l => simp only [es] at e; cases e
      | dic l => simp only [es] at e; cases e
      | lst l =>
        simp only [es] at e
        obtain ⟨xs, f1, g1⟩ := ro
        cases q : deepL S n l with
        | none => rw [q] at e; cases e
        | some ps =>
          rw [q] at e
          cases e
          rw [RepP]
          exact ⟨a, xs, rfl, by simp, fun z => (rel.ex a z).1 (List.mem_of_getElem? ea), f1, deepL_rep rel y q g1⟩
theorem deepL_rep {ι X : List Addr} {S : Store} {H : Hp} (rel : Rel K ι X S H) (y : OutP ι X H [] X H) : ∀ {n : Nat} {ds : List D} {ps : List P} {vs : List V}, deepL S n ds = some ps → RepDs K ι X H ds vs → RepPs K [] X H ps vs
  | n, [], ps, vs, e, r => by
    rw [deepL] at e
    cases e
    rw [RepPs]
    exact r
  | n, d :: ds, ps, vs, e, ⟨v, us, ev, r1, r2⟩ => by
    rw [deepL] at e
    cases q : deepA S n d with
    | none => simp only [q] at e; cases e
    | some p =>
      simp only [q] at e
      cases q2 : deepL S n ds with
      | none => rw [q2] at e; cases e
      | some ts =>
        rw [q2] at e
        cases e
        rw [RepPs]
        exact ⟨v, us, ev, deepA_rep rel y q r1, deepL_rep rel y q2 r2⟩
end
theorem repPs_dats {ι X : List Addr} {H : Hp} : ∀ {ps : List P} {vs : List V}, RepPs K ι X H ps vs → RepDs K ι X H (ps.map .dat) vs
  | [], vs, r => by rw [RepPs] at r; exact r
  | p :: ps, vs, r => by
    rw [RepPs] at r
    obtain ⟨y, ys, e, f, g⟩ := r
    exact ⟨y, ys, e, f, repPs_dats g⟩
theorem borF_ok {n : Nat} {f : List D → Store → R D} : ∀ vs H Q E, spM K n (mBorF f) vs H Q E → spM K n f vs H Q E := by
  rintro vs H Q E ⟨hn, ι, X, S, ds, rel, rd, hp⟩
  unfold mBorF at hp
  cases e : deepL S 5 ds with
  | none => rw [e] at hp; exact hp.elim
  | some ps =>
    simp only [e] at hp
    have relX : Rel K [] X [] H := ⟨rfl, List.nodup_nil, fun i o a e => by simp at e, fun a m => ⟨by simp, (rel.ex a m).2⟩⟩
    have y : OutP ι X H [] X H := ⟨fun a o n m e => ⟨e, by simp, m⟩⟩
    refine ⟨hn, [], X, [], ps.map .dat, relX, repPs_dats (deepL_rep rel y e rd), ?_⟩
    cases q : f (ps.map .dat) [] with
    | fail => rw [q] at hp; exact hp.elim
    | exc C x S' => rw [q] at hp; exact hp.elim
    | ok d S' =>
      rw [q] at hp
      cases d with
      | obj i => exact hp.elim
      | dat p =>
        simp only at hp
        by_cases pr : flatRes p = true
        · rw [if_pos pr] at hp
          intro ι' H' v x rel' rv
          have rv : RepP K ι' X H' p v := rv
          have o1 : Out1 ι X H ι X H' := ⟨fun e => e, fun a o n m e => ⟨x.old a o (by simp) e, n, m⟩⟩
          have b1 : Ext ι H ι H' := ⟨⟨[], by simp⟩, fun b o _ e => x.old b o (by simp) e, fun b m n => absurd m n⟩
          have b2 : Rel K ι X S H' := rel.keep o1 rfl (fun a m => by
            obtain ⟨u, eu⟩ := rel.mem m
            rw [eu, x.old a u (by simp) eu]) fun a m => ⟨(rel.ex a m).1, by
            obtain ⟨_, u, eu⟩ := rel.ex a m
            exact ⟨u, x.old a u (by simp) eu⟩⟩
          refine hp ι H' v b1 b2 ?_
          show RepP K ι X H' p v
          cases p with
          | non => rw [RepP] at rv ⊢; exact rv
          | bl b => rw [RepP] at rv ⊢; exact rv
          | int i => rw [RepP] at rv ⊢; exact rv
          | str z => rw [RepP] at rv ⊢; exact rv
          | lst l => exact absurd pr Bool.false_ne_true
          | tup l => exact absurd pr Bool.false_ne_true
          | dic l => exact absurd pr Bool.false_ne_true
          | ins C l => exact absurd pr Bool.false_ne_true
          | con w => exact absurd pr Bool.false_ne_true
          | scr l => exact absurd pr Bool.false_ne_true
        · rw [if_neg pr] at hp; exact hp.elim
end
theorem borF_of {f : List D → Store → R D} {ds : List D} {ps : List P} {p : P} {S S' : Store} (hd : deepL S 5 ds = some ps) (h : f (ps.map .dat) [] = .ok (.dat p) S') (z : flatRes p = true) : mBorF f ds S = .ok (.dat p) S := by
  unfold mBorF
  rw [hd]
  simp only []
  rw [h]
  simp only []
  rw [if_pos z]
end M3
namespace M3
open PySem PySem.Spec PyProof.Rows L2
section
variable {K : PySem.W.Frag}
theorem ints_rep {ι X : List Addr} {H : Hp} {l : List D} {ps : List P} {ns : List Int} {xs : List V} (e : datAll l = some ps) (f : intsP ps = some ns) (r : RepDs K ι X H l xs) : xs = ns.map V.int := by
  have rp := datAll_rep e r
  clear e r
  induction ps generalizing ns xs with
  | nil =>
    cases f
    rw [RepPs] at rp
    rw [rp]; rfl
  | cons p ps ih =>
    rw [RepPs] at rp
    obtain ⟨y, ys, rfl, f1, g1⟩ := rp
    cases p with
    | int i =>
      unfold intsP at f
      cases q : intsP ps with
      | none => rw [q] at f; cases f
      | some ms =>
        rw [q] at f
        cases f
        rw [RepP] at f1
        rw [f1, ih q g1]; rfl
    | _ => cases f
theorem idx_some {ns : List Int} {k : Int} {j : Nat} (e : ns.idxOf? k = some j) : ns[j]? = some k ∧ ∀ m : Nat, m < j → ns[m]? ≠ some k := by
  unfold List.idxOf? at e
  obtain ⟨h, h1, h2⟩ := List.findIdx?_eq_some_iff_getElem.mp e
  refine ⟨?_, fun m hm em => ?_⟩
  · rw [List.getElem?_eq_getElem h]
    exact congrArg some (eq_of_beq h1)
  · rw [List.getElem?_eq_getElem (by omega)] at em
    have := h2 m hm
    rw [Option.some.inj em] at this
    simp at this
theorem remI_ok : MSim K rRemI (updL fRemI) := updL_ok fun ι X S H a xs l ds vs d l' Q rel ex rxs rvs e k => by
  unfold fRemI at e
  split at e
  · rename_i i
    cases q : (datAll l).bind intsP with
    | none => rw [q] at e; cases e
    | some ns =>
      simp only [q] at e
      cases q2 : ns.idxOf? i with
      | none => rw [q2] at e; cases e
      | some j =>
        rw [q2] at e
        cases e
        cases q3 : datAll l with
        | none => rw [q3] at q; cases q
        | some ps =>
          rw [q3] at q
          have exs := ints_rep q3 q rxs
          subst exs
          obtain ⟨v, rfl, rv⟩ := repDs_one rvs
          obtain ⟨h1, h2⟩ := idx_some q2
          refine ⟨a, ns, i, j, rfl, by rw [rI_inv rv], ex, h1, h2, k _ _ rd_non ?_⟩
          have := repDs_ints (K := K) (ι := ι) (X := X) (H := H) (ns.eraseIdx j)
          exact this
  · cases e
end
end M3
namespace M3
open PySem PySem.Spec PyProof.Rows L2
/-! ### sorted, reverse= or none, of data alike: a new list -/
def tupNe : P → Bool
  | .tup (_ :: _) => true
  | _ => false
def plainS : P → Bool
  | .int _ => true
  | .bl _ => true
  | .str _ => true
  | .lst _ => true
  | _ => false
def okSort (ps : List P) : Bool := okDs 60 ps && (ps.all fun p => ps.all fun q => PySem.W.alike (toPy p) (toPy q)) && (ps.all tupNe || ps.all plainS)
def sortP (rev : Bool) (ps : List P) : List P := ps.mergeSort (PySem.W.dataLe rev toPy)
theorem toPys_map : ∀ ps : List P, toPys ps = ps.map toPy
  | [] => by rw [toPys]; rfl
  | p :: ps => by rw [toPys, toPys_map ps]; rfl
theorem okSort_data {ps : List P} (h : okSort ps = true) : okDs 60 ps = true ∧ PySem.W.AllAlike (ps.map toPy) ∧ PySem.W.Sortable (ps.map toPy) := by
  unfold okSort at h
  rw [Bool.and_eq_true, Bool.and_eq_true, Bool.or_eq_true, List.all_eq_true, List.all_eq_true, List.all_eq_true] at h
  obtain ⟨⟨h1, h2⟩, h3⟩ := h
  refine ⟨h1, fun d hd d' hd' => ?_, ?_⟩
  · obtain ⟨p, hp, rfl⟩ := List.mem_map.mp hd
    obtain ⟨q, hq, rfl⟩ := List.mem_map.mp hd'
    exact List.all_eq_true.mp (h2 p hp) q hq
  · rcases h3 with h3 | h3
    · refine .inl fun d hd => ?_
      obtain ⟨p, hp, rfl⟩ := List.mem_map.mp hd
      have := h3 p hp
      cases p with
      | tup l => cases l with
        | nil => cases this
        | cons x r => exact ⟨toPy x, toPys r, by rw [toPy, toPys]⟩
      | _ => cases this
    · refine .inr fun d hd => ?_
      obtain ⟨p, hp, rfl⟩ := List.mem_map.mp hd
      have := h3 p hp
      cases p with
      | int i => rw [toPy]; exact ⟨nofun, nofun⟩
      | bl i => rw [toPy]; exact ⟨nofun, nofun⟩
      | str i => rw [toPy]; exact ⟨nofun, nofun⟩
      | lst i => rw [toPy]; exact ⟨nofun, nofun⟩
      | _ => cases this
theorem depth_of : ∀ {ps : List P} {p : P}, PyData.depthAll (toPys ps) ≤ 60 → p ∈ ps → (toPy p).depth ≤ 60
  | [], _, _, m => by cases m
  | q :: ps, p, h, m => by
    rw [toPys] at h
    have h : max (toPy q).depth (PyData.depthAll (toPys ps)) ≤ 60 := h
    rcases List.mem_cons.mp m with rfl | m
    · exact Nat.le_trans (Nat.le_max_left ..) h
    · exact depth_of (Nat.le_trans (Nat.le_max_right ..) h) m
def RVP (K : PySem.W.Frag) (ι X : List Addr) (H : Hp) (v : Value) (p : P) : Prop := ∃ x : V, RelV x v ∧ RepP K ι X H p x
theorem each_rvp {K : PySem.W.Frag} {ι X : List Addr} {H : Hp} : ∀ {ps : List P} {xs : List V} {vs : List Value}, RepPs K ι X H ps xs → Vals xs vs → PySem.W.EachIs (RVP K ι X H) vs ps
  | [], xs, vs, r, v => by
    rw [RepPs] at r
    subst r
    cases v
    exact .nil
  | p :: ps, xs, vs, r, v => by
    rw [RepPs] at r
    obtain ⟨y, ys, rfl, r1, r2⟩ := r
    cases v with
    | cons a b => exact .cons ⟨y, a, r1⟩ (each_rvp r2 b)
theorem rvp_each {K : PySem.W.Frag} {ι X : List Addr} {H : Hp} : ∀ {vs : List Value} {ps : List P}, PySem.W.EachIs (RVP K ι X H) vs ps → ∃ xs, RepPs K ι X H ps xs ∧ Vals xs vs
  | _, _, .nil => ⟨[], by rw [RepPs], .nil⟩
  | _, _, .cons ⟨x, a, r⟩ t => by
    obtain ⟨xs, r2, v⟩ := rvp_each t
    exact ⟨x :: xs, by rw [RepPs]; exact ⟨x, xs, rfl, r, r2⟩, .cons a v⟩
/-- sorted(xs), sorted(xs, reverse=b) -/
def rSortM (K : PySem.W.Frag) (b : Bool) : List V → Hp → VK → Prop := fun vs H Q => ∃ (a : Addr) (xs : List V) (ps : List P) (ι X : List Addr), vs = [V.ref a] ∧ SqL K H a xs ∧ okSort ps = true ∧ RepPs K ι X H ps xs ∧
  ∀ (ys : List V) (p : Addr), RepPs K ι X H (sortP b ps) ys → H p = none → Q (.ref p) (upd H p (.lst ys))
def rSortMK (K : PySem.W.Frag) (b : Bool) : List V → List V → Hp → VK → Prop := fun vs zs H Q => zs = [.bl b] ∧ rSortM K b vs H Q
section
variable {X : Cx} {K : PySem.W.Frag}
theorem sort_fin {b : Bool} {pins : List (Addr × Obj)} {s : Shared} {σ : L2.St} {H : Hp} {ps : List P} {vs : List Value} {ι Y : List Addr} {Q : VK} (I : Inv X pins σ H s) (hl : vs.length ≤ sizeLine) (hv : vs.length = ps.length)
    (q : ∀ (ys : List V) (p : Addr), RepPs X.K ι Y H (sortP b ps) ys → H p = none → Q (.ref p) (upd H p (.lst ys))) (out : List Value) (ho : out.length = ps.length) (eo : PySem.W.EachIs (RVP X.K ι Y H) out (ps.mergeSort (PySem.W.dataLe b toPy))) :
    EP X pins σ Q (.ref (s.heap.objs.size + 1)) { s with heap := PyProof.Rows.sortedAll s.heap vs (List.toArray out) } := by
  obtain ⟨ys, r, v⟩ := rvp_each eo
  obtain ⟨ep, he'⟩ := PyProof.Rows.sortedAll_at s.heap vs out.toArray
  have hlen : ys.length ≤ sizeLine := by rw [v.length, ho, ← hv]; exact hl
  exact ⟨.ref _, upd H (s.heap.objs.size + 1) (.lst ys), I.laid (t' := s.toks) (fun _ _ => PyProof.Rows.sortedAll_old) (Nat.le_succ _) ⟨hlen, out, ep, v, he'⟩, rfl, q _ _ r (I.hok.fresh (Nat.le_succ _))⟩
theorem call_sortM (h : X.K = K) (hu : X.A.units + 64 < cLine) : CallR X (.builtin "sorted") (rSortM K false) := by
  subst h
  intro pins s σ H vs us Q I r hr
  obtain ⟨a, xs, ps, ι, Y, rfl, hs, ok, rp, q⟩ := hr
  obtain ⟨o1, o2, o3⟩ := okSort_data ok
  obtain ⟨its, rv, hl, hz⟩ := I.list hs
  rw [Vals.ref1 r]
  obtain ⟨as, rd⟩ := Dp.readsAll I _ _ its (okDs_dp 60 ps xs o1 rp) rv
  rw [toPys_map] at rd
  have hlv : its.length = ps.length := by rw [← rv.length, repPs_len rp]
  exact PySem.W.sorted_data hl.isList (each_rvp rp rv) (PySem.W.readsAll_each toPy rd) o2 o3 (by rw [← hlv, ← rv.length]; exact hz)
    (fun p hp => by have := depth_of (okDs_lay 60 ps o1).2 hp; omega) fun out ho eo => sort_fin I (by rw [← rv.length]; exact hz) hlv q out ho eo
theorem call_sortMK {b : Bool} (h : X.K = K) (hu : X.A.units + 64 < cLine) : CallRK X (.builtin "sorted") [Str.ofString "reverse"] (rSortMK K b) := by
  subst h
  intro pins s σ H vs zs us ws Q I r rz hr
  obtain ⟨rfl, a, xs, ps, ι, Y, rfl, hs, ok, rp, q⟩ := hr
  obtain ⟨o1, o2, o3⟩ := okSort_data ok
  obtain ⟨its, rv, hl, hz⟩ := I.list hs
  obtain rfl := Vals.ref1 r
  obtain ⟨w1, rfl, e1⟩ := vals1 rz
  obtain rfl : w1 = Value.bool b := e1
  obtain ⟨as, rd⟩ := Dp.readsAll I _ _ its (okDs_dp 60 ps xs o1 rp) rv
  rw [toPys_map] at rd
  have hlv : its.length = ps.length := by rw [← rv.length, repPs_len rp]
  exact PySem.W.sorted_rev_data hl.isList (each_rvp rp rv) (PySem.W.readsAll_each toPy rd) o2 o3 (by rw [← hlv, ← rv.length]; exact hz)
    (fun p hp => by have := depth_of (okDs_lay 60 ps o1).2 hp; omega) fun out ho eo => sort_fin I (by rw [← rv.length]; exact hz) hlv q out ho eo
end
def sortK (b : Bool) (ds : List D) (S1 : Store) : R (List D) := match ds with
  | [d] => (match listP S1 d with
    | some ps => if okSort ps = true then .ok ((sortP b ps).map .dat) S1 else .fail
    | none => .fail)
  | _ => .fail
def mSort (b : Bool) (a : DA) : DA := fun δ S => (a δ S).bind (sortK b)
theorem sort_post {K : PySem.W.Frag} {b : Bool} {ι X ι1 : List Addr} {S1 : Store} {H H1 : Hp} {ds : List D} {vs : List V} {Q : V → Hp → Prop} {W : WK} (x1 : Ext ι H ι1 H1) (rel1 : Rel K ι1 X S1 H1) (rv : RepDs K ι1 X H1 ds vs)
    (h1 : PostL K X ι H W (sortK b ds S1) Q) : rSortM K b vs H1 Q := by
  unfold sortK at h1
  split at h1
  · rename_i d
    obtain ⟨v, rfl, r⟩ := repDs_one rv
    cases q : listP S1 d with
    | none => rw [q] at h1; exact h1.elim
    | some l =>
      rw [q] at h1
      obtain ⟨a, xs, rfl, f, g⟩ := listP_rep rel1 q r
      by_cases ok : okSort l = true
      · simp only [ok, if_true] at h1
        exact ⟨a, xs, l, ι1, X, rfl, SqL.of f, ok, g, fun ys p ry hp => newL x1 rel1 (repDs_dat ry) h1 hp⟩
      · simp only [ok, if_false] at h1
        exact h1.elim
  · exact h1.elim
theorem sl_sort {K : PySem.W.Frag} {W : L2.St → WK} {b : Bool} {ta : TA} {a : DA} (ha : SA K W ta a) : SL K W (tCB (rSortM K b) ta) (mSort b a) := by
  intro ι X S H σ δ Q rel re h
  exact ha ι X S H σ δ _ rel re (postL_of h fun ι1 H1 ds S1 vs x1 rel1 rv h1 => sort_post x1 rel1 rv h1)
theorem sl_sortK {K : PySem.W.Frag} {W : L2.St → WK} {b : Bool} {ta : TA} {a : DA} (ha : SA K W ta a) : SL K W (tCKw (rSortMK K b) ta (tCons (tC (.bl b)) tNil)) (mSort b a) := by
  intro ι X S H σ δ Q rel re h
  exact ha ι X S H σ δ _ rel re (postL_of h fun ι1 H1 ds S1 vs x1 rel1 rv h1 => ⟨rfl, sort_post x1 rel1 rv h1⟩)
/-! ### the sorted list in plain words -/
theorem sort_perm (b : Bool) (ps : List P) : (sortP b ps).Perm ps := List.mergeSort_perm ..
theorem okSort_ints (ns : List Int) : okSort (ns.map .int) = true := by
  unfold okSort
  have h1 : ∀ l : List Int, okDs 60 (l.map .int) = true := fun l => by
    induction l with
    | nil => rfl
    | cons a l ih => rw [List.map_cons, okDs, ih]; rfl
  rw [h1, Bool.true_and, Bool.and_eq_true]
  refine ⟨?_, ?_⟩
  · rw [List.all_eq_true]
    intro p hp
    rw [List.all_eq_true]
    intro q hq
    obtain ⟨i, _, rfl⟩ := List.mem_map.mp hp
    obtain ⟨j, _, rfl⟩ := List.mem_map.mp hq
    rfl
  · rw [Bool.or_eq_true]
    refine .inr ?_
    rw [List.all_eq_true]
    intro p hp
    obtain ⟨i, _, rfl⟩ := List.mem_map.mp hp
    rfl
end M3
namespace W3
open PySem PySem.Spec PyProof.Rows L2 M3
section
/-- what the pure part asks of the classes -/
structure Gx (g : G) : Prop where
  CS : g.CS = [g.History]
  FL : g.FL = [(g.History, ("many" : Str)), (g.History, ("deeds" : Str))]
  k_History_int : PySem.W.kitOne g.K (.ref g.History) (.type "int") = some false
  k_History_bool : PySem.W.kitOne g.K (.ref g.History) (.type "bool") = some false
  k_History_tuple : PySem.W.kitOne g.K (.ref g.History) (.type "tuple") = some false
  k_History_list : PySem.W.kitOne g.K (.ref g.History) (.type "list") = some false
  k_History_str : PySem.W.kitOne g.K (.ref g.History) (.type "str") = some false
  kk_History_History : PySem.W.kitOne g.K (.ref g.History) (.ref g.History) = some true
  t_NoneType_History : PySem.W.kitOne g.K (.type "NoneType") (.ref g.History) = some false
  t_int_History : PySem.W.kitOne g.K (.type "int") (.ref g.History) = some false
  t_bool_History : PySem.W.kitOne g.K (.type "bool") (.ref g.History) = some false
  t_tuple_History : PySem.W.kitOne g.K (.type "tuple") (.ref g.History) = some false
  t_list_History : PySem.W.kitOne g.K (.type "list") (.ref g.History) = some false
  t_str_History : PySem.W.kitOne g.K (.type "str") (.ref g.History) = some false
  t_dict_History : PySem.W.kitOne g.K (.type "dict") (.ref g.History) = some false
def tab_FORMS : List (Str × P) := [("come", .tup [.str "house", .str "house"]), ("go", .tup [.str "number"]), ("ask", .tup [.str "house", .str "house"])]
def m_is_integer (g : G) : List D → Store → R D := mBody 1 ((mRet (mAnd (mCall (aIsi g.K g.CS) (mCons (mVar 0) (mCons (mC (.con (.ty "int"))) mNil))) (mNot (mCall (aIsi g.K g.CS) (mCons (mVar 0) (mCons (mC (.con (.ty "bool"))) mNil)))))))
def m_word_of (g : G) : List D → Store → R D := mBody 1 ((mSeq (mIfS (mOrT (mNotT (mTst (mCall (aIsi g.K g.CS) (mCons (mVar 0) (mCons (mC (.con (.ty "tuple"))) mNil))))) (mOrT (mTst (mOp aEq (mCall aLen (mCons (mVar 0) mNil)) (mC (.int 0)))) (mNotT (mTst (mCall (aIsi g.K g.CS) (mCons (mOp aIx (mVar 0) (mC (.int 0))) (mCons (mC (.con (.ty "str"))) mNil))))))) (mRet (mC .non)) mNext)
      (mRet (mOp aIx (mVar 0) (mC (.int 0))))))
def m_History_eq (g : G) : List D → Store → R D := mBody 2 ((mRet (mAnd (mCall (aIsi g.K g.CS) (mCons (mVar 1) (mCons (mC (.con (.ref g.History))) mNil))) (mAnd (mOp aEq (mFld g.FL "many" (mVar 0)) (mFld g.FL "many" (mVar 1))) (mOp aEq (mFld g.FL "deeds" (mVar 0)) (mFld g.FL "deeds" (mVar 1)))))))
def m_lives (g : G) : List D → Store → R D := mBody 6 ((mSeq (mAsg (mTrk (mLst mNil)) (gmName 1))
      (mSeq (mFor (mEnum (mCons (mFld g.FL "deeds" (mVar 0)) mNil)) (gmTup 2 (gmCons (gmName 2) (gmCons (gmName 3) gmNil))) (mIfS (mTst (mOp aEq (mOp aIx (mVar 3) (mC (.int 0))) (mC (.str "come")))) (mDrop (mBM "list" (updL fAppend) (mVar 1) (mCons (mTup (mCons (mVar 2) (mCons (mC .non) mNil))) mNil))) (mIfS (mTst (mOp aEq (mOp aIx (mVar 3) (mC (.int 0))) (mC (.str "go")))) (mSeq (mAsg (mOp aIx (mVar 1) (mOp aIx (mVar 3) (mC (.int 1)))) (gmTup 2 (gmCons (gmName 4) (gmCons (gmName 5) gmNil))))
      (mAsg (mTup (mCons (mVar 4) (mCons (mVar 2) mNil))) (gmSub (mVar 1) (mOp aIx (mVar 3) (mC (.int 1)))))) mNext)))
      (mRet (mCall aTuple (mCons (mVar 1) mNil))))))
def m_with_tie (g : G) : List D → Store → R D := mBody 4 ((mRet (mFrz (mLc (mWalk (mVar 0)) (gmName 3) mYes (mIf (mTst (mOp aEq (mVar 3) (mOp aIx (mVar 0) (mVar 2)))) (mOp aIx (mVar 0) (mVar 1)) (mVar 3)) [3]))))
def m_L_parts_by (g : G) : List D → Store → R D := mBody 7 ((mSeq (mAsg (mFrz (mListRg1 (mVar 0))) (gmName 2))
      (mSeq (mFor (mWalk (mVar 1)) (gmName 3) (mSeq (mAsg (mTup (mCons (mOp aIx (mVar 2) (mOp aIx (mVar 3) (mC (.int 0)))) (mCons (mOp aIx (mVar 2) (mOp aIx (mVar 3) (mC (.int 1)))) mNil))) (gmTup 2 (gmCons (gmName 4) (gmCons (gmName 5) gmNil))))
      (mAsg (mFrz (mLc (mWalk (mVar 2)) (gmName 6) mYes (mIf (mTst (mOp aIn (mVar 6) (mTup (mCons (mVar 4) (mCons (mVar 5) mNil))))) (mCall aMin (mCons (mVar 4) (mCons (mVar 5) mNil))) (mVar 6)) [6])) (gmName 2))))
      (mRet (mVar 2)))))
def m_L_hand (g : G) : List D → Store → R D := mBody 3 ((mSeq (mAsg (mFrz (mLc (mWalk (mSl (mVar 0) moN (moS (mC (.int 63))))) (gmName 2) mYes (mCall aAbs (mCons (mCall aInt (mCons (mVar 2) mNil)) mNil)) [2])) (gmName 1))
      (mRet (mTrk (mLst (mCons (mVar 1) (mCons (mC (.int 0)) (mCons (mC (.int 0)) (mCons (mOp aAdd (mC (.int 1)) (mCall aLen (mCons (mVar 1) mNil))) (mCons (mC (.int 0)) mNil))))))))))
def m_L_draw (g : G) : List D → Store → R D := mBody 5 ((mSeq (mIfS (mAndT (mTst (mOp aEq (mOp aIx (mVar 0) (mC (.int 2))) (mC (.int 0)))) (mTst (mOp aLt (mOp aIx (mVar 0) (mC (.int 1))) (mCall aLen (mCons (mOp aIx (mVar 0) (mC (.int 0))) mNil))))) (mSeq (mAsg (mOp aIx (mOp aIx (mVar 0) (mC (.int 0))) (mOp aIx (mVar 0) (mC (.int 1)))) (gmName 2))
      (mSeq (mAsg (mOp aAdd (mOp aIx (mVar 0) (mC (.int 1))) (mC (.int 1))) (gmSub (mVar 0) (mC (.int 1))))
      (mSeq (mAsg (mOp aMod (mCall aInt (mCons (mOp aAdd (mOp aAdd (mOp aMul (mOp aIx (mVar 0) (mC (.int 3))) (mC (.int 69621))) (mVar 2)) (mC (.int 11))) mNil)) (mC (.int 2147483629))) (gmSub (mVar 0) (mC (.int 3))))
      (mIfS (mTst (mOp aGe (mVar 2) (mOp aPow (mC (.int 10)) (mC (.int 18))))) (mAsg (mVar 2) (gmSub (mVar 0) (mC (.int 2)))) mNext)))) mNext)
      (mSeq (mIfS (mTst (mOp aGt (mOp aIx (mVar 0) (mC (.int 2))) (mC (.int 0)))) (mSeq (mAsg (mOp aMod (mCall aInt (mCons (mOp aIx (mVar 0) (mC (.int 2))) mNil)) (mVar 1)) (gmName 3))
      (mSeq (mAsg (mOp aDiv (mOp aIx (mVar 0) (mC (.int 2))) (mVar 1)) (gmSub (mVar 0) (mC (.int 2))))
      (mRet (mVar 3)))) mNext)
      (mSeq (mAsg (mOp aAdd (mOp aIx (mVar 0) (mC (.int 4))) (mC (.int 1))) (gmSub (mVar 0) (mC (.int 4))))
      (mSeq (mAsg (mOp aMod (mCall aInt (mCons (mOp aMul (mCall aInt (mCons (mOp aAdd (mOp aIx (mVar 0) (mC (.int 3))) (mOp aMul (mC (.int 7919)) (mOp aIx (mVar 0) (mC (.int 4))))) mNil)) (mC (.int 48271))) mNil)) (mC (.int 2147483647))) (gmName 4))
      (mSeq (mAsg (mOp aMod (mCall aInt (mCons (mOp aMul (mVar 4) (mOp aAdd (mOp aDiv (mVar 4) (mC (.int 1009))) (mC (.int 69621)))) mNil)) (mC (.int 2147483647))) (gmName 4))
      (mSeq (mAsg (mOp aMod (mCall aInt (mCons (mOp aMul (mVar 4) (mOp aAdd (mOp aDiv (mVar 4) (mC (.int 2003))) (mC (.int 40692)))) mNil)) (mC (.int 2147483399))) (gmName 4))
      (mRet (mOp aMod (mCall aInt (mCons (mOp aDiv (mVar 4) (mC (.int 16))) mNil)) (mVar 1))))))))))
def m_L_lives (g : G) : List D → Store → R D := mBody 4 ((mSeq (mAsg (mTrk (mLst mNil)) (gmName 1))
      (mSeq (mFor (mEnum (mCons (mVar 0) mNil)) (gmTup 2 (gmCons (gmName 2) (gmCons (gmName 3) gmNil))) (mSeq (mIfS (mTst (mOp aEq (mOp aIx (mVar 3) (mC (.int 0))) (mC (.str "come")))) (mDrop (mBM "list" (updL fAppend) (mVar 1) (mCons (mTup (mCons (mOp aIx (mVar 3) (mC (.int 1))) (mCons (mOp aIx (mVar 3) (mC (.int 2))) (mCons (mVar 2) (mCons (mC .non) mNil))))) mNil))) mNext)
      (mIfS (mTst (mOp aEq (mOp aIx (mVar 3) (mC (.int 0))) (mC (.str "go")))) (mAsg (mOp aAdd (mSl (mOp aIx (mVar 1) (mOp aIx (mVar 3) (mC (.int 1)))) moN (moS (mC (.int 3)))) (mTup (mCons (mVar 2) mNil))) (gmSub (mVar 1) (mOp aIx (mVar 3) (mC (.int 1))))) mNext)))
      (mRet (mVar 1)))))
def m_L_there (g : G) : List D → Store → R D := mBody 4 ((mRet (mFrz (mLc (mEnum (mCons (mVar 0) mNil)) (gmTup 2 (gmCons (gmName 2) (gmCons (gmName 3) gmNil))) (mAndT (mTst (mOp aLt (mOp aIx (mVar 3) (mC (.int 2))) (mVar 1))) (mOrT (mTst (mOp aIsN (mOp aIx (mVar 3) (mC (.int 3))) (mC .non))) (mTst (mOp aGe (mOp aIx (mVar 3) (mC (.int 3))) (mVar 1))))) (mVar 2) [2, 3]))))
def m_is_between (g : G) : List D → Store → R D := mBody 3 ((mRet (mAnd (mDef 1 (mPure (m_is_integer g)) (mCons (mVar 2) mNil)) (mChain aLe aLe (mVar 0) (mVar 2) (mVar 1)))))
def m_is_number (g : G) : List D → Store → R D := mBody 1 ((mRet (mAnd (mDef 1 (mPure (m_is_integer g)) (mCons (mVar 0) mNil)) (mOp aGe (mVar 0) (mC (.int 0))))))
def m_there (g : G) : List D → Store → R D := mBody 6 ((mSeq (mAsg (mTrk (mLst mNil)) (gmName 2))
      (mSeq (mFor (mEnum (mCons (mDef 1 (mPure (m_lives g)) (mCons (mVar 0) mNil)) mNil)) (gmTup 2 (gmCons (gmName 3) (gmCons (gmTup 2 (gmCons (gmName 4) (gmCons (gmName 5) gmNil))) gmNil))) (mIfS (mAndT (mTst (mOp aLt (mVar 4) (mVar 1))) (mOrT (mTst (mOp aIsN (mVar 5) (mC .non))) (mTst (mOp aGe (mVar 5) (mVar 1))))) (mDrop (mBM "list" (updL fAppend) (mVar 2) (mCons (mTup (mCons (mVar 3) (mCons (mOp aIx (mOp aIx (mFld g.FL "deeds" (mVar 0)) (mVar 4)) (mC (.int 1))) (mCons (mOp aIx (mOp aIx (mFld g.FL "deeds" (mVar 0)) (mVar 4)) (mC (.int 2))) mNil)))) mNil))) mNext))
      (mRet (mVar 2)))))
def m_L_history (g : G) : List D → Store → R D := mBody 9 ((mSeq (mAsg (mOp aIx (mFrz (mLst (mCons (mC (.int 1)) (mCons (mC (.int 2)) (mCons (mC (.int 3)) (mCons (mC (.int 4)) (mCons (mC (.int 5)) (mCons (mC (.int 7)) (mCons (mC (.int 24)) mNil))))))))) (mDef 2 (mScope (m_L_draw g)) (mCons (mVar 0) (mCons (mC (.int 7)) mNil)))) (gmName 1))
      (mSeq (mAsg (mTrk (mLst mNil)) (gmName 2))
      (mSeq (mAsg (mTrk (mLst mNil)) (gmName 3))
      (mSeq (mAsg (mC (.int 0)) (gmName 4))
      (mSeq (mFor (mRng1 (mCons (mDef 2 (mScope (m_L_draw g)) (mCons (mVar 0) (mCons (mOp aIx (mFrz (mLst (mCons (mC (.int 9)) (mCons (mC (.int 20)) (mCons (mC (.int 30)) (mCons (mC (.int 61)) mNil)))))) (mDef 2 (mScope (m_L_draw g)) (mCons (mVar 0) (mCons (mC (.int 4)) mNil)))) mNil))) mNil)) (gmName 5) (mSeq (mAsg (mDef 2 (mScope (m_L_draw g)) (mCons (mVar 0) (mCons (mC (.int 7)) mNil))) (gmName 6))
      (mSeq (mPar 7 8 (mCons (mDef 2 (mScope (m_L_draw g)) (mCons (mVar 0) (mCons (mVar 1) mNil))) (mCons (mDef 2 (mScope (m_L_draw g)) (mCons (mVar 0) (mCons (mVar 1) mNil))) mNil)))
      (mIfS (mAndT (mTst (mOp aLt (mVar 6) (mC (.int 3)))) (mAndT (mTst (mOp aNe (mVar 7) (mVar 8))) (mTst (mOp aLt (mVar 4) (mC (.int 32)))))) (mSeq (mDrop (mBM "list" (updL fAppend) (mVar 2) (mCons (mTup (mCons (mC (.str "come")) (mCons (mVar 7) (mCons (mVar 8) mNil)))) mNil)))
      (mSeq (mDrop (mBM "list" (updL fAppend) (mVar 3) (mCons (mVar 4) mNil)))
      (mAsg (mOp aAdd (mVar 4) (mC (.int 1))) (gmName 4)))) (mIfS (mAndT (mTst (mOp aLt (mVar 6) (mC (.int 5)))) (mTst (mOp aGt (mCall aLen (mCons (mVar 3) mNil)) (mC (.int 0))))) (mDrop (mBM "list" (updL fAppend) (mVar 2) (mCons (mTup (mCons (mC (.str "go")) (mCons (mBM "list" (updL fPopAt) (mVar 3) (mCons (mDef 2 (mScope (m_L_draw g)) (mCons (mVar 0) (mCons (mCall aLen (mCons (mVar 3) mNil)) mNil))) mNil)) mNil))) mNil))) (mDrop (mBM "list" (updL fAppend) (mVar 2) (mCons (mTup (mCons (mC (.str "ask")) (mCons (mVar 7) (mCons (mVar 8) mNil)))) mNil))))))))
      (mRet (mTup (mCons (mVar 1) (mCons (mCall aTuple (mCons (mVar 2) mNil)) mNil))))))))))
def m_L_longest (g : G) : List D → Store → R D := mBody 9 ((mSeq (mAsg (mFrz (mSort false (mCons (mFrz (mLc (mWalk (mVar 2)) (gmName 4) mYes (mTup (mCons (mIf (mTst (mOp aIsN (mOp aIx (mOp aIx (mVar 1) (mVar 4)) (mC (.int 3))) (mC .non))) (mC (.int 0)) (mOp aSub (mC (.int 100)) (mOp aIx (mOp aIx (mVar 1) (mVar 4)) (mC (.int 3))))) (mCons (mVar 4) mNil))) [4])) mNil))) (gmName 3))
      (mSeq (mAsg (mTrk (mLst mNil)) (gmName 5))
      (mSeq (mFor (mWalk (mVar 3)) (gmTup 2 (gmCons (gmName 6) (gmCons (gmName 4) gmNil))) (mSeq (mAsg (mDef 2 (mPure (m_L_parts_by g)) (mCons (mVar 0) (mCons (mFrz (mLc (mWalk (mVar 5)) (gmName 8) mYes (mOp aIx (mVar 1) (mVar 8)) [8])) mNil))) (gmName 7))
      (mIfS (mTst (mOp aNe (mOp aIx (mVar 7) (mOp aIx (mOp aIx (mVar 1) (mVar 4)) (mC (.int 0)))) (mOp aIx (mVar 7) (mOp aIx (mOp aIx (mVar 1) (mVar 4)) (mC (.int 1)))))) (mDrop (mBM "list" (updL fAppend) (mVar 5) (mCons (mVar 4) mNil))) mNext)))
      (mRet (mCall aTuple (mCons (mFrz (mSort false (mCons (mVar 5) mNil))) mNil)))))))
def m_L_till (g : G) : List D → Store → R D := mBody 11 ((mSeq (mAsg (mFrz (mList (mCons (mVar 2) mNil))) (gmName 5))
      (mSeq (mAsg (mFrz (mSort false (mCons (mFrz (mLc (mWalk (mVar 2)) (gmName 7) (mTst (mOp aNotN (mOp aIx (mOp aIx (mVar 1) (mVar 7)) (mC (.int 3))) (mC .non))) (mOp aIx (mOp aIx (mVar 1) (mVar 7)) (mC (.int 3))) [7])) mNil))) (gmName 6))
      (mSeq (mAsg (mUn aNeg (mC (.int 1))) (gmName 8))
      (mSeq (mFor (mRng1 (mCons (mOp aAdd (mCall aLen (mCons (mVar 6) mNil)) (mC (.int 1))) mNil)) (gmName 9) (mSeq (mAsg (mDef 2 (mPure (m_L_parts_by g)) (mCons (mVar 0) (mCons (mFrz (mLc (mWalk (mVar 5)) (gmName 7) mYes (mOp aIx (mVar 1) (mVar 7)) [7])) mNil))) (gmName 10))
      (mSeq (mIfS (mTst (mOp aNe (mOp aIx (mVar 10) (mVar 3)) (mOp aIx (mVar 10) (mVar 4)))) (mRet (mVar 8)) mNext)
      (mIfS (mTst (mOp aLt (mVar 9) (mCall aLen (mCons (mVar 6) mNil)))) (mSeq (mAsg (mOp aIx (mVar 6) (mVar 9)) (gmName 8))
      (mAsg (mFrz (mLc (mWalk (mVar 5)) (gmName 7) (mTst (mOp aNe (mOp aIx (mOp aIx (mVar 1) (mVar 7)) (mC (.int 3))) (mVar 8))) (mVar 7) [7])) (gmName 5))) mNext))))
      (mRet (mC .non)))))))
def m_is_house (g : G) : List D → Store → R D := mBody 2 ((mRet (mDef 3 (mPure (m_is_between g)) (mCons (mC (.int 0)) (mCons (mOp aSub (mVar 0) (mC (.int 1))) (mCons (mVar 1) mNil))))))
def m_need_moment (g : G) : List D → Store → R D := mBody 2 ((mIfS (mNotT (mTst (mDef 3 (mPure (m_is_between g)) (mCons (mC (.int 0)) (mCons (mCall aLen (mCons (mFld g.FL "deeds" (mVar 0)) mNil)) (mCons (mVar 1) mNil)))))) (mRaise0 g.NoMoment) mNext))
def m_longest_first (g : G) : List D → Store → R D := mBody 7 ((mSeq (mAsg (mDef 1 (mPure (m_lives g)) (mCons (mVar 0) mNil)) (gmName 2))
      (mSeq (mAsg (mFrz (mLc (mWalk (mDef 2 (mPure (m_there g)) (mCons (mVar 0) (mCons (mVar 1) mNil)))) (gmName 4) (mTst (mOp aIsN (mOp aIx (mOp aIx (mVar 2) (mOp aIx (mVar 4) (mC (.int 0)))) (mC (.int 1))) (mC .non))) (mVar 4) [4])) (gmName 3))
      (mSeq (mAsg (mFrz (mLc (mWalk (mDef 2 (mPure (m_there g)) (mCons (mVar 0) (mCons (mVar 1) mNil)))) (gmName 4) (mTst (mOp aNotN (mOp aIx (mOp aIx (mVar 2) (mOp aIx (mVar 4) (mC (.int 0)))) (mC (.int 1))) (mC .non))) (mTup (mCons (mOp aIx (mOp aIx (mVar 2) (mOp aIx (mVar 4) (mC (.int 0)))) (mC (.int 1))) (mCons (mVar 4) mNil))) [4])) (gmName 5))
      (mRet (mOp aAdd (mVar 3) (mFrz (mLc (mWalk (mFrz (mSort true (mCons (mVar 5) mNil)))) (gmTup 2 (gmCons (gmName 6) (gmCons (gmName 4) gmNil))) mYes (mVar 4) [6, 4]))))))))
def m_is_of (g : G) : List D → Store → R D := mBody 3 ((mSeq (mIfS (mTst (mOp aEq (mVar 2) (mC (.str "house")))) (mRet (mDef 2 (mPure (m_is_house g)) (mCons (mVar 0) (mCons (mVar 1) mNil)))) mNext)
      (mSeq (mIfS (mTst (mOp aEq (mVar 2) (mC (.str "number")))) (mRet (mDef 1 (mPure (m_is_number g)) (mCons (mVar 1) mNil))) mNext)
      (mSeq (mIfS (mTst (mOp aEq (mVar 2) (mC (.str "integer")))) (mRet (mDef 1 (mPure (m_is_integer g)) (mCons (mVar 1) mNil))) mNext)
      (mRet (mAnd (mCall (aIsi g.K g.CS) (mCons (mVar 1) (mCons (mC (.con (.ty "str"))) mNil))) (mOp aIn (mVar 1) (mTup (mCons (mC (.str "least")) (mCons (mC (.str "greatest")) mNil))))))))))
def m_kept_then (g : G) : List D → Store → R D := mBody 7 ((mSeq (mDrop (mDef 2 (mPure (m_need_moment g)) (mCons (mVar 0) (mCons (mVar 1) mNil))))
      (mSeq (mAsg (mTrk (mLst mNil)) (gmName 2))
      (mSeq (mAsg (mFrz (mListRg1 (mFld g.FL "many" (mVar 0)))) (gmName 3))
      (mSeq (mFor (mWalk (mDef 2 (mPure (m_longest_first g)) (mCons (mVar 0) (mCons (mVar 1) mNil)))) (gmTup 3 (gmCons (gmName 4) (gmCons (gmName 5) (gmCons (gmName 6) gmNil)))) (mIfS (mTst (mOp aNe (mOp aIx (mVar 3) (mVar 5)) (mOp aIx (mVar 3) (mVar 6)))) (mSeq (mDrop (mBM "list" (updL fAppend) (mVar 2) (mCons (mVar 4) mNil)))
      (mAsg (mDef 3 (mPure (m_with_tie g)) (mCons (mVar 3) (mCons (mVar 5) (mCons (mVar 6) mNil)))) (gmName 3))) mNext))
      (mRet (mCall aTuple (mCons (mFrz (mSort false (mCons (mVar 2) mNil))) mNil))))))))
def m_joined_till (g : G) : List D → Store → R D := mBody 8 ((mSeq (mDrop (mDef 2 (mPure (m_need_moment g)) (mCons (mVar 0) (mCons (mVar 1) mNil))))
      (mSeq (mIfS (mOrT (mNotT (mTst (mDef 2 (mPure (m_is_house g)) (mCons (mFld g.FL "many" (mVar 0)) (mCons (mVar 2) mNil))))) (mNotT (mTst (mDef 2 (mPure (m_is_house g)) (mCons (mFld g.FL "many" (mVar 0)) (mCons (mVar 3) mNil)))))) (mRaise0 g.NoHouse) mNext)
      (mSeq (mIfS (mTst (mOp aEq (mVar 2) (mVar 3))) (mRet (mC .non)) mNext)
      (mSeq (mAsg (mFrz (mListRg1 (mFld g.FL "many" (mVar 0)))) (gmName 4))
      (mSeq (mFor (mWalk (mDef 2 (mPure (m_longest_first g)) (mCons (mVar 0) (mCons (mVar 1) mNil)))) (gmTup 3 (gmCons (gmName 5) (gmCons (gmName 6) (gmCons (gmName 7) gmNil)))) (mSeq (mAsg (mDef 3 (mPure (m_with_tie g)) (mCons (mVar 4) (mCons (mVar 6) (mCons (mVar 7) mNil)))) (gmName 4))
      (mIfS (mTst (mOp aEq (mOp aIx (mVar 4) (mVar 2)) (mOp aIx (mVar 4) (mVar 3)))) (mRet (mOp aIx (mOp aIx (mDef 1 (mPure (m_lives g)) (mCons (mVar 0) mNil)) (mVar 5)) (mC (.int 1)))) mNext)))
      (mRet (mUn aNeg (mC (.int 1))))))))))
def m_fit (g : G) : List D → Store → R D := mBody 5 ((mSeq (mIfS (mTst (mOp aNe (mCall aLen (mCons (mVar 1) mNil)) (mCall aLen (mCons (mVar 2) mNil)))) (mRet (mC (.bl false))) mNext)
      (mRet (mCall aAll (mCons (mFrz (mLc (mZip (mCons (mVar 1) (mCons (mVar 2) mNil))) (gmTup 2 (gmCons (gmName 3) (gmCons (gmName 4) gmNil))) mYes (mDef 3 (mPure (m_is_of g)) (mCons (mVar 0) (mCons (mVar 3) (mCons (mVar 4) mNil)))) [3, 4])) mNil)))))
def m_can_be_next (g : G) : List D → Store → R D := mBody 5 ((mSeq (mAsg (mDef 1 (mPure (m_word_of g)) (mCons (mVar 3) mNil)) (gmName 4))
      (mSeq (mIfS (mOrT (mTst (mOp (aNotInTab g.FORMS tab_FORMS) (mVar 4) (mC (.con (.ref g.FORMS))))) (mNotT (mTst (mDef 3 (mPure (m_fit g)) (mCons (mVar 0) (mCons (mSl (mVar 3) (moS (mC (.int 1))) moN) (mCons (mOp (aIxTab g.FORMS tab_FORMS) (mC (.con (.ref g.FORMS))) (mVar 4)) mNil))))))) (mRet (mC (.bl false))) mNext)
      (mSeq (mIfS (mTst (mOp aEq (mVar 4) (mC (.str "come")))) (mRet (mAnd (mOp aNe (mOp aIx (mVar 3) (mC (.int 1))) (mOp aIx (mVar 3) (mC (.int 2)))) (mOp aLt (mVar 1) (mC (.int 32))))) mNext)
      (mRet (mOr (mOp aEq (mVar 4) (mC (.str "ask"))) (mOp aIn (mOp aIx (mVar 3) (mC (.int 1))) (mVar 2))))))))
def m_History_init (g : G) : List D → Store → R D := mBody 7 ((mSeq (mIfS (mNotT (mTst (mDef 3 (mPure (m_is_between g)) (mCons (mC (.int 1)) (mCons (mC (.int 24)) (mCons (mVar 1) mNil)))))) (mRaise0 g.NoNumber) mNext)
      (mSeq (mIfS (mOrT (mNotT (mTst (mCall (aIsi g.K g.CS) (mCons (mVar 2) (mCons (mC (.con (.ty "tuple"))) mNil))))) (mTst (mOp aGt (mCall aLen (mCons (mVar 2) mNil)) (mC (.int 60))))) (mRaise1 g.BadHistory "index" (mCons (mUn aNeg (mC (.int 1))) mNil)) mNext)
      (mSeq (mAsg (mC (.int 0)) (gmName 3))
      (mSeq (mAsg (mTrk (mLst mNil)) (gmName 4))
      (mSeq (mFor (mEnum (mCons (mVar 2) mNil)) (gmTup 2 (gmCons (gmName 5) (gmCons (gmName 6) gmNil))) (mSeq (mIfS (mNotT (mTst (mDef 4 (mScope (m_can_be_next g)) (mCons (mVar 1) (mCons (mVar 3) (mCons (mVar 4) (mCons (mVar 6) mNil))))))) (mRaise1 g.BadHistory "index" (mCons (mVar 5) mNil)) mNext)
      (mIfS (mTst (mOp aEq (mOp aIx (mVar 6) (mC (.int 0))) (mC (.str "come")))) (mSeq (mDrop (mBM "list" (updL fAppend) (mVar 4) (mCons (mVar 3) mNil)))
      (mAug 3 aAddI (mC (.int 1)))) (mIfS (mTst (mOp aEq (mOp aIx (mVar 6) (mC (.int 0))) (mC (.str "go")))) (mDrop (mBM "list" (updL fRemI) (mVar 4) (mCons (mOp aIx (mVar 6) (mC (.int 1))) mNil))) mNext))))
      (mSeq (mSetF g.FL "many" (mVar 0) (mVar 1))
      (mSetF g.FL "deeds" (mVar 0) (mVar 2)))))))))
def m_L_is (g : G) : Nat → List D → Store → R D
  | 0 => fun _ _ => .fail
  | d + 1 => mBody 4 ((mSeq (mIfS (mTst (mCall (aIsiT g.K g.CS) (mCons (mVar 1) (mCons (mTup (mCons (mC (.con (.ty "tuple"))) (mCons (mC (.con (.ty "list"))) mNil))) mNil)))) (mSeq (mIfS (mOrT (mTst (mOp aNe (mCall (aIsi g.K g.CS) (mCons (mVar 0) (mCons (mC (.con (.ty "tuple"))) mNil))) (mCall (aIsi g.K g.CS) (mCons (mVar 1) (mCons (mC (.con (.ty "tuple"))) mNil))))) (mNotT (mTst (mCall (aIsiT g.K g.CS) (mCons (mVar 0) (mCons (mTup (mCons (mC (.con (.ty "tuple"))) (mCons (mC (.con (.ty "list"))) mNil))) mNil)))))) (mRet (mC (.bl false))) mNext)
      (mRet (mAnd (mOp aEq (mCall aLen (mCons (mVar 0) mNil)) (mCall aLen (mCons (mVar 1) mNil))) (mCall aAll (mCons (mFrz (mLc (mZip (mCons (mVar 0) (mCons (mVar 1) mNil))) (gmTup 2 (gmCons (gmName 2) (gmCons (gmName 3) gmNil))) mYes (mDef 2 (mPure (m_L_is g d)) (mCons (mVar 2) (mCons (mVar 3) mNil))) [2, 3])) mNil))))) mNext)
      (mRet (mAnd (mOp aEq (mCall (aIsi g.K g.CS) (mCons (mVar 0) (mCons (mC (.con (.ty "bool"))) mNil))) (mCall (aIsi g.K g.CS) (mCons (mVar 1) (mCons (mC (.con (.ty "bool"))) mNil)))) (mOp aEq (mVar 0) (mVar 1))))))
def m_law (g : G) : List D → Store → R D := mBody 12 ((mSeq (mAsg (mDef 1 (m_L_hand g) (mCons (mVar 0) mNil)) (gmName 1))
      (mSeq (mAsg (mDef 1 (mScope (m_L_history g)) (mCons (mVar 1) mNil)) (gmTup 2 (gmCons (gmName 2) (gmCons (gmName 3) gmNil))))
      (mSeq (mAsg (mDef 2 (mPure (mkC g.History (m_History_init g))) (mCons (mVar 2) (mCons (mVar 3) mNil))) (gmName 4))
      (mSeq (mAsg (mDef 1 (mPure (m_L_lives g)) (mCons (mVar 3) mNil)) (gmName 5))
      (mSeq (mFor (mRng1 (mCons (mC (.int 2)) mNil)) (gmName 6) (mSeq (mAsg (mOp aIx (mFrz (mLst (mCons (mCall aLen (mCons (mVar 3) mNil)) (mCons (mC (.int 0)) (mCons (mDef 2 (mScope (m_L_draw g)) (mCons (mVar 1) (mCons (mOp aAdd (mCall aLen (mCons (mVar 3) mNil)) (mC (.int 1))) mNil))) (mCons (mDef 2 (mScope (m_L_draw g)) (mCons (mVar 1) (mCons (mOp aAdd (mCall aLen (mCons (mVar 3) mNil)) (mC (.int 1))) mNil))) mNil)))))) (mOp aAdd (mOp aMul (mC (.int 2)) (mVar 6)) (mDef 2 (mScope (m_L_draw g)) (mCons (mVar 1) (mCons (mC (.int 2)) mNil))))) (gmName 7))
      (mSeq (mAsg (mDef 2 (mPure (m_L_there g)) (mCons (mVar 5) (mCons (mVar 7) mNil))) (gmName 8))
      (mSeq (mIfS (mNotT (mTst (mDef 2 (mPure (m_L_is g 60)) (mCons (mDef 2 (mPure (m_kept_then g)) (mCons (mVar 4) (mCons (mVar 7) mNil))) (mCons (mDef 3 (mPure (m_L_longest g)) (mCons (mVar 2) (mCons (mVar 5) (mCons (mVar 8) mNil)))) mNil))))) (mRet (mC (.bl false))) mNext)
      (mFor (mRng1 (mCons (mC (.int 2)) mNil)) (gmName 9) (mSeq (mPar 10 11 (mCons (mDef 2 (mScope (m_L_draw g)) (mCons (mVar 1) (mCons (mVar 2) mNil))) (mCons (mDef 2 (mScope (m_L_draw g)) (mCons (mVar 1) (mCons (mVar 2) mNil))) mNil)))
      (mIfS (mNotT (mTst (mDef 2 (mPure (m_L_is g 60)) (mCons (mFrz (mLst (mCons (mDef 4 (mPure (m_joined_till g)) (mCons (mVar 4) (mCons (mVar 7) (mCons (mVar 10) (mCons (mVar 11) mNil))))) mNil))) (mCons (mFrz (mLst (mCons (mDef 5 (mPure (m_L_till g)) (mCons (mVar 2) (mCons (mVar 5) (mCons (mVar 8) (mCons (mVar 10) (mCons (mVar 11) mNil)))))) mNil))) mNil))))) (mRet (mC (.bl false))) mNext)))))))
      (mRet (mC (.bl true)))))))))
end
end W3
local macro_rules | `(tactic| decreasing_trivial) => `(tactic| omega)
namespace PySem
namespace XNoHouse
open PySem.W PySem.Calls PyProof.Rows PySem.HandSPX
def iA (p1 : Pos) : Arguments := { posonlyargs := [], args := [{ arg := "self", annotation := none, pos := p1 }], vararg := none, kwonlyargs := [], kw_defaults := [], kwarg := none, defaults := [] }
def iB (q1 : Pos) : List Stmt := [.Pass q1]
def iS : Scope := { kind := .function, names := [(PySem.Str.ofString "self", .local)], isGenerator := false, isCoroutine := false, more := [] }
structure TxtNoHouse (K : Frag) (mg : Str → Option Value) (C fI : Addr) : Prop where
  gC : mg "NoHouse" = some (.ref C)
  cls : ∃ nm q N bs bm sn sub ab col dd k0 k1 k2 k3 k5, K.lookup C = some (excClassObj nm q C N bs bm true sn sub ab col dd k0 k1 k2 k3 k5 "ValueError.__new__") ∧ refsVE bm = true
  iC : findIn K (.ref C) "__init__" = some (some (.ref fI))
  tC : typeIn K (.ref fI) = some (.type "function")
  kC : keepIn K (.ref C) = true
  exC : subIn K (.ref C) (.type "BaseException") = some true
  tyC : typeIn K (.ref C) = some (.type "type")
  te : exmOne K (.ref C) (.ref C) = some true
  fn : ∃ (oc : Value) (od : Option Addr) (doc pm : Value) (an : Option Addr) (cdv ct : Value) (osl : Array (Option Value)) (p1 q1 : Pos),
    K.lookup fI = some ⟨oc, od, .func (fnOf "__init__" "NoHouse.__init__" (iA p1) (iB q1) iS .none .none doc pm an cdv ct), osl⟩ ∧ codeIn K cdv "NoHouse.__init__" = true
section
variable {prog : Program} {w : World} {A : Around} {E : Value → Shared → Prop} {R : Result → Shared → Prop} {s : Shared} {K : Frag} {mg : Str → Option Value} {C fI : Addr}
theorem low_init (T : TxtNoHouse K mg C fI) {x : Addr} (X : K.In s.heap) (hlim : s.heap.NoLimit) (hroom : A.depth < recursionLimit)
    (hq : ∀ h' tk, (∀ b o, s.heap.get? b = some o → h'.get? b = some o) → R (.ok (.ret .none)) { s with heap := h', toks := tk }) :
    codeAny (model prog w) A (.call (.ref fI) ⟨[.ref x], []⟩) R s := by
  obtain ⟨oc, od, doc, pm, an, cdv, ct, osl, p1, q1, ho, hcd⟩ := T.fn
  refine Att.call_fn (binds := [("self", .ref x)]) X hlim ho hcd hroom (BindsTo.of_eq (by first | rfl | with_unfolding_all rfl)) (by first | rfl | decide | with_unfolding_all rfl) (fun s₁ IC => ?_) rfl rfl rfl
  obtain ⟨h₁, tk₁, rfl⟩ := IC.toInCall.same
  have k : ∀ b o, s.heap.get? b = some o → h₁.get? b = some o := IC.toInCall.keep
  show wpAny _ _ (execs _ _) _ _ _
  refine wpAny_execs_cons (wpAny_Pass ?_)
  show wpAny _ _ (execs _ _) _ _ _
  exact wpAny_execs_nil (hq h₁ tk₁ k)
theorem low_made (T : TxtNoHouse K mg C fI) (X : K.In s.heap) (hlim : s.heap.NoLimit) (hroom : A.depth + 1 < recursionLimit)
    (hq : ∀ h' tk e t1, (∀ b o, s.heap.get? b = some o → h'.get? b = some o) → s.heap.objs.size ≤ e → h'.get? e = some (excO C t1) → R (.ok (.ret (.ref e))) { s with heap := h', toks := tk }) :
    codeAny (model prog w) A (.call (.ref C) ⟨[], []⟩) R s := by
  obtain ⟨nm, q, N, bs, bm, sn, sub, ab, col, dd, k0, k1, k2, k3, k5, hC, hbm⟩ := T.cls
  obtain ⟨hp, g, dr, tk, os⟩ := s
  have k : ∀ b o, hp.get? b = some o → ((hp.push (kdv_tup [])).push (excO C hp.objs.size)).get? b = some o := fun b o e => Heap.get?_push_of_some _ (Heap.get?_push_of_some _ e)
  have hget : ((hp.push (kdv_tup [])).push (excO C hp.objs.size)).get? (hp.objs.size + 1) = some (excO C hp.objs.size) := by heap_get
  refine call_own F.excBase_ValueError (fun X => refsVE_contains X bm hbm) (X _ _ hC) (looks_findIn X T.iC) (fun self => bind_fn X self T.tC) (Nat.zero_le _) ?_
  refine low_init (s := ⟨(hp.push (kdv_tup [])).push (excO C hp.objs.size), g, dr, tk, os⟩) T (X.keeps k) (hlim.keeps k) ?_ fun h' tk' k' => ?_
  · show A.depth + 1 < recursionLimit
    exact hroom
  · exact ⟨rfl, hq h' tk' (hp.objs.size + 1) hp.objs.size (fun b o e => k' b o (k b o e)) (Nat.le_succ _) (k' _ _ hget)⟩
end
end XNoHouse
end PySem
namespace L2
open PySem PySem.Spec PyProof.Rows
section
variable {X : Cx} {C fI : Addr}
theorem pmk__NoHouse {p pos : Pos} {k : Nat} (T : PySem.XNoHouse.TxtNoHouse X.K X.mg C fI) (hr : Room k X.A) (hg : Gl X "NoHouse" := by rfl) :
    PMk X (.Call (.Name "NoHouse" p) [] [] pos) (fun _ H Q => Q (.ref C) none H) := by
  intro pins s σ H Q I h
  refine wpAny_Call_Name_kw (ld_glob I hg T.gC ?_)
  refine PySem.W.callWith_K0 I.kIn T.kC ?_
  have hlim := I.nolimit
  have kin := I.kIn
  obtain ⟨hp, g, dr, tk, os⟩ := s
  show wpAny _ _ (call (.ref C) []) _ _ _
  refine wpAny_call (PySem.XNoHouse.low_made T kin hlim (by have := hr.dp; omega) fun h' tk' e t1 kp hnew he => ?_)
  show MkP X pins σ Q (.ref e) ⟨h', g, dr, tk', os⟩
  obtain ⟨G', g1, g2⟩ := restrict h' fun b => decide (b ≠ e)
  have gk : ∀ b, b ≠ e → G'.get? b = h'.get? b := fun b hb => g1 b (decide_eq_true hb)
  have ge : G'.get? e = none := g2 e (by simp)
  have old : ∀ b o, hp.get? b = some o → G'.get? b = some o := fun b o q => (gk b (Nat.ne_of_lt (Nat.lt_of_lt_of_le (Heap.lt_size q) hnew))).trans (kp b o q)
  have J : Inv X pins σ H ⟨G', g, dr, tk', os⟩ := I.kept (t' := tk') old
  refine ⟨e, _, _, ⟨G', g, dr, tk', os⟩, H, .ref C, none, rfl, J, fun b o q => ?_, ge, he, ⟨rfl, rfl⟩, rfl, rfl, I.hok.fresh hnew, rfl, I.bare, raises_own T.exC T.tyC, h⟩
  by_cases hb : b = e
  · have q' : G'.get? b = some o := q
    rw [hb, ge] at q'; cases q'
  · exact (gk b hb).symm.trans q
def tRaise_NoHouse (C : Addr) (W : WX) : TS := fun _ σ H => W (.ref C) none σ H
theorem ps_raise_NoHouse {W : WX} {p pos pos2 : Pos} {k : Nat} (hc : X.calm = true) (T : PySem.XNoHouse.TxtNoHouse X.K X.mg C fI) (hr : Room k X.A) (tk : Takes X W) (hg : Gl X "NoHouse" := by rfl) :
    PS X (.Raise (some (.Call (.Name "NoHouse" p) [] [] pos)) none pos2) (tRaise_NoHouse C W) := ps_raise hc tk (pmk__NoHouse T hr hg)
end
end L2
namespace PySem
namespace XNoNumber
open PySem.W PySem.Calls PyProof.Rows PySem.HandSPX
def iA (p1 : Pos) : Arguments := { posonlyargs := [], args := [{ arg := "self", annotation := none, pos := p1 }], vararg := none, kwonlyargs := [], kw_defaults := [], kwarg := none, defaults := [] }
def iB (q1 : Pos) : List Stmt := [.Pass q1]
def iS : Scope := { kind := .function, names := [(PySem.Str.ofString "self", .local)], isGenerator := false, isCoroutine := false, more := [] }
structure TxtNoNumber (K : Frag) (mg : Str → Option Value) (C fI : Addr) : Prop where
  gC : mg "NoNumber" = some (.ref C)
  cls : ∃ nm q N bs bm sn sub ab col dd k0 k1 k2 k3 k5, K.lookup C = some (excClassObj nm q C N bs bm true sn sub ab col dd k0 k1 k2 k3 k5 "ValueError.__new__") ∧ refsVE bm = true
  iC : findIn K (.ref C) "__init__" = some (some (.ref fI))
  tC : typeIn K (.ref fI) = some (.type "function")
  kC : keepIn K (.ref C) = true
  exC : subIn K (.ref C) (.type "BaseException") = some true
  tyC : typeIn K (.ref C) = some (.type "type")
  te : exmOne K (.ref C) (.ref C) = some true
  fn : ∃ (oc : Value) (od : Option Addr) (doc pm : Value) (an : Option Addr) (cdv ct : Value) (osl : Array (Option Value)) (p1 q1 : Pos),
    K.lookup fI = some ⟨oc, od, .func (fnOf "__init__" "NoNumber.__init__" (iA p1) (iB q1) iS .none .none doc pm an cdv ct), osl⟩ ∧ codeIn K cdv "NoNumber.__init__" = true
section
variable {prog : Program} {w : World} {A : Around} {E : Value → Shared → Prop} {R : Result → Shared → Prop} {s : Shared} {K : Frag} {mg : Str → Option Value} {C fI : Addr}
theorem low_init (T : TxtNoNumber K mg C fI) {x : Addr} (X : K.In s.heap) (hlim : s.heap.NoLimit) (hroom : A.depth < recursionLimit)
    (hq : ∀ h' tk, (∀ b o, s.heap.get? b = some o → h'.get? b = some o) → R (.ok (.ret .none)) { s with heap := h', toks := tk }) :
    codeAny (model prog w) A (.call (.ref fI) ⟨[.ref x], []⟩) R s := by
  obtain ⟨oc, od, doc, pm, an, cdv, ct, osl, p1, q1, ho, hcd⟩ := T.fn
  refine Att.call_fn (binds := [("self", .ref x)]) X hlim ho hcd hroom (BindsTo.of_eq (by first | rfl | with_unfolding_all rfl)) (by first | rfl | decide | with_unfolding_all rfl) (fun s₁ IC => ?_) rfl rfl rfl
  obtain ⟨h₁, tk₁, rfl⟩ := IC.toInCall.same
  have k : ∀ b o, s.heap.get? b = some o → h₁.get? b = some o := IC.toInCall.keep
  show wpAny _ _ (execs _ _) _ _ _
  refine wpAny_execs_cons (wpAny_Pass ?_)
  show wpAny _ _ (execs _ _) _ _ _
  exact wpAny_execs_nil (hq h₁ tk₁ k)
theorem low_made (T : TxtNoNumber K mg C fI) (X : K.In s.heap) (hlim : s.heap.NoLimit) (hroom : A.depth + 1 < recursionLimit)
    (hq : ∀ h' tk e t1, (∀ b o, s.heap.get? b = some o → h'.get? b = some o) → s.heap.objs.size ≤ e → h'.get? e = some (excO C t1) → R (.ok (.ret (.ref e))) { s with heap := h', toks := tk }) :
    codeAny (model prog w) A (.call (.ref C) ⟨[], []⟩) R s := by
  obtain ⟨nm, q, N, bs, bm, sn, sub, ab, col, dd, k0, k1, k2, k3, k5, hC, hbm⟩ := T.cls
  obtain ⟨hp, g, dr, tk, os⟩ := s
  have k : ∀ b o, hp.get? b = some o → ((hp.push (kdv_tup [])).push (excO C hp.objs.size)).get? b = some o := fun b o e => Heap.get?_push_of_some _ (Heap.get?_push_of_some _ e)
  have hget : ((hp.push (kdv_tup [])).push (excO C hp.objs.size)).get? (hp.objs.size + 1) = some (excO C hp.objs.size) := by heap_get
  refine call_own F.excBase_ValueError (fun X => refsVE_contains X bm hbm) (X _ _ hC) (looks_findIn X T.iC) (fun self => bind_fn X self T.tC) (Nat.zero_le _) ?_
  refine low_init (s := ⟨(hp.push (kdv_tup [])).push (excO C hp.objs.size), g, dr, tk, os⟩) T (X.keeps k) (hlim.keeps k) ?_ fun h' tk' k' => ?_
  · show A.depth + 1 < recursionLimit
    exact hroom
  · exact ⟨rfl, hq h' tk' (hp.objs.size + 1) hp.objs.size (fun b o e => k' b o (k b o e)) (Nat.le_succ _) (k' _ _ hget)⟩
end
end XNoNumber
end PySem
namespace L2
open PySem PySem.Spec PyProof.Rows
section
variable {X : Cx} {C fI : Addr}
theorem pmk__NoNumber {p pos : Pos} {k : Nat} (T : PySem.XNoNumber.TxtNoNumber X.K X.mg C fI) (hr : Room k X.A) (hg : Gl X "NoNumber" := by rfl) :
    PMk X (.Call (.Name "NoNumber" p) [] [] pos) (fun _ H Q => Q (.ref C) none H) := by
  intro pins s σ H Q I h
  refine wpAny_Call_Name_kw (ld_glob I hg T.gC ?_)
  refine PySem.W.callWith_K0 I.kIn T.kC ?_
  have hlim := I.nolimit
  have kin := I.kIn
  obtain ⟨hp, g, dr, tk, os⟩ := s
  show wpAny _ _ (call (.ref C) []) _ _ _
  refine wpAny_call (PySem.XNoNumber.low_made T kin hlim (by have := hr.dp; omega) fun h' tk' e t1 kp hnew he => ?_)
  show MkP X pins σ Q (.ref e) ⟨h', g, dr, tk', os⟩
  obtain ⟨G', g1, g2⟩ := restrict h' fun b => decide (b ≠ e)
  have gk : ∀ b, b ≠ e → G'.get? b = h'.get? b := fun b hb => g1 b (decide_eq_true hb)
  have ge : G'.get? e = none := g2 e (by simp)
  have old : ∀ b o, hp.get? b = some o → G'.get? b = some o := fun b o q => (gk b (Nat.ne_of_lt (Nat.lt_of_lt_of_le (Heap.lt_size q) hnew))).trans (kp b o q)
  have J : Inv X pins σ H ⟨G', g, dr, tk', os⟩ := I.kept (t' := tk') old
  refine ⟨e, _, _, ⟨G', g, dr, tk', os⟩, H, .ref C, none, rfl, J, fun b o q => ?_, ge, he, ⟨rfl, rfl⟩, rfl, rfl, I.hok.fresh hnew, rfl, I.bare, raises_own T.exC T.tyC, h⟩
  by_cases hb : b = e
  · have q' : G'.get? b = some o := q
    rw [hb, ge] at q'; cases q'
  · exact (gk b hb).symm.trans q
def tRaise_NoNumber (C : Addr) (W : WX) : TS := fun _ σ H => W (.ref C) none σ H
theorem ps_raise_NoNumber {W : WX} {p pos pos2 : Pos} {k : Nat} (hc : X.calm = true) (T : PySem.XNoNumber.TxtNoNumber X.K X.mg C fI) (hr : Room k X.A) (tk : Takes X W) (hg : Gl X "NoNumber" := by rfl) :
    PS X (.Raise (some (.Call (.Name "NoNumber" p) [] [] pos)) none pos2) (tRaise_NoNumber C W) := ps_raise hc tk (pmk__NoNumber T hr hg)
end
end L2
namespace PySem
namespace XNoMoment
open PySem.W PySem.Calls PyProof.Rows PySem.HandSPX
def iA (p1 : Pos) : Arguments := { posonlyargs := [], args := [{ arg := "self", annotation := none, pos := p1 }], vararg := none, kwonlyargs := [], kw_defaults := [], kwarg := none, defaults := [] }
def iB (q1 : Pos) : List Stmt := [.Pass q1]
def iS : Scope := { kind := .function, names := [(PySem.Str.ofString "self", .local)], isGenerator := false, isCoroutine := false, more := [] }
structure TxtNoMoment (K : Frag) (mg : Str → Option Value) (C fI : Addr) : Prop where
  gC : mg "NoMoment" = some (.ref C)
  cls : ∃ nm q N bs bm sn sub ab col dd k0 k1 k2 k3 k5, K.lookup C = some (excClassObj nm q C N bs bm true sn sub ab col dd k0 k1 k2 k3 k5 "ValueError.__new__") ∧ refsVE bm = true
  iC : findIn K (.ref C) "__init__" = some (some (.ref fI))
  tC : typeIn K (.ref fI) = some (.type "function")
  kC : keepIn K (.ref C) = true
  exC : subIn K (.ref C) (.type "BaseException") = some true
  tyC : typeIn K (.ref C) = some (.type "type")
  te : exmOne K (.ref C) (.ref C) = some true
  fn : ∃ (oc : Value) (od : Option Addr) (doc pm : Value) (an : Option Addr) (cdv ct : Value) (osl : Array (Option Value)) (p1 q1 : Pos),
    K.lookup fI = some ⟨oc, od, .func (fnOf "__init__" "NoMoment.__init__" (iA p1) (iB q1) iS .none .none doc pm an cdv ct), osl⟩ ∧ codeIn K cdv "NoMoment.__init__" = true
section
variable {prog : Program} {w : World} {A : Around} {E : Value → Shared → Prop} {R : Result → Shared → Prop} {s : Shared} {K : Frag} {mg : Str → Option Value} {C fI : Addr}
theorem low_init (T : TxtNoMoment K mg C fI) {x : Addr} (X : K.In s.heap) (hlim : s.heap.NoLimit) (hroom : A.depth < recursionLimit)
    (hq : ∀ h' tk, (∀ b o, s.heap.get? b = some o → h'.get? b = some o) → R (.ok (.ret .none)) { s with heap := h', toks := tk }) :
    codeAny (model prog w) A (.call (.ref fI) ⟨[.ref x], []⟩) R s := by
  obtain ⟨oc, od, doc, pm, an, cdv, ct, osl, p1, q1, ho, hcd⟩ := T.fn
  refine Att.call_fn (binds := [("self", .ref x)]) X hlim ho hcd hroom (BindsTo.of_eq (by first | rfl | with_unfolding_all rfl)) (by first | rfl | decide | with_unfolding_all rfl) (fun s₁ IC => ?_) rfl rfl rfl
  obtain ⟨h₁, tk₁, rfl⟩ := IC.toInCall.same
  have k : ∀ b o, s.heap.get? b = some o → h₁.get? b = some o := IC.toInCall.keep
  show wpAny _ _ (execs _ _) _ _ _
  refine wpAny_execs_cons (wpAny_Pass ?_)
  show wpAny _ _ (execs _ _) _ _ _
  exact wpAny_execs_nil (hq h₁ tk₁ k)
theorem low_made (T : TxtNoMoment K mg C fI) (X : K.In s.heap) (hlim : s.heap.NoLimit) (hroom : A.depth + 1 < recursionLimit)
    (hq : ∀ h' tk e t1, (∀ b o, s.heap.get? b = some o → h'.get? b = some o) → s.heap.objs.size ≤ e → h'.get? e = some (excO C t1) → R (.ok (.ret (.ref e))) { s with heap := h', toks := tk }) :
    codeAny (model prog w) A (.call (.ref C) ⟨[], []⟩) R s := by
  obtain ⟨nm, q, N, bs, bm, sn, sub, ab, col, dd, k0, k1, k2, k3, k5, hC, hbm⟩ := T.cls
  obtain ⟨hp, g, dr, tk, os⟩ := s
  have k : ∀ b o, hp.get? b = some o → ((hp.push (kdv_tup [])).push (excO C hp.objs.size)).get? b = some o := fun b o e => Heap.get?_push_of_some _ (Heap.get?_push_of_some _ e)
  have hget : ((hp.push (kdv_tup [])).push (excO C hp.objs.size)).get? (hp.objs.size + 1) = some (excO C hp.objs.size) := by heap_get
  refine call_own F.excBase_ValueError (fun X => refsVE_contains X bm hbm) (X _ _ hC) (looks_findIn X T.iC) (fun self => bind_fn X self T.tC) (Nat.zero_le _) ?_
  refine low_init (s := ⟨(hp.push (kdv_tup [])).push (excO C hp.objs.size), g, dr, tk, os⟩) T (X.keeps k) (hlim.keeps k) ?_ fun h' tk' k' => ?_
  · show A.depth + 1 < recursionLimit
    exact hroom
  · exact ⟨rfl, hq h' tk' (hp.objs.size + 1) hp.objs.size (fun b o e => k' b o (k b o e)) (Nat.le_succ _) (k' _ _ hget)⟩
end
end XNoMoment
end PySem
namespace L2
open PySem PySem.Spec PyProof.Rows
section
variable {X : Cx} {C fI : Addr}
theorem pmk__NoMoment {p pos : Pos} {k : Nat} (T : PySem.XNoMoment.TxtNoMoment X.K X.mg C fI) (hr : Room k X.A) (hg : Gl X "NoMoment" := by rfl) :
    PMk X (.Call (.Name "NoMoment" p) [] [] pos) (fun _ H Q => Q (.ref C) none H) := by
  intro pins s σ H Q I h
  refine wpAny_Call_Name_kw (ld_glob I hg T.gC ?_)
  refine PySem.W.callWith_K0 I.kIn T.kC ?_
  have hlim := I.nolimit
  have kin := I.kIn
  obtain ⟨hp, g, dr, tk, os⟩ := s
  show wpAny _ _ (call (.ref C) []) _ _ _
  refine wpAny_call (PySem.XNoMoment.low_made T kin hlim (by have := hr.dp; omega) fun h' tk' e t1 kp hnew he => ?_)
  show MkP X pins σ Q (.ref e) ⟨h', g, dr, tk', os⟩
  obtain ⟨G', g1, g2⟩ := restrict h' fun b => decide (b ≠ e)
  have gk : ∀ b, b ≠ e → G'.get? b = h'.get? b := fun b hb => g1 b (decide_eq_true hb)
  have ge : G'.get? e = none := g2 e (by simp)
  have old : ∀ b o, hp.get? b = some o → G'.get? b = some o := fun b o q => (gk b (Nat.ne_of_lt (Nat.lt_of_lt_of_le (Heap.lt_size q) hnew))).trans (kp b o q)
  have J : Inv X pins σ H ⟨G', g, dr, tk', os⟩ := I.kept (t' := tk') old
  refine ⟨e, _, _, ⟨G', g, dr, tk', os⟩, H, .ref C, none, rfl, J, fun b o q => ?_, ge, he, ⟨rfl, rfl⟩, rfl, rfl, I.hok.fresh hnew, rfl, I.bare, raises_own T.exC T.tyC, h⟩
  by_cases hb : b = e
  · have q' : G'.get? b = some o := q
    rw [hb, ge] at q'; cases q'
  · exact (gk b hb).symm.trans q
def tRaise_NoMoment (C : Addr) (W : WX) : TS := fun _ σ H => W (.ref C) none σ H
theorem ps_raise_NoMoment {W : WX} {p pos pos2 : Pos} {k : Nat} (hc : X.calm = true) (T : PySem.XNoMoment.TxtNoMoment X.K X.mg C fI) (hr : Room k X.A) (tk : Takes X W) (hg : Gl X "NoMoment" := by rfl) :
    PS X (.Raise (some (.Call (.Name "NoMoment" p) [] [] pos)) none pos2) (tRaise_NoMoment C W) := ps_raise hc tk (pmk__NoMoment T hr hg)
end
end L2
namespace PySem
namespace XBadHistory
open PySem.W PySem.Calls PyProof.Rows PySem.HandSPX
/-! ### the text of __init__ -/
def iA (p1 p2 : Pos) : Arguments := { posonlyargs := [], args := [{ arg := "self", annotation := none, pos := p1 }, { arg := "index", annotation := none, pos := p2 }], vararg := none, kwonlyargs := [], kw_defaults := [], kwarg := none, defaults := [] }
def iB (q1 q2 q3 q4 : Pos) : List Stmt := [.Assign [.Attribute (.Name "self" q1) "index" q2] (.Name "index" q3) q4]
def iS : Scope := { kind := .function, names := [(PySem.Str.ofString "self", .local), (PySem.Str.ofString "index", .local)], isGenerator := false, isCoroutine := false, more := [] }
/-- what the written part says of Low, at C, and of its __init__, at fI -/
structure TxtBadHistory (K : Frag) (mg : Str → Option Value) (C fI : Addr) : Prop where
  gC : mg "BadHistory" = some (.ref C)
  cls : ∃ nm q N bs bm sn sub ab col dd k0 k1 k2 k3 k5, K.lookup C = some (excClassObj nm q C N bs bm true sn sub ab col dd k0 k1 k2 k3 k5 "ValueError.__new__") ∧ refsVE bm = true
  sa : findIn K (.ref C) "__setattr__" = some (some (.builtin "object.__setattr__"))
  ga : findIn K (.ref C) "__getattribute__" = some (some (.builtin "BaseException.__getattribute__"))
  gg : findIn K (.ref C) "__getattr__" = some none
  noN : findIn K (.ref C) "index" = some none
  iC : findIn K (.ref C) "__init__" = some (some (.ref fI))
  tC : typeIn K (.ref fI) = some (.type "function")
  kC : keepIn K (.ref C) = true
  exC : subIn K (.ref C) (.type "BaseException") = some true
  tyC : typeIn K (.ref C) = some (.type "type")
  hdC : hasDictIn K C = true
  te : exmOne K (.ref C) (.ref C) = some true
  fn : ∃ (oc : Value) (od : Option Addr) (doc pm : Value) (an : Option Addr) (cdv ct : Value) (osl : Array (Option Value)) (p1 p2 q1 q2 q3 q4 : Pos),
    K.lookup fI = some ⟨oc, od, .func (fnOf "__init__" "BadHistory.__init__" (iA p1 p2) (iB q1 q2 q3 q4) iS .none .none doc pm an cdv ct), osl⟩ ∧ codeIn K cdv "BadHistory.__init__" = true
theorem one_size (v : Value) : [v].length ≤ sizeLine := by
  rw [sizeLine_eq]
  exact (by decide : 1 ≤ 16777216)
theorem kept_but {K : Frag} {h h' : Heap} {x : Addr} (X : K.In h) (hx : K.lookup x = none) (k : ∀ b o, b ≠ x → h.get? b = some o → h'.get? b = some o) : K.In h' := fun a o e =>
  k a o (fun z => by rw [z, hx] at e; cases e) (X a o e)
theorem ldC {M : Model} {s : Shared} {name : Str} {scope : Scope} {L a : Addr} {cd : Value} {m : Str → Option Value} {x : Str} {pos : Pos} {v : Value} {Q : Value → Shared → Prop} {A : Around} {E : Value → Shared → Prop} (hn : s.heap.Ns L m) (hv : m x = some v) (h : Q v s)
    (hk : scope.kind = .function := by rfl) (hl : (envOfC name scope L a cd).kindOf x = some .local := by rfl) (hd : (x == ("__debug__" : Str)) = false := by decide) :
    wpAny M A (eval (.Name x pos) (envOfC name scope L a cd)) Q E s := wpAny_Name (wpAny_loadName_local hk hl hn hv h) hd
/-- what __init__ leaves of a fresh exception at x -/
structure InitEnd (h h' : Heap) (x C dx t1 : Addr) (v : Value) : Prop where
  keep : ∀ b o, b ≠ x → h.get? b = some o → h'.get? b = some o
  obj : h'.get? x = some { cls := .ref C, dict := some dx, data := .fields #[.ref t1, .none, .none, .none, .bool false, .none] }
  dbig : h.objs.size ≤ dx
  dne : dx ≠ x
  ns : h'.Ns1 dx (fun y => if y = "index" then some v else none)
/-- a made Low -/
structure OwnMade (h h' : Heap) (e C d : Addr) (v : Value) : Prop where
  keep : ∀ b o, h.get? b = some o → h'.get? b = some o
  new : h.objs.size ≤ e
  obj : ∃ oe vs, h'.get? e = some oe ∧ oe.cls = .ref C ∧ oe.dict = some d ∧ oe.data = .fields vs ∧ vs[1]? = some .none
  dbig : h.objs.size ≤ d
  dne : d ≠ e
  ns : h'.Ns1 d (fun y => if y = "index" then some v else none)
section
variable {prog : Program} {w : World} {A : Around} {E : Value → Shared → Prop} {R : Result → Shared → Prop} {s : Shared} {K : Frag} {mg : Str → Option Value} {C fI : Addr}
theorem low_init (T : TxtBadHistory K mg C fI) {x t0 : Addr} {v : Value} (X : K.In s.heap) (hlim : s.heap.NoLimit) (hx : s.heap.get? x = some (excO C t0)) (hnx : K.lookup x = none) (hroom : A.depth < recursionLimit)
    (hq : ∀ h' tk dx, InitEnd s.heap h' x C dx t0 v → R (.ok (.ret .none)) { s with heap := h', toks := tk }) :
    codeAny (model prog w) A (.call (.ref fI) ⟨[.ref x, v], []⟩) R s := by
  obtain ⟨oc, od, doc, pm, an, cdv, ct, osl, p1, p2, q1, q2, q3, q4, ho, hcd⟩ := T.fn
  obtain ⟨nm, q, N, bs, bm, sn, sub, ab, col, dd, k0, k1, k2, k3, k5, hC, hbm⟩ := T.cls
  have hcl : clsIn K C = some { name := nm, bases := bs, mro := .ref C :: bm, ns := N, qualname := q, hasDict := true, slotNames := sn, subclasses := sub, abstract := ab, collection := col, hasDel := false } := by unfold clsIn; rw [hC] <;> rfl
  refine Att.call_fn (binds := [("self", .ref x), ("index", v)]) X hlim ho hcd hroom (BindsTo.of_eq (by first | rfl | with_unfolding_all rfl)) (by first | rfl | decide | with_unfolding_all rfl) (fun s₁ IC => ?_) rfl rfl rfl
  obtain ⟨h₁, tk₁, rfl⟩ := IC.toInCall.same
  have k : ∀ b o, s.heap.get? b = some o → h₁.get? b = some o := IC.toInCall.keep
  have hn := IC.toInCall.ns
  have hxL : s.heap.objs.size ≠ x := Nat.ne_of_gt (Heap.lt_size hx)
  have X₁ : K.In h₁ := X.keeps k
  have hx₁ := k _ _ hx
  -- self.by = by
  show wpAny _ _ (execs _ _) _ _ _
  refine wpAny_execs_cons (plainObj_wpAny_Assign_Attribute ?_)
  refine ldC (v := v) hn (by first | rfl | with_unfolding_all rfl | kernel_rfl) (ldC (v := .ref x) hn (by first | rfl | with_unfolding_all rfl | kernel_rfl) ?_)
  refine set_plain X₁ (ox := excO C t0) (od := none) ⟨hx₁, rfl, rfl, trivial⟩ T.sa ?_
  refine exc_osa X₁ hx₁ hcl (show refsVE (.ref C :: bm) = true from hbm) rfl T.noN (fun h₃ tk₃ dx k₃ dn dne hx₃ hn₃ => ?_)
  show wpAny _ _ (execs _ _) _ _ _
  have z : s.heap.objs.size < h₁.objs.size := hn.lt
  exact wpAny_execs_nil (hq h₃ tk₃ dx ⟨fun b o hb e => k₃ b o hb (k b o e), hx₃, Nat.le_of_lt (Nat.lt_of_lt_of_le z dn), dne, hn₃⟩)
theorem low_made (T : TxtBadHistory K mg C fI) {v : Value} (X : K.In s.heap) (hlim : s.heap.NoLimit) (hroom : A.depth + 1 < recursionLimit)
    (hq : ∀ h' tk e d, OwnMade s.heap h' e C d v → R (.ok (.ret (.ref e))) { s with heap := h', toks := tk }) :
    codeAny (model prog w) A (.call (.ref C) ⟨[v], []⟩) R s := by
  obtain ⟨nm, q, N, bs, bm, sn, sub, ab, col, dd, k0, k1, k2, k3, k5, hC, hbm⟩ := T.cls
  obtain ⟨hp, g, dr, tk, os⟩ := s
  have k : ∀ b o, hp.get? b = some o → ((hp.push (kdv_tup [v])).push (excO C hp.objs.size)).get? b = some o := fun b o e => Heap.get?_push_of_some _ (Heap.get?_push_of_some _ e)
  have hget : ((hp.push (kdv_tup [v])).push (excO C hp.objs.size)).get? (hp.objs.size + 1) = some (excO C hp.objs.size) := by heap_get
  have hnx : K.lookup (hp.objs.size + 1) = none := by
    cases e : K.lookup (hp.objs.size + 1) with
    | none => rfl
    | some o =>
      have z : hp.get? (hp.objs.size + 1) = some o := X _ _ e
      exact absurd (Nat.lt_of_succ_lt (Heap.lt_size z)) (Nat.lt_irrefl _)
  refine call_own F.excBase_ValueError (fun X => refsVE_contains X bm hbm) (X _ _ hC) (looks_findIn X T.iC) (fun self => bind_fn X self T.tC) (one_size v) ?_
  refine low_init (s := ⟨(hp.push (kdv_tup [v])).push (excO C hp.objs.size), g, dr, tk, os⟩) T (X.keeps k) (hlim.keeps k) hget hnx ?_ fun h' tk' dx ⟨k', hx, dn, dne, hns⟩ => ?_
  · show A.depth + 1 < recursionLimit
    exact hroom
  · have old : ∀ b o, hp.get? b = some o → h'.get? b = some o := fun b o e => k' b o (Nat.ne_of_lt (Nat.lt_succ_of_lt (Heap.lt_size e))) (k b o e)
    have z : hp.objs.size + 1 + 1 ≤ dx := by
      first
        | (simpa only [Heap.size_push] using dn)
        | exact dn
        | (have q := dn; rw [Heap.size_push, Heap.size_push] at q; exact q)
    exact ⟨rfl, hq h' tk' (hp.objs.size + 1) dx ⟨old, Nat.le_succ _, ⟨_, _, hx, rfl, rfl, rfl, rfl⟩, Nat.le_trans (Nat.le_trans (Nat.le_succ _) (Nat.le_succ _)) z, dne, hns⟩⟩
end
end XBadHistory
end PySem
namespace L2
open PySem PySem.Spec PyProof.Rows
theorem relO__BadHistory {v : V} {v' : Value} (r : RelV v v') (f : Str) : RelO (List.lookup f [(("index" : Str), v)]) (if f = "index" then some v' else none) := by
  by_cases hw : f = "index"
  · subst hw
    rw [if_pos rfl]
    have q : List.lookup ("index" : Str) [(("index" : Str), v)] = some v := by simp [List.lookup]
    rw [q]
    exact r
  · rw [if_neg hw]
    have qw : (f == ("index" : Str)) = false := by simpa using hw
    have q2 : List.lookup f [(("index" : Str), v)] = none := by simp [List.lookup, qw]
    rw [q2]
    trivial
section
variable {X : Cx} {C fI : Addr}
/-- Low(e) -/
def tMk_BadHistory (C : Addr) (ta : TA) : St → Hp → XK → Prop := fun σ H Q => ta σ H fun vs H1 => ∃ v, vs = [v] ∧ ∀ d, H1 d = none → Q (.ref C) (some d) (upd H1 d (.xd [(("index" : Str), v)]))
theorem pmk__BadHistory {a : Expr} {ta : TA} {p pos : Pos} {k : Nat} (T : PySem.XBadHistory.TxtBadHistory X.K X.mg C fI) (hr : Room k X.A) (ha : PA X [a] ta) (hg : Gl X "BadHistory" := by rfl)
    (he : starEach (a :: []) X.env = (false, eval a X.env) :: starEach [] X.env := by rfl) (hpl : (backTo pos (starEach [] X.env)).any (·.1) = false := by rfl) :
    PMk X (.Call (.Name "BadHistory" p) [a] [] pos) (tMk_BadHistory C ta) := by
  intro pins s σ H Q I h
  refine wpAny_Call_Name_kw (ld_glob I hg T.gC ?_)
  refine PySem.W.callWith_K (h₀ := X.base) I.ok.mod.kin T.kC (thn (ha.run pos pins s σ H _ I h) fun us s1 hh => ?_) he hpl
  obtain ⟨vs, H1, I1, r1, v, ev, q1⟩ := hh
  subst ev
  refine ⟨I1.kIn, ?_⟩
  cases r1 with
  | cons rv rn =>
    rename_i v' us'
    cases rn
    show wpAny _ _ (call (.ref C) [v']) _ _ _
    have hlim := I1.nolimit
    obtain ⟨hp, g, dr, tk, os⟩ := s1
    refine wpAny_call (PySem.XBadHistory.low_made T I1.kIn hlim (by have := hr.dp; omega) fun h' tk' e d M => ?_)
    show MkP X pins σ Q (.ref e) ⟨h', g, dr, tk', os⟩
    obtain ⟨oe, fv, hoe, hc, hd, hdat, h1⟩ := M.obj
    have hns := M.ns
    obtain ⟨G', g1, g2⟩ := restrict h' fun b => decide (b ≠ e)
    have gk : ∀ b, b ≠ e → G'.get? b = h'.get? b := fun b hb => g1 b (decide_eq_true hb)
    have ge : G'.get? e = none := g2 e (by simp)
    have old : ∀ b o, hp.get? b = some o → G'.get? b = some o := fun b o q => (gk b (Nat.ne_of_lt (Nat.lt_of_lt_of_le (Heap.lt_size q) M.new))).trans (M.keep b o q)
    have ob : ObjOk X.prog X.w (upd H1 d (.xd [(("index" : Str), v)])) G' d (.xd [(("index" : Str), v)]) :=
      ⟨_, hns.at (fun o q => (gk d M.dne).trans q), fun f => relO__BadHistory rv f⟩
    have J : Inv X pins σ (upd H1 d (.xd [(("index" : Str), v)])) ⟨G', g, dr, tk', os⟩ := I1.laid (t' := tk') old M.dbig ob
    refine ⟨e, oe, fv, ⟨G', g, dr, tk', os⟩, _, .ref C, some d, rfl, J, fun b o q => ?_, ge, hoe, ⟨hc, hd⟩, hdat, h1, ?_, rfl, I1.bare, raises_own T.exC T.tyC, q1 d (I1.hok.fresh M.dbig)⟩
    · by_cases hb : b = e
      · have q' : G'.get? b = some o := q
        rw [hb, ge] at q'; cases q'
      · exact (gk b hb).symm.trans q
    · rw [upd_ne (Ne.symm M.dne)]
      exact I1.hok.fresh M.new
/-- raise Low(e) -/
def tRaise_BadHistory (C : Addr) (W : WX) (ta : TA) : TS := fun _ σ H => tMk_BadHistory C ta σ H fun cls d H' => W cls d σ H'
theorem ps_raise_BadHistory {a : Expr} {ta : TA} {W : WX} {p pos pos2 : Pos} {k : Nat} (hc : X.calm = true) (T : PySem.XBadHistory.TxtBadHistory X.K X.mg C fI) (hr : Room k X.A) (tk : Takes X W) (ha : PA X [a] ta) (hg : Gl X "BadHistory" := by rfl)
    (he : starEach (a :: []) X.env = (false, eval a X.env) :: starEach [] X.env := by rfl) (hpl : (backTo pos (starEach [] X.env)).any (·.1) = false := by rfl) :
    PS X (.Raise (some (.Call (.Name "BadHistory" p) [a] [] pos)) none pos2) (tRaise_BadHistory C W ta) := ps_raise hc tk (pmk__BadHistory T hr ha hg he hpl)
/-- low.by, low the exception that the suite holds (at a; its class cls, its dict d) -/
def tBy_BadHistory (C : Addr) (a : Addr) (cls : Value) (d : Option Addr) (te : TE) : TE := fun σ H Q => te σ H fun x H1 => x = .ref a ∧ cls = .ref C ∧ ∃ (dd : Addr) (v : V), d = some dd ∧ H1 dd = some (.xd [(("index" : Str), v)]) ∧ Q v H1
theorem pe_by_BadHistory {a : Addr} {oe : Obj} {cls : Value} {d : Option Addr} {pn : List (Addr × Obj)} {e : Expr} {te : TE} {pos : Pos} (T : PySem.XBadHistory.TxtBadHistory X.K X.mg C fI) (hz : Zc cls d oe) (hf : ∃ vs, oe.data = .fields vs) (he : PE (X.suite a ((a, oe) :: pn)) e te)
    (hb : attributeBase e "index" X.env (eval e X.env) = eval e X.env := by rfl) :
    PE (X.suite a ((a, oe) :: pn)) (.Attribute e "index" pos) (tBy_BadHistory C a cls d te) := by
  refine ⟨fun pins s σ H Q I h => ?_⟩
  refine attr_of hb (thn (he.run pins s σ H _ I h) fun u s1 hh => ?_)
  obtain ⟨x, H1, I1, rx, ex, ec, dd, v, ed, ea, q⟩ := hh
  subst ex
  obtain rfl : u = Value.ref a := rx
  subst ec
  subst ed
  obtain ⟨ha, _⟩ := I1.pin (a, oe) (List.mem_append_left _ List.mem_cons_self)
  obtain ⟨vs, hd⟩ := hf
  have hx : ObjOk X.prog X.w H1 s1.heap dd (.xd [(("index" : Str), v)]) := I1.hok dd _ ea
  obtain ⟨mA, hns, hr⟩ := hx
  obtain ⟨od, ho, hl⟩ := lookIn_ns hns
  have l : List.lookup ("index" : Str) [(("index" : Str), v)] = some v := by simp [List.lookup]
  obtain ⟨u, hu, ru⟩ := RelO.some_of (v := v) (o := mA "index") (by rw [← l]; exact hr "index")
  have J : PySem.W.InstAt s1.heap a oe C (some od) := ⟨ha, hz.1, by unfold PySem.W.notCls; rw [hd] <;> rfl, by rw [hz.2]; exact ho⟩
  exact HandSPX.exc_get I1.kIn J T.ga T.gg T.exC (PySem.W.findObj_own T.hdC T.noN rfl (by rw [hl, hu])) (handed_of ru) ⟨v, H1, I1.tok _, ru, q⟩
end
end L2

namespace W3
open PySem PySem.Spec PyProof.Rows L2 M3
def top (i : Nat) : Stmt := PySem.Challenge.pw_cutlinked_k27_whole_longer_staying_ties.main.body.getD i (.Pass ⟨0, 0, 0, 0⟩)
abbrev s_is_integer : Stmt := top 7
theorem sc_is_integer : FnScope ["thing"] ["thing"] (defScope s_is_integer) := ⟨rfl, rfl, rfl, by decide +kernel, rfl, by decide +kernel, by decide +kernel⟩
abbrev s_word_of : Stmt := top 11
theorem sc_word_of : FnScope ["thing"] ["thing"] (defScope s_word_of) := ⟨rfl, rfl, rfl, by decide +kernel, rfl, by decide +kernel, by decide +kernel⟩
abbrev s_History_eq : Stmt := (inClass (top 19) 1)
theorem sc_History_eq : FnScope ["self", "other"] ["self", "other"] (defScope s_History_eq) := ⟨rfl, rfl, rfl, by decide +kernel, rfl, by decide +kernel, by decide +kernel⟩
abbrev s_lives : Stmt := top 21
theorem sc_lives : FnScope ["history", "found", "index", "deed", "came", "_"] ["history"] (defScope s_lives) := ⟨rfl, rfl, rfl, by decide +kernel, rfl, by decide +kernel, by decide +kernel⟩
abbrev s_with_tie : Stmt := top 27
theorem sc_with_tie : FnScope ["labels", "one", "other", "label"] ["labels", "one", "other"] (defScope s_with_tie) := ⟨rfl, rfl, rfl, by decide +kernel, rfl, by decide +kernel, by decide +kernel⟩
abbrev s_L_parts_by : Stmt := top 29
theorem sc_L_parts_by : FnScope ["_law_many", "_law_ties", "_law_found", "_law_tie", "_law_one", "_law_other", "_law_part"] ["_law_many", "_law_ties"] (defScope s_L_parts_by) := ⟨rfl, rfl, rfl, by decide +kernel, rfl, by decide +kernel, by decide +kernel⟩
abbrev s_L_hand : Stmt := top 30
theorem sc_L_hand : FnScope ["_law_script", "_law_cells", "_law_cell"] ["_law_script"] (defScope s_L_hand) := ⟨rfl, rfl, rfl, by decide +kernel, rfl, by decide +kernel, by decide +kernel⟩
abbrev s_L_draw : Stmt := top 31
theorem sc_L_draw : FnScope ["_law_hand_here", "_law_many", "_law_cell", "_law_digit", "_law_number"] ["_law_hand_here", "_law_many"] (defScope s_L_draw) := ⟨rfl, rfl, rfl, by decide +kernel, rfl, by decide +kernel, by decide +kernel⟩
abbrev s_L_lives : Stmt := top 33
theorem sc_L_lives : FnScope ["_law_deeds", "_law_found", "_law_index", "_law_deed"] ["_law_deeds"] (defScope s_L_lives) := ⟨rfl, rfl, rfl, by decide +kernel, rfl, by decide +kernel, by decide +kernel⟩
abbrev s_L_there : Stmt := top 34
theorem sc_L_there : FnScope ["_law_spans", "_law_at", "_law_number", "_law_life"] ["_law_spans", "_law_at"] (defScope s_L_there) := ⟨rfl, rfl, rfl, by decide +kernel, rfl, by decide +kernel, by decide +kernel⟩
abbrev s_is_between : Stmt := top 8
theorem sc_is_between : FnScope ["least", "most", "thing"] ["least", "most", "thing"] (defScope s_is_between) := ⟨rfl, rfl, rfl, by decide +kernel, rfl, by decide +kernel, by decide +kernel⟩
abbrev s_is_number : Stmt := top 9
theorem sc_is_number : FnScope ["thing"] ["thing"] (defScope s_is_number) := ⟨rfl, rfl, rfl, by decide +kernel, rfl, by decide +kernel, by decide +kernel⟩
abbrev s_there : Stmt := top 25
theorem sc_there : FnScope ["history", "at", "found", "tie", "come", "go"] ["history", "at"] (defScope s_there) := ⟨rfl, rfl, rfl, by decide +kernel, rfl, by decide +kernel, by decide +kernel⟩
abbrev s_L_history : Stmt := top 32
theorem sc_L_history : FnScope ["_law_hand_here", "_law_many", "_law_deeds", "_law_there_here", "_law_came", "_law_turn", "_law_kind", "_law_one", "_law_other"] ["_law_hand_here"] (defScope s_L_history) := ⟨rfl, rfl, rfl, by decide +kernel, rfl, by decide +kernel, by decide +kernel⟩
abbrev s_L_longest : Stmt := top 36
theorem sc_L_longest : FnScope ["_law_many", "_law_spans", "_law_there_here", "_law_order", "_law_number", "_law_found", "_law_rank", "_law_parts", "_law_elder"] ["_law_many", "_law_spans", "_law_there_here"] (defScope s_L_longest) := ⟨rfl, rfl, rfl, by decide +kernel, rfl, by decide +kernel, by decide +kernel⟩
abbrev s_L_till : Stmt := top 37
theorem sc_L_till : FnScope ["_law_many", "_law_spans", "_law_there_here", "_law_one", "_law_other", "_law_left", "_law_goes", "_law_number", "_law_last", "_law_turn", "_law_parts"] ["_law_many", "_law_spans", "_law_there_here", "_law_one", "_law_other"] (defScope s_L_till) := ⟨rfl, rfl, rfl, by decide +kernel, rfl, by decide +kernel, by decide +kernel⟩
abbrev s_is_house : Stmt := top 10
theorem sc_is_house : FnScope ["many", "thing"] ["many", "thing"] (defScope s_is_house) := ⟨rfl, rfl, rfl, by decide +kernel, rfl, by decide +kernel, by decide +kernel⟩
abbrev s_need_moment : Stmt := top 24
theorem sc_need_moment : FnScope ["history", "thing"] ["history", "thing"] (defScope s_need_moment) := ⟨rfl, rfl, rfl, by decide +kernel, rfl, by decide +kernel, by decide +kernel⟩
abbrev s_longest_first : Stmt := top 26
theorem sc_longest_first : FnScope ["history", "at", "spans", "never", "triple", "goers", "_"] ["history", "at"] (defScope s_longest_first) := ⟨rfl, rfl, rfl, by decide +kernel, rfl, by decide +kernel, by decide +kernel⟩
abbrev s_is_of : Stmt := top 13
theorem sc_is_of : FnScope ["many", "part", "kind"] ["many", "part", "kind"] (defScope s_is_of) := ⟨rfl, rfl, rfl, by decide +kernel, rfl, by decide +kernel, by decide +kernel⟩
abbrev s_kept_then : Stmt := top 22
theorem sc_kept_then : FnScope ["history", "at", "found", "labels", "tie", "one", "other"] ["history", "at"] (defScope s_kept_then) := ⟨rfl, rfl, rfl, by decide +kernel, rfl, by decide +kernel, by decide +kernel⟩
abbrev s_joined_till : Stmt := top 23
theorem sc_joined_till : FnScope ["history", "at", "one", "other", "labels", "tie", "first", "second"] ["history", "at", "one", "other"] (defScope s_joined_till) := ⟨rfl, rfl, rfl, by decide +kernel, rfl, by decide +kernel, by decide +kernel⟩
abbrev s_fit : Stmt := top 12
theorem sc_fit : FnScope ["many", "parts", "form", "part", "kind"] ["many", "parts", "form"] (defScope s_fit) := ⟨rfl, rfl, rfl, by decide +kernel, rfl, by decide +kernel, by decide +kernel⟩
abbrev s_can_be_next : Stmt := top 20
theorem sc_can_be_next : FnScope ["many", "came", "there", "thing", "word"] ["many", "came", "there", "thing"] (defScope s_can_be_next) := ⟨rfl, rfl, rfl, by decide +kernel, rfl, by decide +kernel, by decide +kernel⟩
abbrev s_History_init : Stmt := (inClass (top 19) 0)
theorem sc_History_init : FnScope ["self", "many", "deeds", "came", "there", "index", "deed"] ["self", "many", "deeds"] (defScope s_History_init) := ⟨rfl, rfl, rfl, by decide +kernel, rfl, by decide +kernel, by decide +kernel⟩
abbrev s_L_is : Stmt := top 35
theorem sc_L_is : FnScope ["_law_told", "_law_due", "_law_one", "_law_two"] ["_law_told", "_law_due"] (defScope s_L_is) := ⟨rfl, rfl, rfl, by decide +kernel, rfl, by decide +kernel, by decide +kernel⟩
abbrev s_law : Stmt := top 38
theorem sc_law : FnScope ["_law_script", "_law_hand_here", "_law_many", "_law_deeds", "_law_history_here", "_law_spans", "_law_turn", "_law_at", "_law_there_here", "_law_again", "_law_one", "_law_other"] ["_law_script"] (defScope s_law) := ⟨rfl, rfl, rfl, by decide +kernel, rfl, by decide +kernel, by decide +kernel⟩
structure Txt (mg : Str → Option Value) : Prop where
  n_all : mg "all" = none
  n_enumerate : mg "enumerate" = none
  n_tuple : mg "tuple" = none
  n_list : mg "list" = none
  n_range : mg "range" = none
  n_isinstance : mg "isinstance" = none
  n_sorted : mg "sorted" = none
  n_int : mg "int" = none
  n_len : mg "len" = none
  n_str : mg "str" = none
  n_abs : mg "abs" = none
  n_bool : mg "bool" = none
  n_zip : mg "zip" = none
  n_min : mg "min" = none
  c_MOST_ENDS : ∃ t, mg "MOST_ENDS" = some (.int 24 t)
  c_MOST_DEEDS : ∃ t, mg "MOST_DEEDS" = some (.int 60 t)
  c_MOST_TIES : ∃ t, mg "MOST_TIES" = some (.int 32 t)
structure Fx (g : G) (w : World) (mg : Str → Option Value) (f_eNoHouse f_eNoNumber f_eNoMoment f_eBadHistory f_iHistory : Addr) : Prop where
  CSO : OwnCs g.K g.CS
  FO : FlOk g.K g.FL
  History : mg "History" = some (.ref g.History)
  mk_History : Mk g.K g.History f_iHistory
  NoHouse : PySem.XNoHouse.TxtNoHouse g.K mg g.NoHouse f_eNoHouse
  NoNumber : PySem.XNoNumber.TxtNoNumber g.K mg g.NoNumber f_eNoNumber
  NoMoment : PySem.XNoMoment.TxtNoMoment g.K mg g.NoMoment f_eNoMoment
  BadHistory : PySem.XBadHistory.TxtBadHistory g.K mg g.BadHistory f_eBadHistory
  FORMS : mg "FORMS" = some (.ref g.FORMS) ∧ TabOk g.K w g.FORMS tab_FORMS
theorem cr_History_ok (g : G) : ∀ vs H Q E, spM g.K 2 (mPure (mkC g.History (m_History_init g))) vs H Q E → spNew g.History (spM g.K 3 (m_History_init g)) vs H Q E := fun vs H Q E h => new_ok vs H Q E (pure_ok vs H Q E h)
end W3
namespace W3
open PySem PySem.Spec PyProof.Rows L2 M3
section
variable {P : Program} {w : World} {g : G} {mg : Str → Option Value} {base : Heap} {f_eNoHouse f_eNoNumber f_eNoMoment f_eBadHistory f_iHistory : Addr}
theorem ok_is_integer (D : M3.Def g.K mg "is_integer" s_is_integer ["thing"]) (T : Txt mg) (Z : Fx g w mg f_eNoHouse f_eNoNumber f_eNoMoment f_eBadHistory f_iHistory) : M3.Cal P w g.K mg base 1 "is_integer" ["thing"] (spM g.K 1 (mPure (m_is_integer g))) := by
  refine M3.Cal.imp (D.cal (sp := (spM g.K 1 (m_is_integer g))) sc_is_integer (spM_len rfl) (fun f cdv A outer s H vs Q E hr h => ?_)) pure_ok
  exact body_all (N := ["thing"]) (E := E) ((pss_one (ps_ret (pe_and (pe_callB (call_isiM (K := g.K) rfl) (by rfl) T.n_isinstance (by decide +kernel) (pa_cons (pv 0) (pa_cons (pe_bltn (v := .ty "int") (by rfl) T.n_int (by decide +kernel) rfl) pa_nil))) (pe_one (pe_not (pe_callB (call_isiM (K := g.K) rfl) (by rfl) T.n_isinstance (by decide +kernel) (pa_cons (pv 0) (pa_cons (pe_bltn (v := .ty "bool") (by rfl) T.n_bool (by decide +kernel) rfl) pa_nil)))))))))
    ((ss_ret (se_and (se_call (isi_ok Z.CSO) (sa_cons se_var (sa_cons se_con sa_nil))) (se_not (se_call (isi_ok Z.CSO) (sa_cons se_var (sa_cons se_con sa_nil))))))) h

end
end W3
namespace W3
open PySem PySem.Spec PyProof.Rows L2 M3
section
variable {P : Program} {w : World} {g : G} {mg : Str → Option Value} {base : Heap} {f_eNoHouse f_eNoNumber f_eNoMoment f_eBadHistory f_iHistory : Addr}
theorem ok_word_of (D : M3.Def g.K mg "word_of" s_word_of ["thing"]) (T : Txt mg) (Z : Fx g w mg f_eNoHouse f_eNoNumber f_eNoMoment f_eBadHistory f_iHistory) : M3.Cal P w g.K mg base 1 "word_of" ["thing"] (spM g.K 1 (mPure (m_word_of g))) := by
  refine M3.Cal.imp (D.cal (sp := (spM g.K 1 (m_word_of g))) sc_word_of (spM_len rfl) (fun f cdv A outer s H vs Q E hr h => ?_)) pure_ok
  exact body_all (N := ["thing"]) (E := E) ((pss_cons (ps_if (PW.pt (pw_or (pt_not (pt_val (pe_callB (call_isiM (K := g.K) rfl) (by rfl) T.n_isinstance (by decide +kernel) (pa_cons (pv 0) (pa_cons (pe_bltn (v := .ty "tuple") (by rfl) T.n_tuple (by decide +kernel) rfl) pa_nil))))) (pw_or (pt_cmpR (op_eqM (K := g.K) rfl hr.units) (pe_callB (call_lenM (K := g.K) rfl) (by rfl) T.n_len PySem.boot_len (pa_cons (pv 0) pa_nil)) pe_int (nomark _)) (pw_or1 (pt_not (pt_val (pe_callB (call_isiM (K := g.K) rfl) (by rfl) T.n_isinstance (by decide +kernel) (pa_cons (pe_ix (ix_M (K := g.K) rfl) (pv 0) pe_int (fun _ _ => rfl)) (pa_cons (pe_bltn (v := .ty "str") (by rfl) T.n_str (by decide +kernel) rfl) pa_nil))))))))) (pss_one (ps_ret pe_non)) pss_nil)
      (pss_one (ps_ret (pe_ix (ix_M (K := g.K) rfl) (pv 0) pe_int (fun _ _ => rfl))))))
    ((ss_seq (ss_ifS (st_or (st_not (st_tst (se_call (isi_ok Z.CSO) (sa_cons se_var (sa_cons se_con sa_nil))))) (st_or (st_test (se_op eq_ok (se_call len_ok (sa_cons se_var sa_nil)) se_int)) (st_not (st_tst (se_call (isi_ok Z.CSO) (sa_cons (se_op ix_ok se_var se_int) (sa_cons se_con sa_nil))))))) (ss_ret se_non) ss_next)
      (ss_ret (se_op ix_ok se_var se_int)))) h

end
end W3
namespace W3
open PySem PySem.Spec PyProof.Rows L2 M3
section
variable {P : Program} {w : World} {g : G} {mg : Str → Option Value} {base : Heap} {f_eNoHouse f_eNoNumber f_eNoMoment f_eBadHistory f_iHistory : Addr}
theorem ok_lives (D : M3.Def g.K mg "lives" s_lives ["history"]) (T : Txt mg) (Z : Fx g w mg f_eNoHouse f_eNoNumber f_eNoMoment f_eBadHistory f_iHistory) : M3.Cal P w g.K mg base 1 "lives" ["history"] (spM g.K 1 (mPure (m_lives g))) := by
  refine M3.Cal.imp (D.cal (sp := (spM g.K 1 (m_lives g))) sc_lives (spM_len rfl) (fun f cdv A outer s H vs Q E hr h => ?_)) pure_ok
  exact body_all (N := ["history", "found", "index", "deed", "came", "_"]) (E := E) ((pss_cons (ps_set (i := 1) sc_lives.nd rfl (Or.inl rfl) (pe_lst pa_nil))
      (pss_cons (ps_for (passes_of rfl) rfl (W2.pi_enumA (by rfl) T.n_enumerate (pa_cons (pe_fldK (K := g.K) rfl (pv 0) rfl) pa_nil)) (pg_tup rfl (pgs_cons (pg_name (i := 2) sc_lives.nd rfl (Or.inl rfl)) (pgs_cons (pg_name (i := 3) sc_lives.nd rfl (Or.inl rfl)) pgs_nil))) (pss_one (ps_if (pt_cmpR (op_eqM (K := g.K) rfl hr.units) (pe_ix (ix_M (K := g.K) rfl) (pv 3) pe_int (fun _ _ => rfl)) pe_str (nomark _)) (pss_one (ps_expr (pe_bmK (K := g.K) rfl PySem.F.plainAttrs_list PySem.F.slot_list_append PySem.F.type_list_append mt_append (pv 1) (pa_cons (pe_tup (pa_cons (pv 2) (pa_cons pe_non pa_nil))) pa_nil)))) (pss_one (ps_if (pt_cmpR (op_eqM (K := g.K) rfl hr.units) (pe_ix (ix_M (K := g.K) rfl) (pv 3) pe_int (fun _ _ => rfl)) pe_str (nomark _)) (pss_cons (ps_asg (pe_ix (ix_M (K := g.K) rfl) (pv 1) (pe_ix (ix_M (K := g.K) rfl) (pv 3) pe_int (fun _ _ => rfl)) (fun _ _ => rfl)) (pg_tup rfl (pgs_cons (pg_name (i := 4) sc_lives.nd rfl (Or.inl rfl)) (pgs_cons (pg_name (i := 5) sc_lives.nd rfl (Or.inl rfl)) pgs_nil))))
      (pss_one (ps_asg (pe_tup (pa_cons (pv 4) (pa_cons (pv 2) pa_nil))) (pg_sub (pv 1) (pe_ix (ix_M (K := g.K) rfl) (pv 3) pe_int (fun _ _ => rfl)) set_list)))) pss_nil)))))
      (pss_one (ps_ret (pe_callTy (call_tupM (K := g.K) rfl) (by rfl) T.n_tuple (by decide +kernel) (pa_cons (pv 1) pa_nil)))))))
    ((ss_seq (ss_asgG (se_trk (sl_lst sa_nil)) sg_name)
      (ss_seq (ss_for (si_enum (sa_cons (se_fld Z.FO se_var) sa_nil)) (sg_tup (sgs_cons (fun _ _ => rfl) sg_name (sgs_cons (fun _ _ => rfl) sg_name sgs_nil))) (ss_ifS (st_test (se_op eq_ok (se_op ix_ok se_var se_int) se_str)) (ss_drop (se_bm append_ok se_var (sa_cons (se_tup (sa_cons se_var (sa_cons se_non sa_nil))) sa_nil))) (ss_ifS (st_test (se_op eq_ok (se_op ix_ok se_var se_int) se_str)) (ss_seq (ss_asgG (se_op ix_ok se_var (se_op ix_ok se_var se_int)) (sg_tup (sgs_cons (fun _ _ => rfl) sg_name (sgs_cons (fun _ _ => rfl) sg_name sgs_nil))))
      (ss_asgG (se_tup (sa_cons se_var (sa_cons se_var sa_nil))) (sg_sub se_var (se_op ix_ok se_var se_int)))) ss_next)))
      (ss_ret (se_call tuple_ok (sa_cons se_var sa_nil)))))) h

end
end W3
namespace W3
open PySem PySem.Spec PyProof.Rows L2 M3
section
variable {P : Program} {w : World} {g : G} {mg : Str → Option Value} {base : Heap} {f_eNoHouse f_eNoNumber f_eNoMoment f_eBadHistory f_iHistory : Addr}
theorem ok_with_tie (D : M3.Def g.K mg "_with_tie" s_with_tie ["labels", "one", "other"]) (T : Txt mg) (Z : Fx g w mg f_eNoHouse f_eNoNumber f_eNoMoment f_eBadHistory f_iHistory) : M3.Cal P w g.K mg base 1 "_with_tie" ["labels", "one", "other"] (spM g.K 3 (mPure (m_with_tie g))) := by
  refine M3.Cal.imp (D.cal (sp := (spM g.K 3 (m_with_tie g))) sc_with_tie (spM_len rfl) (fun f cdv A outer s H vs Q E hr h => ?_)) pure_ok
  exact body_all (N := ["labels", "one", "other", "label"]) (E := E) ((pss_one (ps_ret ((pe_lc (own := [("label", 3)]) (g := (gName 3)) (tt := tYes) (by rfl) sc_with_tie.nd (pi_M (K := g.K) rfl (pv 0)) (blkOk_by (own := [("label", 3)]) (N := ["labels", "one", "other", "label"]) (sc := defScope s_with_tie) (by decide +kernel)) (fun _ _ _ _ _ => (pg_name (i := 3) sc_with_tie.nd rfl (Or.inl rfl))) (fun _ _ _ _ _ => pts_nil) (fun _ _ _ _ _ => (pe_ifExp (pt_cmpR (op_eqM (K := g.K) rfl hr.units) (pv 3) (pe_ix (ix_M (K := g.K) rfl) (pv 0) (pv 2) (fun _ _ => rfl)) (nomark _)) (pe_ix (ix_M (K := g.K) rfl) (pv 0) (pv 1) (fun _ _ => rfl)) (pv 3))))))))
    ((ss_ret (se_frz (sl_lc (si_walk se_var) (sgv_name (by decide)) st_yes (se_if (st_test (se_op eq_ok se_var (se_op ix_ok se_var se_var))) (se_op ix_ok se_var se_var) se_var))))) h

end
end W3
namespace W3
open PySem PySem.Spec PyProof.Rows L2 M3
section
variable {P : Program} {w : World} {g : G} {mg : Str → Option Value} {base : Heap} {f_eNoHouse f_eNoNumber f_eNoMoment f_eBadHistory f_iHistory : Addr}
theorem ok_L_parts_by (D : M3.Def g.K mg "_law_parts_by" s_L_parts_by ["_law_many", "_law_ties"]) (T : Txt mg) (Z : Fx g w mg f_eNoHouse f_eNoNumber f_eNoMoment f_eBadHistory f_iHistory) : M3.Cal P w g.K mg base 1 "_law_parts_by" ["_law_many", "_law_ties"] (spM g.K 2 (mPure (m_L_parts_by g))) := by
  refine M3.Cal.imp (D.cal (sp := (spM g.K 2 (m_L_parts_by g))) sc_L_parts_by (spM_len rfl) (fun f cdv A outer s H vs Q E hr h => ?_)) pure_ok
  exact body_all (N := ["_law_many", "_law_ties", "_law_found", "_law_tie", "_law_one", "_law_other", "_law_part"]) (E := E) ((pss_cons (ps_set (i := 2) sc_L_parts_by.nd rfl (Or.inl rfl) ((pe_listRg rfl (by rfl) T.n_list (prg_1 (by rfl) T.n_range (pv 0)))))
      (pss_cons (ps_for (passes_of rfl) rfl (pi_M (K := g.K) rfl (pv 1)) (pg_name (i := 3) sc_L_parts_by.nd rfl (Or.inl rfl)) (pss_cons (ps_asg (pe_tup (pa_cons (pe_ix (ix_M (K := g.K) rfl) (pv 2) (pe_ix (ix_M (K := g.K) rfl) (pv 3) pe_int (fun _ _ => rfl)) (fun _ _ => rfl)) (pa_cons (pe_ix (ix_M (K := g.K) rfl) (pv 2) (pe_ix (ix_M (K := g.K) rfl) (pv 3) pe_int (fun _ _ => rfl)) (fun _ _ => rfl)) pa_nil))) (pg_tup rfl (pgs_cons (pg_name (i := 4) sc_L_parts_by.nd rfl (Or.inr rfl)) (pgs_cons (pg_name (i := 5) sc_L_parts_by.nd rfl (Or.inr rfl)) pgs_nil))))
      (pss_one (ps_setLc (i := 2) (own := [("_law_part", 6)]) (g := (gName 6)) (tt := tYes) (by rfl) sc_L_parts_by.nd rfl rfl (sw_true rfl rfl rfl (by decide +kernel)) (pi_M (K := g.K) rfl (pv 2)) (blkOk_by (own := [("_law_part", 6)]) (N := ["_law_many", "_law_ties", "_law_found", "_law_tie", "_law_one", "_law_other", "_law_part"]) (sc := defScope s_L_parts_by) (by decide +kernel)) (fun _ _ _ _ _ => (pg_name (i := 6) sc_L_parts_by.nd rfl (Or.inl rfl))) (fun _ _ _ _ _ => pts_nil) (fun _ _ _ _ _ => (pe_ifExp (pt_cmpR (op_inM (K := g.K) rfl) (pv 6) (pe_tup (pa_cons (pv 4) (pa_cons (pv 5) pa_nil))) (by rfl)) (pe_callB (call_minM (K := g.K) rfl rfl) (by rfl) T.n_min (by decide +kernel) (pa_cons (pv 4) (pa_cons (pv 5) pa_nil))) (pv 6)))))))
      (pss_one (ps_ret (pv 2))))))
    ((ss_seq (ss_asgG (se_frz (sl_listRg1 se_var)) sg_name)
      (ss_seq (ss_for (si_walk se_var) sg_name (ss_seq (ss_asgG (se_tup (sa_cons (se_op ix_ok se_var (se_op ix_ok se_var se_int)) (sa_cons (se_op ix_ok se_var (se_op ix_ok se_var se_int)) sa_nil))) (sg_tup (sgs_cons (fun _ _ => rfl) sg_name (sgs_cons (fun _ _ => rfl) sg_name sgs_nil))))
      (ss_asgG (se_frz (sl_lc (si_walk se_var) (sgv_name (by decide)) st_yes (se_if (st_test (se_op in_ok se_var (se_tup (sa_cons se_var (sa_cons se_var sa_nil))))) (se_call min_ok (sa_cons se_var (sa_cons se_var sa_nil))) se_var))) sg_name)))
      (ss_ret se_var)))) h

end
end W3
namespace W3
open PySem PySem.Spec PyProof.Rows L2 M3
section
variable {P : Program} {w : World} {g : G} {mg : Str → Option Value} {base : Heap} {f_eNoHouse f_eNoNumber f_eNoMoment f_eBadHistory f_iHistory : Addr}
theorem ok_L_hand (D : M3.Def g.K mg "_law_hand" s_L_hand ["_law_script"]) (T : Txt mg) (Z : Fx g w mg f_eNoHouse f_eNoNumber f_eNoMoment f_eBadHistory f_iHistory) : M3.Cal P w g.K mg base 1 "_law_hand" ["_law_script"] (spM g.K 1 (m_L_hand g)) := by
  refine M3.Cal.mono (D.cal (sp := (spM g.K 1 (m_L_hand g))) sc_L_hand (spM_len rfl) (fun f cdv A outer s H vs Q E hr h => ?_)) (Nat.le_refl _)
  exact body_all (N := ["_law_script", "_law_cells", "_law_cell"]) (E := E) ((pss_cons (ps_setLc (i := 1) (own := [("_law_cell", 2)]) (g := (gName 2)) (tt := tYes) (by rfl) sc_L_hand.nd rfl rfl (sw_true rfl rfl rfl (by decide +kernel)) (pi_M (K := g.K) rfl (pe_slice (sl_M (K := g.K) rfl) (pv 0) po_none (po_some pe_int))) (blkOk_by (own := [("_law_cell", 2)]) (N := ["_law_script", "_law_cells", "_law_cell"]) (sc := defScope s_L_hand) (by decide +kernel)) (fun _ _ _ _ _ => (pg_name (i := 2) sc_L_hand.nd rfl (Or.inl rfl))) (fun _ _ _ _ _ => pts_nil) (fun _ _ _ _ _ => (pe_callB call_abs (by rfl) T.n_abs (by decide +kernel) (pa_cons (pe_callTy call_int1 (by rfl) T.n_int (by decide +kernel) (pa_cons (pv 2) pa_nil)) pa_nil))))
      (pss_one (ps_ret (pe_lst (pa_cons (pv 1) (pa_cons pe_int (pa_cons pe_int (pa_cons (pe_op (op_addM (K := g.K) rfl) pe_int (pe_callB (call_lenM (K := g.K) rfl) (by rfl) T.n_len PySem.boot_len (pa_cons (pv 1) pa_nil))) (pa_cons pe_int pa_nil))))))))))
    ((ss_seq (ss_asgG (se_frz (sl_lc (si_walk (se_sl se_var so_none (so_some se_int))) (sgv_name (by decide)) st_yes (se_call abs_ok (sa_cons (se_call int_ok (sa_cons se_var sa_nil)) sa_nil)))) sg_name)
      (ss_ret (se_trk (sl_lst (sa_cons se_var (sa_cons se_int (sa_cons se_int (sa_cons (se_op add_ok se_int (se_call len_ok (sa_cons se_var sa_nil))) (sa_cons se_int sa_nil)))))))))) h

end
end W3
namespace W3
open PySem PySem.Spec PyProof.Rows L2 M3
section
variable {P : Program} {w : World} {g : G} {mg : Str → Option Value} {base : Heap} {f_eNoHouse f_eNoNumber f_eNoMoment f_eBadHistory f_iHistory : Addr}
theorem ok_L_draw (D : M3.Def g.K mg "_law_draw" s_L_draw ["_law_hand_here", "_law_many"]) (T : Txt mg) (Z : Fx g w mg f_eNoHouse f_eNoNumber f_eNoMoment f_eBadHistory f_iHistory) : M3.Cal P w g.K mg base 1 "_law_draw" ["_law_hand_here", "_law_many"] (spM g.K 2 (mScope (m_L_draw g))) := by
  refine M3.Cal.imp (D.cal (sp := (spM g.K 2 (m_L_draw g))) sc_L_draw (spM_len rfl) (fun f cdv A outer s H vs Q E hr h => ?_)) scope_ok
  exact body_all (N := ["_law_hand_here", "_law_many", "_law_cell", "_law_digit", "_law_number"]) (E := E) ((pss_cons (ps_if (PW.pt (pw_and (pt_cmpR (op_eqM (K := g.K) rfl hr.units) (pe_ix (ix_M (K := g.K) rfl) (pv 0) pe_int (fun _ _ => rfl)) pe_int (nomark _)) (pw_and1 (pt_cmpR op_lt (pe_ix (ix_M (K := g.K) rfl) (pv 0) pe_int (fun _ _ => rfl)) (pe_callB (call_lenM (K := g.K) rfl) (by rfl) T.n_len PySem.boot_len (pa_cons (pe_ix (ix_M (K := g.K) rfl) (pv 0) pe_int (fun _ _ => rfl)) pa_nil)) (nomark _))))) (pss_cons (ps_set (i := 2) sc_L_draw.nd rfl (Or.inl rfl) (pe_ix (ix_M (K := g.K) rfl) (pe_ix (ix_M (K := g.K) rfl) (pv 0) pe_int (fun _ _ => rfl)) (pe_ix (ix_M (K := g.K) rfl) (pv 0) pe_int (fun _ _ => rfl)) (fun _ _ => rfl)))
      (pss_cons (ps_asg (pe_op (op_addM (K := g.K) rfl) (pe_ix (ix_M (K := g.K) rfl) (pv 0) pe_int (fun _ _ => rfl)) pe_int) (pg_sub (pv 0) pe_int set_list))
      (pss_cons (ps_asg (pe_op op_mod (pe_callTy call_int1 (by rfl) T.n_int (by decide +kernel) (pa_cons (pe_op (op_addM (K := g.K) rfl) (pe_op (op_addM (K := g.K) rfl) (pe_op (op_mulM (K := g.K) rfl) (pe_ix (ix_M (K := g.K) rfl) (pv 0) pe_int (fun _ _ => rfl)) pe_int) (pv 2)) pe_int) pa_nil)) pe_int) (pg_sub (pv 0) pe_int set_list))
      (pss_one (ps_if (pt_cmpR op_ge (pv 2) (pe_op op_pow pe_int pe_int) (nomark _)) (pss_one (ps_asg (pv 2) (pg_sub (pv 0) pe_int set_list))) pss_nil))))) pss_nil)
      (pss_cons (ps_if (pt_cmpR op_gt (pe_ix (ix_M (K := g.K) rfl) (pv 0) pe_int (fun _ _ => rfl)) pe_int (nomark _)) (pss_cons (ps_set (i := 3) sc_L_draw.nd rfl (Or.inl rfl) (pe_op op_mod (pe_callTy call_int1 (by rfl) T.n_int (by decide +kernel) (pa_cons (pe_ix (ix_M (K := g.K) rfl) (pv 0) pe_int (fun _ _ => rfl)) pa_nil)) (pv 1)))
      (pss_cons (ps_asg (pe_op op_fdivW (pe_ix (ix_M (K := g.K) rfl) (pv 0) pe_int (fun _ _ => rfl)) (pv 1)) (pg_sub (pv 0) pe_int set_list))
      (pss_one (ps_ret (pv 3))))) pss_nil)
      (pss_cons (ps_asg (pe_op (op_addM (K := g.K) rfl) (pe_ix (ix_M (K := g.K) rfl) (pv 0) pe_int (fun _ _ => rfl)) pe_int) (pg_sub (pv 0) pe_int set_list))
      (pss_cons (ps_set (i := 4) sc_L_draw.nd rfl (Or.inl rfl) (pe_op op_mod (pe_callTy call_int1 (by rfl) T.n_int (by decide +kernel) (pa_cons (pe_op (op_mulM (K := g.K) rfl) (pe_callTy call_int1 (by rfl) T.n_int (by decide +kernel) (pa_cons (pe_op (op_addM (K := g.K) rfl) (pe_ix (ix_M (K := g.K) rfl) (pv 0) pe_int (fun _ _ => rfl)) (pe_op (op_mulM (K := g.K) rfl) pe_int (pe_ix (ix_M (K := g.K) rfl) (pv 0) pe_int (fun _ _ => rfl)))) pa_nil)) pe_int) pa_nil)) pe_int))
      (pss_cons (ps_set (i := 4) sc_L_draw.nd rfl (Or.inl rfl) (pe_op op_mod (pe_callTy call_int1 (by rfl) T.n_int (by decide +kernel) (pa_cons (pe_op (op_mulM (K := g.K) rfl) (pv 4) (pe_op (op_addM (K := g.K) rfl) (pe_op op_fdivW (pv 4) pe_int) pe_int)) pa_nil)) pe_int))
      (pss_cons (ps_set (i := 4) sc_L_draw.nd rfl (Or.inl rfl) (pe_op op_mod (pe_callTy call_int1 (by rfl) T.n_int (by decide +kernel) (pa_cons (pe_op (op_mulM (K := g.K) rfl) (pv 4) (pe_op (op_addM (K := g.K) rfl) (pe_op op_fdivW (pv 4) pe_int) pe_int)) pa_nil)) pe_int))
      (pss_one (ps_ret (pe_op op_mod (pe_callTy call_int1 (by rfl) T.n_int (by decide +kernel) (pa_cons (pe_op op_fdivW (pv 4) pe_int) pa_nil)) (pv 1)))))))))))
    ((ss_seq (ss_ifS (st_and (st_test (se_op eq_ok (se_op ix_ok se_var se_int) se_int)) (st_test (se_op lt_ok (se_op ix_ok se_var se_int) (se_call len_ok (sa_cons (se_op ix_ok se_var se_int) sa_nil))))) (ss_seq (ss_asgG (se_op ix_ok (se_op ix_ok se_var se_int) (se_op ix_ok se_var se_int)) sg_name)
      (ss_seq (ss_asgG (se_op add_ok (se_op ix_ok se_var se_int) se_int) (sg_sub se_var se_int))
      (ss_seq (ss_asgG (se_op mod_ok (se_call int_ok (sa_cons (se_op add_ok (se_op add_ok (se_op mul_ok (se_op ix_ok se_var se_int) se_int) se_var) se_int) sa_nil)) se_int) (sg_sub se_var se_int))
      (ss_ifS (st_test (se_op ge_ok se_var (se_op pow_ok se_int se_int))) (ss_asgG se_var (sg_sub se_var se_int)) ss_next)))) ss_next)
      (ss_seq (ss_ifS (st_test (se_op gt_ok (se_op ix_ok se_var se_int) se_int)) (ss_seq (ss_asgG (se_op mod_ok (se_call int_ok (sa_cons (se_op ix_ok se_var se_int) sa_nil)) se_var) sg_name)
      (ss_seq (ss_asgG (se_op div_ok (se_op ix_ok se_var se_int) se_var) (sg_sub se_var se_int))
      (ss_ret se_var))) ss_next)
      (ss_seq (ss_asgG (se_op add_ok (se_op ix_ok se_var se_int) se_int) (sg_sub se_var se_int))
      (ss_seq (ss_asgG (se_op mod_ok (se_call int_ok (sa_cons (se_op mul_ok (se_call int_ok (sa_cons (se_op add_ok (se_op ix_ok se_var se_int) (se_op mul_ok se_int (se_op ix_ok se_var se_int))) sa_nil)) se_int) sa_nil)) se_int) sg_name)
      (ss_seq (ss_asgG (se_op mod_ok (se_call int_ok (sa_cons (se_op mul_ok se_var (se_op add_ok (se_op div_ok se_var se_int) se_int)) sa_nil)) se_int) sg_name)
      (ss_seq (ss_asgG (se_op mod_ok (se_call int_ok (sa_cons (se_op mul_ok se_var (se_op add_ok (se_op div_ok se_var se_int) se_int)) sa_nil)) se_int) sg_name)
      (ss_ret (se_op mod_ok (se_call int_ok (sa_cons (se_op div_ok se_var se_int) sa_nil)) se_var))))))))) h

end
end W3
namespace W3
open PySem PySem.Spec PyProof.Rows L2 M3
section
variable {P : Program} {w : World} {g : G} {mg : Str → Option Value} {base : Heap} {f_eNoHouse f_eNoNumber f_eNoMoment f_eBadHistory f_iHistory : Addr}
theorem ok_L_lives (D : M3.Def g.K mg "_law_lives" s_L_lives ["_law_deeds"]) (T : Txt mg) (Z : Fx g w mg f_eNoHouse f_eNoNumber f_eNoMoment f_eBadHistory f_iHistory) : M3.Cal P w g.K mg base 1 "_law_lives" ["_law_deeds"] (spM g.K 1 (mPure (m_L_lives g))) := by
  refine M3.Cal.imp (D.cal (sp := (spM g.K 1 (m_L_lives g))) sc_L_lives (spM_len rfl) (fun f cdv A outer s H vs Q E hr h => ?_)) pure_ok
  exact body_all (N := ["_law_deeds", "_law_found", "_law_index", "_law_deed"]) (E := E) ((pss_cons (ps_set (i := 1) sc_L_lives.nd rfl (Or.inl rfl) (pe_lst pa_nil))
      (pss_cons (ps_for (passes_of rfl) rfl (W2.pi_enumA (by rfl) T.n_enumerate (pa_cons (pv 0) pa_nil)) (pg_tup rfl (pgs_cons (pg_name (i := 2) sc_L_lives.nd rfl (Or.inl rfl)) (pgs_cons (pg_name (i := 3) sc_L_lives.nd rfl (Or.inl rfl)) pgs_nil))) (pss_cons (ps_if (pt_cmpR (op_eqM (K := g.K) rfl hr.units) (pe_ix (ix_M (K := g.K) rfl) (pv 3) pe_int (fun _ _ => rfl)) pe_str (nomark _)) (pss_one (ps_expr (pe_bmK (K := g.K) rfl PySem.F.plainAttrs_list PySem.F.slot_list_append PySem.F.type_list_append mt_append (pv 1) (pa_cons (pe_tup (pa_cons (pe_ix (ix_M (K := g.K) rfl) (pv 3) pe_int (fun _ _ => rfl)) (pa_cons (pe_ix (ix_M (K := g.K) rfl) (pv 3) pe_int (fun _ _ => rfl)) (pa_cons (pv 2) (pa_cons pe_non pa_nil))))) pa_nil)))) pss_nil)
      (pss_one (ps_if (pt_cmpR (op_eqM (K := g.K) rfl hr.units) (pe_ix (ix_M (K := g.K) rfl) (pv 3) pe_int (fun _ _ => rfl)) pe_str (nomark _)) (pss_one (ps_asg (pe_op (op_addM (K := g.K) rfl) (pe_slice (sl_M (K := g.K) rfl) (pe_ix (ix_M (K := g.K) rfl) (pv 1) (pe_ix (ix_M (K := g.K) rfl) (pv 3) pe_int (fun _ _ => rfl)) (fun _ _ => rfl)) po_none (po_some pe_int)) (pe_tup (pa_cons (pv 2) pa_nil))) (pg_sub (pv 1) (pe_ix (ix_M (K := g.K) rfl) (pv 3) pe_int (fun _ _ => rfl)) set_list))) pss_nil))))
      (pss_one (ps_ret (pv 1))))))
    ((ss_seq (ss_asgG (se_trk (sl_lst sa_nil)) sg_name)
      (ss_seq (ss_for (si_enum (sa_cons se_var sa_nil)) (sg_tup (sgs_cons (fun _ _ => rfl) sg_name (sgs_cons (fun _ _ => rfl) sg_name sgs_nil))) (ss_seq (ss_ifS (st_test (se_op eq_ok (se_op ix_ok se_var se_int) se_str)) (ss_drop (se_bm append_ok se_var (sa_cons (se_tup (sa_cons (se_op ix_ok se_var se_int) (sa_cons (se_op ix_ok se_var se_int) (sa_cons se_var (sa_cons se_non sa_nil))))) sa_nil))) ss_next)
      (ss_ifS (st_test (se_op eq_ok (se_op ix_ok se_var se_int) se_str)) (ss_asgG (se_op add_ok (se_sl (se_op ix_ok se_var (se_op ix_ok se_var se_int)) so_none (so_some se_int)) (se_tup (sa_cons se_var sa_nil))) (sg_sub se_var (se_op ix_ok se_var se_int))) ss_next)))
      (ss_ret se_var)))) h

end
end W3
namespace W3
open PySem PySem.Spec PyProof.Rows L2 M3
section
variable {P : Program} {w : World} {g : G} {mg : Str → Option Value} {base : Heap} {f_eNoHouse f_eNoNumber f_eNoMoment f_eBadHistory f_iHistory : Addr}
theorem ok_L_there (D : M3.Def g.K mg "_law_there" s_L_there ["_law_spans", "_law_at"]) (T : Txt mg) (Z : Fx g w mg f_eNoHouse f_eNoNumber f_eNoMoment f_eBadHistory f_iHistory) : M3.Cal P w g.K mg base 1 "_law_there" ["_law_spans", "_law_at"] (spM g.K 2 (mPure (m_L_there g))) := by
  refine M3.Cal.imp (D.cal (sp := (spM g.K 2 (m_L_there g))) sc_L_there (spM_len rfl) (fun f cdv A outer s H vs Q E hr h => ?_)) pure_ok
  exact body_all (N := ["_law_spans", "_law_at", "_law_number", "_law_life"]) (E := E) ((pss_one (ps_ret ((pe_lc (own := [("_law_number", 2), ("_law_life", 3)]) (g := (gTup g.K 2 (gCons (gName 2) (gCons (gName 3) gNil)))) (by rfl) sc_L_there.nd (W2.pi_enumA (by rfl) T.n_enumerate (pa_cons (pv 0) pa_nil)) (blkOk_by (own := [("_law_number", 2), ("_law_life", 3)]) (N := ["_law_spans", "_law_at", "_law_number", "_law_life"]) (sc := defScope s_L_there) (by decide +kernel)) (fun _ _ _ _ _ => (pg_tup rfl (pgs_cons (pg_name (i := 2) sc_L_there.nd rfl (Or.inl rfl)) (pgs_cons (pg_name (i := 3) sc_L_there.nd rfl (Or.inl rfl)) pgs_nil)))) (fun _ _ _ _ _ => pts_one (PW.pt (pw_and (pt_cmpR op_lt (pe_ix (ix_M (K := g.K) rfl) (pv 3) pe_int (fun _ _ => rfl)) (pv 1) (nomark _)) (pw_and1 (PW.pt (pw_or (pt_cmpR op_isN (pe_ix (ix_M (K := g.K) rfl) (pv 3) pe_int (fun _ _ => rfl)) pe_non (nomark _)) (pw_or1 (pt_cmpR op_ge (pe_ix (ix_M (K := g.K) rfl) (pv 3) pe_int (fun _ _ => rfl)) (pv 1) (nomark _))))))))) (fun _ _ _ _ _ => (pv 2)))))))
    ((ss_ret (se_frz (sl_lc (si_enum (sa_cons se_var sa_nil)) (sgv_tup (sgvs_cons (sgv_name (by decide)) (sgvs_cons (sgv_name (by decide)) sgvs_nil))) (st_and (st_test (se_op lt_ok (se_op ix_ok se_var se_int) se_var)) (st_or (st_test (se_op isN_okR (se_op ix_ok se_var se_int) se_non)) (st_test (se_op ge_ok (se_op ix_ok se_var se_int) se_var)))) se_var)))) h

end
end W3
namespace W3
open PySem PySem.Spec PyProof.Rows L2 M3
section
variable {P : Program} {w : World} {g : G} {mg : Str → Option Value} {base : Heap} {f_eNoHouse f_eNoNumber f_eNoMoment f_eBadHistory f_iHistory : Addr}
theorem ok_is_between (D : M3.Def g.K mg "is_between" s_is_between ["least", "most", "thing"]) (T : Txt mg) (Z : Fx g w mg f_eNoHouse f_eNoNumber f_eNoMoment f_eBadHistory f_iHistory) (C_is_integer : M3.Cal P w g.K mg base 1 "is_integer" ["thing"] (spM g.K 1 (mPure (m_is_integer g)))) : M3.Cal P w g.K mg base 2 "is_between" ["least", "most", "thing"] (spM g.K 3 (mPure (m_is_between g))) := by
  refine M3.Cal.imp (D.cal (sp := (spM g.K 3 (m_is_between g))) sc_is_between (spM_len rfl) (fun f cdv A outer s H vs Q E hr h => ?_)) pure_ok
  exact body_all (N := ["least", "most", "thing"]) (E := E) ((pss_one (ps_ret (pe_and (pcal C_is_integer hr (by omega) rfl (takes_of rfl rfl rfl rfl) (pa_cons (pv 2) pa_nil)) (pe_one (pe_chain op_le op_le (pv 0) (pv 2) (pv 1)))))))
    ((ss_ret (se_and (se_def (sa_cons se_var sa_nil)) (se_chain le_ok le_ok se_var se_var se_var)))) h

end
end W3
namespace W3
open PySem PySem.Spec PyProof.Rows L2 M3
section
variable {P : Program} {w : World} {g : G} {mg : Str → Option Value} {base : Heap} {f_eNoHouse f_eNoNumber f_eNoMoment f_eBadHistory f_iHistory : Addr}
theorem ok_is_number (D : M3.Def g.K mg "is_number" s_is_number ["thing"]) (T : Txt mg) (Z : Fx g w mg f_eNoHouse f_eNoNumber f_eNoMoment f_eBadHistory f_iHistory) (C_is_integer : M3.Cal P w g.K mg base 1 "is_integer" ["thing"] (spM g.K 1 (mPure (m_is_integer g)))) : M3.Cal P w g.K mg base 2 "is_number" ["thing"] (spM g.K 1 (mPure (m_is_number g))) := by
  refine M3.Cal.imp (D.cal (sp := (spM g.K 1 (m_is_number g))) sc_is_number (spM_len rfl) (fun f cdv A outer s H vs Q E hr h => ?_)) pure_ok
  exact body_all (N := ["thing"]) (E := E) ((pss_one (ps_ret (pe_and (pcal C_is_integer hr (by omega) rfl (takes_of rfl rfl rfl rfl) (pa_cons (pv 0) pa_nil)) (pe_one (pe_cmpR op_ge (pv 0) pe_int (nomark _)))))))
    ((ss_ret (se_and (se_def (sa_cons se_var sa_nil)) (se_op ge_ok se_var se_int)))) h

end
end W3
namespace W3
open PySem PySem.Spec PyProof.Rows L2 M3
section
variable {P : Program} {w : World} {g : G} {mg : Str → Option Value} {base : Heap} {f_eNoHouse f_eNoNumber f_eNoMoment f_eBadHistory f_iHistory : Addr}
theorem ok_there (D : M3.Def g.K mg "_there" s_there ["history", "at"]) (T : Txt mg) (Z : Fx g w mg f_eNoHouse f_eNoNumber f_eNoMoment f_eBadHistory f_iHistory) (C_lives : M3.Cal P w g.K mg base 1 "lives" ["history"] (spM g.K 1 (mPure (m_lives g)))) : M3.Cal P w g.K mg base 2 "_there" ["history", "at"] (spM g.K 2 (mPure (m_there g))) := by
  refine M3.Cal.imp (D.cal (sp := (spM g.K 2 (m_there g))) sc_there (spM_len rfl) (fun f cdv A outer s H vs Q E hr h => ?_)) pure_ok
  exact body_all (N := ["history", "at", "found", "tie", "come", "go"]) (E := E) ((pss_cons (ps_set (i := 2) sc_there.nd rfl (Or.inl rfl) (pe_lst pa_nil))
      (pss_cons (ps_for (passes_of rfl) rfl (W2.pi_enumA (by rfl) T.n_enumerate (pa_cons (pcal C_lives hr (by omega) rfl (takes_of rfl rfl rfl rfl) (pa_cons (pv 0) pa_nil)) pa_nil)) (pg_tup rfl (pgs_cons (pg_name (i := 3) sc_there.nd rfl (Or.inl rfl)) (pgs_cons (pg_tup rfl (pgs_cons (pg_name (i := 4) sc_there.nd rfl (Or.inl rfl)) (pgs_cons (pg_name (i := 5) sc_there.nd rfl (Or.inl rfl)) pgs_nil))) pgs_nil))) (pss_one (ps_if (PW.pt (pw_and (pt_cmpR op_lt (pv 4) (pv 1) (nomark _)) (pw_and1 (PW.pt (pw_or (pt_cmpR op_isN (pv 5) pe_non (nomark _)) (pw_or1 (pt_cmpR op_ge (pv 5) (pv 1) (nomark _)))))))) (pss_one (ps_expr (pe_bmK (K := g.K) rfl PySem.F.plainAttrs_list PySem.F.slot_list_append PySem.F.type_list_append mt_append (pv 2) (pa_cons (pe_tup (pa_cons (pv 3) (pa_cons (pe_ix (ix_M (K := g.K) rfl) (pe_ix (ix_M (K := g.K) rfl) (pe_fldK (K := g.K) rfl (pv 0) rfl) (pv 4) (fun _ _ => rfl)) pe_int (fun _ _ => rfl)) (pa_cons (pe_ix (ix_M (K := g.K) rfl) (pe_ix (ix_M (K := g.K) rfl) (pe_fldK (K := g.K) rfl (pv 0) rfl) (pv 4) (fun _ _ => rfl)) pe_int (fun _ _ => rfl)) pa_nil)))) pa_nil)))) pss_nil)))
      (pss_one (ps_ret (pv 2))))))
    ((ss_seq (ss_asgG (se_trk (sl_lst sa_nil)) sg_name)
      (ss_seq (ss_for (si_enum (sa_cons (se_def (sa_cons se_var sa_nil)) sa_nil)) (sg_tup (sgs_cons (fun _ _ => rfl) sg_name (sgs_cons (fun _ _ => rfl) (sg_tup (sgs_cons (fun _ _ => rfl) sg_name (sgs_cons (fun _ _ => rfl) sg_name sgs_nil))) sgs_nil))) (ss_ifS (st_and (st_test (se_op lt_ok se_var se_var)) (st_or (st_test (se_op isN_okR se_var se_non)) (st_test (se_op ge_ok se_var se_var)))) (ss_drop (se_bm append_ok se_var (sa_cons (se_tup (sa_cons se_var (sa_cons (se_op ix_ok (se_op ix_ok (se_fld Z.FO se_var) se_var) se_int) (sa_cons (se_op ix_ok (se_op ix_ok (se_fld Z.FO se_var) se_var) se_int) sa_nil)))) sa_nil))) ss_next))
      (ss_ret se_var)))) h

end
end W3
namespace W3
open PySem PySem.Spec PyProof.Rows L2 M3
section
variable {P : Program} {w : World} {g : G} {mg : Str → Option Value} {base : Heap} {f_eNoHouse f_eNoNumber f_eNoMoment f_eBadHistory f_iHistory : Addr}
theorem ok_L_history (D : M3.Def g.K mg "_law_history" s_L_history ["_law_hand_here"]) (T : Txt mg) (Z : Fx g w mg f_eNoHouse f_eNoNumber f_eNoMoment f_eBadHistory f_iHistory) (C_L_draw : M3.Cal P w g.K mg base 1 "_law_draw" ["_law_hand_here", "_law_many"] (spM g.K 2 (mScope (m_L_draw g)))) : M3.Cal P w g.K mg base 2 "_law_history" ["_law_hand_here"] (spM g.K 1 (mScope (m_L_history g))) := by
  refine M3.Cal.imp (D.cal (sp := (spM g.K 1 (m_L_history g))) sc_L_history (spM_len rfl) (fun f cdv A outer s H vs Q E hr h => ?_)) scope_ok
  exact body_all (N := ["_law_hand_here", "_law_many", "_law_deeds", "_law_there_here", "_law_came", "_law_turn", "_law_kind", "_law_one", "_law_other"]) (E := E) ((pss_cons (ps_set (i := 1) sc_L_history.nd rfl (Or.inl rfl) (pe_ix (ix_M (K := g.K) rfl) ((pe_lst (pa_cons pe_int (pa_cons pe_int (pa_cons pe_int (pa_cons pe_int (pa_cons pe_int (pa_cons pe_int (pa_cons pe_int pa_nil))))))))) (pcal C_L_draw hr (by omega) rfl (takes_of rfl rfl rfl rfl) (pa_cons (pv 0) (pa_cons pe_int pa_nil))) (fun _ _ => rfl)))
      (pss_cons (ps_set (i := 2) sc_L_history.nd rfl (Or.inl rfl) (pe_lst pa_nil))
      (pss_cons (ps_set (i := 3) sc_L_history.nd rfl (Or.inl rfl) (pe_lst pa_nil))
      (pss_cons (ps_set (i := 4) sc_L_history.nd rfl (Or.inl rfl) pe_int)
      (pss_cons (ps_for (passes_of rfl) rfl (pi_range1 rfl T.n_range (pa_cons (pcal C_L_draw hr (by omega) rfl (takes_of rfl rfl rfl rfl) (pa_cons (pv 0) (pa_cons (pe_ix (ix_M (K := g.K) rfl) ((pe_lst (pa_cons pe_int (pa_cons pe_int (pa_cons pe_int (pa_cons pe_int pa_nil)))))) (pcal C_L_draw hr (by omega) rfl (takes_of rfl rfl rfl rfl) (pa_cons (pv 0) (pa_cons pe_int pa_nil))) (fun _ _ => rfl)) pa_nil))) pa_nil)) (pg_name (i := 5) sc_L_history.nd rfl (Or.inl rfl)) (pss_cons (ps_set (i := 6) sc_L_history.nd rfl (Or.inl rfl) (pcal C_L_draw hr (by omega) rfl (takes_of rfl rfl rfl rfl) (pa_cons (pv 0) (pa_cons pe_int pa_nil))))
      (pss_cons (ps_par (i := 7) (j := 8) (by rfl) sc_L_history.nd rfl rfl (by decide) rfl rfl (pa_cons (pcal C_L_draw hr (by omega) rfl (takes_of rfl rfl rfl rfl) (pa_cons (pv 0) (pa_cons (pv 1) pa_nil))) (pa_cons (pcal C_L_draw hr (by omega) rfl (takes_of rfl rfl rfl rfl) (pa_cons (pv 0) (pa_cons (pv 1) pa_nil))) pa_nil)) (by rfl))
      (pss_one (ps_if (PW.pt (pw_and (pt_cmpR op_lt (pv 6) pe_int (nomark _)) (pw_and (pt_cmpR (op_neM (K := g.K) rfl hr.units) (pv 7) (pv 8) (nomark _)) (pw_and1 (pt_cmpR op_lt (pv 4) pe_int (nomark _)))))) (pss_cons (ps_expr (pe_bmK (K := g.K) rfl PySem.F.plainAttrs_list PySem.F.slot_list_append PySem.F.type_list_append mt_append (pv 2) (pa_cons (pe_tup (pa_cons pe_str (pa_cons (pv 7) (pa_cons (pv 8) pa_nil)))) pa_nil)))
      (pss_cons (ps_expr (pe_bmK (K := g.K) rfl PySem.F.plainAttrs_list PySem.F.slot_list_append PySem.F.type_list_append mt_append (pv 3) (pa_cons (pv 4) pa_nil)))
      (pss_one (ps_set (i := 4) sc_L_history.nd rfl (Or.inl rfl) (pe_op (op_addM (K := g.K) rfl) (pv 4) pe_int))))) (pss_one (ps_if (PW.pt (pw_and (pt_cmpR op_lt (pv 6) pe_int (nomark _)) (pw_and1 (pt_cmpR op_gt (pe_callB (call_lenM (K := g.K) rfl) (by rfl) T.n_len PySem.boot_len (pa_cons (pv 3) pa_nil)) pe_int (nomark _))))) (pss_one (ps_expr (pe_bmK (K := g.K) rfl PySem.F.plainAttrs_list PySem.F.slot_list_append PySem.F.type_list_append mt_append (pv 2) (pa_cons (pe_tup (pa_cons pe_str (pa_cons (pe_bmK (K := g.K) rfl PySem.F.plainAttrs_list PySem.F.slot_list_pop PySem.F.type_list_pop mt_popAt (pv 3) (pa_cons (pcal C_L_draw hr (by omega) rfl (takes_of rfl rfl rfl rfl) (pa_cons (pv 0) (pa_cons (pe_callB (call_lenM (K := g.K) rfl) (by rfl) T.n_len PySem.boot_len (pa_cons (pv 3) pa_nil)) pa_nil))) pa_nil)) pa_nil))) pa_nil)))) (pss_one (ps_expr (pe_bmK (K := g.K) rfl PySem.F.plainAttrs_list PySem.F.slot_list_append PySem.F.type_list_append mt_append (pv 2) (pa_cons (pe_tup (pa_cons pe_str (pa_cons (pv 7) (pa_cons (pv 8) pa_nil)))) pa_nil)))))))))))
      (pss_one (ps_ret (pe_tup (pa_cons (pv 1) (pa_cons (pe_callTy (call_tupM (K := g.K) rfl) (by rfl) T.n_tuple (by decide +kernel) (pa_cons (pv 2) pa_nil)) pa_nil)))))))))))
    ((ss_seq (ss_asgG (se_op ix_ok (se_frz (sl_lst (sa_cons se_int (sa_cons se_int (sa_cons se_int (sa_cons se_int (sa_cons se_int (sa_cons se_int (sa_cons se_int sa_nil))))))))) (se_def (sa_cons se_var (sa_cons se_int sa_nil)))) sg_name)
      (ss_seq (ss_asgG (se_trk (sl_lst sa_nil)) sg_name)
      (ss_seq (ss_asgG (se_trk (sl_lst sa_nil)) sg_name)
      (ss_seq (ss_asgG se_int sg_name)
      (ss_seq (ss_for (si_rng1 (sa_cons (se_def (sa_cons se_var (sa_cons (se_op ix_ok (se_frz (sl_lst (sa_cons se_int (sa_cons se_int (sa_cons se_int (sa_cons se_int sa_nil)))))) (se_def (sa_cons se_var (sa_cons se_int sa_nil)))) sa_nil))) sa_nil)) sg_name (ss_seq (ss_asgG (se_def (sa_cons se_var (sa_cons se_int sa_nil))) sg_name)
      (ss_seq (ss_par (sa_cons (se_def (sa_cons se_var (sa_cons se_var sa_nil))) (sa_cons (se_def (sa_cons se_var (sa_cons se_var sa_nil))) sa_nil)))
      (ss_ifS (st_and (st_test (se_op lt_ok se_var se_int)) (st_and (st_test (se_op ne_ok se_var se_var)) (st_test (se_op lt_ok se_var se_int)))) (ss_seq (ss_drop (se_bm append_ok se_var (sa_cons (se_tup (sa_cons se_str (sa_cons se_var (sa_cons se_var sa_nil)))) sa_nil)))
      (ss_seq (ss_drop (se_bm append_ok se_var (sa_cons se_var sa_nil)))
      (ss_asgG (se_op add_ok se_var se_int) sg_name))) (ss_ifS (st_and (st_test (se_op lt_ok se_var se_int)) (st_test (se_op gt_ok (se_call len_ok (sa_cons se_var sa_nil)) se_int))) (ss_drop (se_bm append_ok se_var (sa_cons (se_tup (sa_cons se_str (sa_cons (se_bm popAt_ok se_var (sa_cons (se_def (sa_cons se_var (sa_cons (se_call len_ok (sa_cons se_var sa_nil)) sa_nil))) sa_nil)) sa_nil))) sa_nil))) (ss_drop (se_bm append_ok se_var (sa_cons (se_tup (sa_cons se_str (sa_cons se_var (sa_cons se_var sa_nil)))) sa_nil))))))))
      (ss_ret (se_tup (sa_cons se_var (sa_cons (se_call tuple_ok (sa_cons se_var sa_nil)) sa_nil)))))))))) h

end
end W3
namespace W3
open PySem PySem.Spec PyProof.Rows L2 M3
section
variable {P : Program} {w : World} {g : G} {mg : Str → Option Value} {base : Heap} {f_eNoHouse f_eNoNumber f_eNoMoment f_eBadHistory f_iHistory : Addr}
theorem ok_L_longest (D : M3.Def g.K mg "_law_longest" s_L_longest ["_law_many", "_law_spans", "_law_there_here"]) (T : Txt mg) (Z : Fx g w mg f_eNoHouse f_eNoNumber f_eNoMoment f_eBadHistory f_iHistory) (C_L_parts_by : M3.Cal P w g.K mg base 1 "_law_parts_by" ["_law_many", "_law_ties"] (spM g.K 2 (mPure (m_L_parts_by g)))) : M3.Cal P w g.K mg base 2 "_law_longest" ["_law_many", "_law_spans", "_law_there_here"] (spM g.K 3 (mPure (m_L_longest g))) := by
  refine M3.Cal.imp (D.cal (sp := (spM g.K 3 (m_L_longest g))) sc_L_longest (spM_len rfl) (fun f cdv A outer s H vs Q E hr h => ?_)) pure_ok
  exact body_all (N := ["_law_many", "_law_spans", "_law_there_here", "_law_order", "_law_number", "_law_found", "_law_rank", "_law_parts", "_law_elder"]) (E := E) ((pss_cons (ps_set (i := 3) sc_L_longest.nd rfl (Or.inl rfl) ((pe_callB (call_sortM (K := g.K) rfl hr.units) (by rfl) T.n_sorted (by decide +kernel) (pa_cons ((pe_lc (own := [("_law_number", 4)]) (g := (gName 4)) (tt := tYes) (by rfl) sc_L_longest.nd (pi_M (K := g.K) rfl (pv 2)) (blkOk_by (own := [("_law_number", 4)]) (N := ["_law_many", "_law_spans", "_law_there_here", "_law_order", "_law_number", "_law_found", "_law_rank", "_law_parts", "_law_elder"]) (sc := defScope s_L_longest) (by decide +kernel)) (fun _ _ _ _ _ => (pg_name (i := 4) sc_L_longest.nd rfl (Or.inl rfl))) (fun _ _ _ _ _ => pts_nil) (fun _ _ _ _ _ => (pe_tup (pa_cons (pe_ifExp (pt_cmpR op_isN (pe_ix (ix_M (K := g.K) rfl) (pe_ix (ix_M (K := g.K) rfl) (pv 1) (pv 4) (fun _ _ => rfl)) pe_int (fun _ _ => rfl)) pe_non (nomark _)) pe_int (pe_op op_sub pe_int (pe_ix (ix_M (K := g.K) rfl) (pe_ix (ix_M (K := g.K) rfl) (pv 1) (pv 4) (fun _ _ => rfl)) pe_int (fun _ _ => rfl)))) (pa_cons (pv 4) pa_nil)))))) pa_nil))))
      (pss_cons (ps_set (i := 5) sc_L_longest.nd rfl (Or.inl rfl) (pe_lst pa_nil))
      (pss_cons (ps_for (passes_of rfl) rfl (pi_M (K := g.K) rfl (pv 3)) (pg_tup rfl (pgs_cons (pg_name (i := 6) sc_L_longest.nd rfl (Or.inl rfl)) (pgs_cons (pg_name (i := 4) sc_L_longest.nd rfl (Or.inl rfl)) pgs_nil))) (pss_cons (ps_set (i := 7) sc_L_longest.nd rfl (Or.inl rfl) (pcal C_L_parts_by hr (by omega) rfl (takes_of rfl rfl rfl rfl) (pa_cons (pv 0) (pa_cons ((pe_lc (own := [("_law_elder", 8)]) (g := (gName 8)) (tt := tYes) (by rfl) sc_L_longest.nd (pi_M (K := g.K) rfl (pv 5)) (blkOk_by (own := [("_law_elder", 8)]) (N := ["_law_many", "_law_spans", "_law_there_here", "_law_order", "_law_number", "_law_found", "_law_rank", "_law_parts", "_law_elder"]) (sc := defScope s_L_longest) (by decide +kernel)) (fun _ _ _ _ _ => (pg_name (i := 8) sc_L_longest.nd rfl (Or.inl rfl))) (fun _ _ _ _ _ => pts_nil) (fun _ _ _ _ _ => (pe_ix (ix_M (K := g.K) rfl) (pv 1) (pv 8) (fun _ _ => rfl))))) pa_nil))))
      (pss_one (ps_if (pt_cmpR (op_neM (K := g.K) rfl hr.units) (pe_ix (ix_M (K := g.K) rfl) (pv 7) (pe_ix (ix_M (K := g.K) rfl) (pe_ix (ix_M (K := g.K) rfl) (pv 1) (pv 4) (fun _ _ => rfl)) pe_int (fun _ _ => rfl)) (fun _ _ => rfl)) (pe_ix (ix_M (K := g.K) rfl) (pv 7) (pe_ix (ix_M (K := g.K) rfl) (pe_ix (ix_M (K := g.K) rfl) (pv 1) (pv 4) (fun _ _ => rfl)) pe_int (fun _ _ => rfl)) (fun _ _ => rfl)) (nomark _)) (pss_one (ps_expr (pe_bmK (K := g.K) rfl PySem.F.plainAttrs_list PySem.F.slot_list_append PySem.F.type_list_append mt_append (pv 5) (pa_cons (pv 4) pa_nil)))) pss_nil))))
      (pss_one (ps_ret (pe_callTy (call_tupM (K := g.K) rfl) (by rfl) T.n_tuple (by decide +kernel) (pa_cons ((pe_callB (call_sortM (K := g.K) rfl hr.units) (by rfl) T.n_sorted (by decide +kernel) (pa_cons (pv 5) pa_nil))) pa_nil))))))))
    ((ss_seq (ss_asgG (se_frz (sl_sort (sa_cons (se_frz (sl_lc (si_walk se_var) (sgv_name (by decide)) st_yes (se_tup (sa_cons (se_if (st_test (se_op isN_okR (se_op ix_ok (se_op ix_ok se_var se_var) se_int) se_non)) se_int (se_op sub_ok se_int (se_op ix_ok (se_op ix_ok se_var se_var) se_int))) (sa_cons se_var sa_nil))))) sa_nil))) sg_name)
      (ss_seq (ss_asgG (se_trk (sl_lst sa_nil)) sg_name)
      (ss_seq (ss_for (si_walk se_var) (sg_tup (sgs_cons (fun _ _ => rfl) sg_name (sgs_cons (fun _ _ => rfl) sg_name sgs_nil))) (ss_seq (ss_asgG (se_def (sa_cons se_var (sa_cons (se_frz (sl_lc (si_walk se_var) (sgv_name (by decide)) st_yes (se_op ix_ok se_var se_var))) sa_nil))) sg_name)
      (ss_ifS (st_test (se_op ne_ok (se_op ix_ok se_var (se_op ix_ok (se_op ix_ok se_var se_var) se_int)) (se_op ix_ok se_var (se_op ix_ok (se_op ix_ok se_var se_var) se_int)))) (ss_drop (se_bm append_ok se_var (sa_cons se_var sa_nil))) ss_next)))
      (ss_ret (se_call tuple_ok (sa_cons (se_frz (sl_sort (sa_cons se_var sa_nil))) sa_nil))))))) h

end
end W3
namespace W3
open PySem PySem.Spec PyProof.Rows L2 M3
section
variable {P : Program} {w : World} {g : G} {mg : Str → Option Value} {base : Heap} {f_eNoHouse f_eNoNumber f_eNoMoment f_eBadHistory f_iHistory : Addr}
theorem ok_L_till (D : M3.Def g.K mg "_law_till" s_L_till ["_law_many", "_law_spans", "_law_there_here", "_law_one", "_law_other"]) (T : Txt mg) (Z : Fx g w mg f_eNoHouse f_eNoNumber f_eNoMoment f_eBadHistory f_iHistory) (C_L_parts_by : M3.Cal P w g.K mg base 1 "_law_parts_by" ["_law_many", "_law_ties"] (spM g.K 2 (mPure (m_L_parts_by g)))) : M3.Cal P w g.K mg base 2 "_law_till" ["_law_many", "_law_spans", "_law_there_here", "_law_one", "_law_other"] (spM g.K 5 (mPure (m_L_till g))) := by
  refine M3.Cal.imp (D.cal (sp := (spM g.K 5 (m_L_till g))) sc_L_till (spM_len rfl) (fun f cdv A outer s H vs Q E hr h => ?_)) pure_ok
  exact body_all (N := ["_law_many", "_law_spans", "_law_there_here", "_law_one", "_law_other", "_law_left", "_law_goes", "_law_number", "_law_last", "_law_turn", "_law_parts"]) (E := E) ((pss_cons (ps_set (i := 5) sc_L_till.nd rfl (Or.inl rfl) ((pe_callTy (call_listM (K := g.K) rfl) (by rfl) T.n_list (by decide +kernel) (pa_cons (pv 2) pa_nil))))
      (pss_cons (ps_set (i := 6) sc_L_till.nd rfl (Or.inl rfl) ((pe_callB (call_sortM (K := g.K) rfl hr.units) (by rfl) T.n_sorted (by decide +kernel) (pa_cons ((pe_lc (own := [("_law_number", 7)]) (g := (gName 7)) (by rfl) sc_L_till.nd (pi_M (K := g.K) rfl (pv 2)) (blkOk_by (own := [("_law_number", 7)]) (N := ["_law_many", "_law_spans", "_law_there_here", "_law_one", "_law_other", "_law_left", "_law_goes", "_law_number", "_law_last", "_law_turn", "_law_parts"]) (sc := defScope s_L_till) (by decide +kernel)) (fun _ _ _ _ _ => (pg_name (i := 7) sc_L_till.nd rfl (Or.inl rfl))) (fun _ _ _ _ _ => pts_one (pt_cmpR op_notN (pe_ix (ix_M (K := g.K) rfl) (pe_ix (ix_M (K := g.K) rfl) (pv 1) (pv 7) (fun _ _ => rfl)) pe_int (fun _ _ => rfl)) pe_non (nomark _))) (fun _ _ _ _ _ => (pe_ix (ix_M (K := g.K) rfl) (pe_ix (ix_M (K := g.K) rfl) (pv 1) (pv 7) (fun _ _ => rfl)) pe_int (fun _ _ => rfl))))) pa_nil))))
      (pss_cons (ps_set (i := 8) sc_L_till.nd rfl (Or.inr rfl) (pe_un un_neg pe_int))
      (pss_cons (ps_for (passes_of rfl) rfl (pi_range1 rfl T.n_range (pa_cons (pe_op (op_addM (K := g.K) rfl) (pe_callB (call_lenM (K := g.K) rfl) (by rfl) T.n_len PySem.boot_len (pa_cons (pv 6) pa_nil)) pe_int) pa_nil)) (pg_name (i := 9) sc_L_till.nd rfl (Or.inl rfl)) (pss_cons (ps_set (i := 10) sc_L_till.nd rfl (Or.inl rfl) (pcal C_L_parts_by hr (by omega) rfl (takes_of rfl rfl rfl rfl) (pa_cons (pv 0) (pa_cons ((pe_lc (own := [("_law_number", 7)]) (g := (gName 7)) (tt := tYes) (by rfl) sc_L_till.nd (pi_M (K := g.K) rfl (pv 5)) (blkOk_by (own := [("_law_number", 7)]) (N := ["_law_many", "_law_spans", "_law_there_here", "_law_one", "_law_other", "_law_left", "_law_goes", "_law_number", "_law_last", "_law_turn", "_law_parts"]) (sc := defScope s_L_till) (by decide +kernel)) (fun _ _ _ _ _ => (pg_name (i := 7) sc_L_till.nd rfl (Or.inl rfl))) (fun _ _ _ _ _ => pts_nil) (fun _ _ _ _ _ => (pe_ix (ix_M (K := g.K) rfl) (pv 1) (pv 7) (fun _ _ => rfl))))) pa_nil))))
      (pss_cons (ps_if (pt_cmpR (op_neM (K := g.K) rfl hr.units) (pe_ix (ix_M (K := g.K) rfl) (pv 10) (pv 3) (fun _ _ => rfl)) (pe_ix (ix_M (K := g.K) rfl) (pv 10) (pv 4) (fun _ _ => rfl)) (nomark _)) (pss_one (ps_ret (pv 8))) pss_nil)
      (pss_one (ps_if (pt_cmpR op_lt (pv 9) (pe_callB (call_lenM (K := g.K) rfl) (by rfl) T.n_len PySem.boot_len (pa_cons (pv 6) pa_nil)) (nomark _)) (pss_cons (ps_set (i := 8) sc_L_till.nd rfl (Or.inr rfl) (pe_ix (ix_M (K := g.K) rfl) (pv 6) (pv 9) (fun _ _ => rfl)))
      (pss_one (ps_setLc (i := 5) (own := [("_law_number", 7)]) (g := (gName 7)) (by rfl) sc_L_till.nd rfl rfl (sw_true rfl rfl rfl (by decide +kernel)) (pi_M (K := g.K) rfl (pv 5)) (blkOk_by (own := [("_law_number", 7)]) (N := ["_law_many", "_law_spans", "_law_there_here", "_law_one", "_law_other", "_law_left", "_law_goes", "_law_number", "_law_last", "_law_turn", "_law_parts"]) (sc := defScope s_L_till) (by decide +kernel)) (fun _ _ _ _ _ => (pg_name (i := 7) sc_L_till.nd rfl (Or.inl rfl))) (fun _ _ _ _ _ => pts_one (pt_cmpR (op_neM (K := g.K) rfl hr.units) (pe_ix (ix_M (K := g.K) rfl) (pe_ix (ix_M (K := g.K) rfl) (pv 1) (pv 7) (fun _ _ => rfl)) pe_int (fun _ _ => rfl)) (pv 8) (nomark _))) (fun _ _ _ _ _ => (pv 7))))) pss_nil)))))
      (pss_one (ps_ret pe_non)))))))
    ((ss_seq (ss_asgG (se_frz (sl_list (sa_cons se_var sa_nil))) sg_name)
      (ss_seq (ss_asgG (se_frz (sl_sort (sa_cons (se_frz (sl_lc (si_walk se_var) (sgv_name (by decide)) (st_test (se_op notN_okR (se_op ix_ok (se_op ix_ok se_var se_var) se_int) se_non)) (se_op ix_ok (se_op ix_ok se_var se_var) se_int))) sa_nil))) sg_name)
      (ss_seq (ss_asgG (se_un neg_ok se_int) sg_name)
      (ss_seq (ss_for (si_rng1 (sa_cons (se_op add_ok (se_call len_ok (sa_cons se_var sa_nil)) se_int) sa_nil)) sg_name (ss_seq (ss_asgG (se_def (sa_cons se_var (sa_cons (se_frz (sl_lc (si_walk se_var) (sgv_name (by decide)) st_yes (se_op ix_ok se_var se_var))) sa_nil))) sg_name)
      (ss_seq (ss_ifS (st_test (se_op ne_ok (se_op ix_ok se_var se_var) (se_op ix_ok se_var se_var))) (ss_ret se_var) ss_next)
      (ss_ifS (st_test (se_op lt_ok se_var (se_call len_ok (sa_cons se_var sa_nil)))) (ss_seq (ss_asgG (se_op ix_ok se_var se_var) sg_name)
      (ss_asgG (se_frz (sl_lc (si_walk se_var) (sgv_name (by decide)) (st_test (se_op ne_ok (se_op ix_ok (se_op ix_ok se_var se_var) se_int) se_var)) se_var)) sg_name)) ss_next))))
      (ss_ret se_non)))))) h

end
end W3
namespace W3
open PySem PySem.Spec PyProof.Rows L2 M3
section
variable {P : Program} {w : World} {g : G} {mg : Str → Option Value} {base : Heap} {f_eNoHouse f_eNoNumber f_eNoMoment f_eBadHistory f_iHistory : Addr}
theorem ok_is_house (D : M3.Def g.K mg "is_house" s_is_house ["many", "thing"]) (T : Txt mg) (Z : Fx g w mg f_eNoHouse f_eNoNumber f_eNoMoment f_eBadHistory f_iHistory) (C_is_between : M3.Cal P w g.K mg base 2 "is_between" ["least", "most", "thing"] (spM g.K 3 (mPure (m_is_between g)))) : M3.Cal P w g.K mg base 3 "is_house" ["many", "thing"] (spM g.K 2 (mPure (m_is_house g))) := by
  refine M3.Cal.imp (D.cal (sp := (spM g.K 2 (m_is_house g))) sc_is_house (spM_len rfl) (fun f cdv A outer s H vs Q E hr h => ?_)) pure_ok
  exact body_all (N := ["many", "thing"]) (E := E) ((pss_one (ps_ret (pcal C_is_between hr (by omega) rfl (takes_of rfl rfl rfl rfl) (pa_cons pe_int (pa_cons (pe_op op_sub (pv 0) pe_int) (pa_cons (pv 1) pa_nil)))))))
    ((ss_ret (se_def (sa_cons se_int (sa_cons (se_op sub_ok se_var se_int) (sa_cons se_var sa_nil)))))) h

end
end W3
namespace W3
open PySem PySem.Spec PyProof.Rows L2 M3
section
variable {P : Program} {w : World} {g : G} {mg : Str → Option Value} {base : Heap} {f_eNoHouse f_eNoNumber f_eNoMoment f_eBadHistory f_iHistory : Addr}
theorem ok_need_moment (D : M3.Def g.K mg "_need_moment" s_need_moment ["history", "thing"]) (T : Txt mg) (Z : Fx g w mg f_eNoHouse f_eNoNumber f_eNoMoment f_eBadHistory f_iHistory) (C_is_between : M3.Cal P w g.K mg base 2 "is_between" ["least", "most", "thing"] (spM g.K 3 (mPure (m_is_between g)))) : M3.Cal P w g.K mg base 3 "_need_moment" ["history", "thing"] (spM g.K 2 (mPure (m_need_moment g))) := by
  refine M3.Cal.imp (D.cal (sp := (spM g.K 2 (m_need_moment g))) sc_need_moment (spM_len rfl) (fun f cdv A outer s H vs Q E hr h => ?_)) pure_ok
  exact body_all (N := ["history", "thing"]) (E := E) ((pss_one (ps_if (pt_not (pt_val (pcal C_is_between hr (by omega) rfl (takes_of rfl rfl rfl rfl) (pa_cons pe_int (pa_cons (pe_callB (call_lenM (K := g.K) rfl) (by rfl) T.n_len PySem.boot_len (pa_cons (pe_fldK (K := g.K) rfl (pv 0) rfl) pa_nil)) (pa_cons (pv 1) pa_nil)))))) (pss_one (ps_raise_NoMoment rfl Z.NoMoment hr (takes_of rfl rfl rfl rfl))) pss_nil)))
    ((ss_ifS (st_not (st_tst (se_def (sa_cons se_int (sa_cons (se_call len_ok (sa_cons (se_fld Z.FO se_var) sa_nil)) (sa_cons se_var sa_nil)))))) ss_raise0 ss_next)) h

end
end W3
namespace W3
open PySem PySem.Spec PyProof.Rows L2 M3
section
variable {P : Program} {w : World} {g : G} {mg : Str → Option Value} {base : Heap} {f_eNoHouse f_eNoNumber f_eNoMoment f_eBadHistory f_iHistory : Addr}
theorem ok_longest_first (D : M3.Def g.K mg "_longest_first" s_longest_first ["history", "at"]) (T : Txt mg) (Z : Fx g w mg f_eNoHouse f_eNoNumber f_eNoMoment f_eBadHistory f_iHistory) (C_there : M3.Cal P w g.K mg base 2 "_there" ["history", "at"] (spM g.K 2 (mPure (m_there g)))) (C_lives : M3.Cal P w g.K mg base 1 "lives" ["history"] (spM g.K 1 (mPure (m_lives g)))) : M3.Cal P w g.K mg base 3 "_longest_first" ["history", "at"] (spM g.K 2 (mPure (m_longest_first g))) := by
  refine M3.Cal.imp (D.cal (sp := (spM g.K 2 (m_longest_first g))) sc_longest_first (spM_len rfl) (fun f cdv A outer s H vs Q E hr h => ?_)) pure_ok
  exact body_all (N := ["history", "at", "spans", "never", "triple", "goers", "_"]) (E := E) ((pss_cons (ps_set (i := 2) sc_longest_first.nd rfl (Or.inr rfl) (pcal C_lives hr (by omega) rfl (takes_of rfl rfl rfl rfl) (pa_cons (pv 0) pa_nil)))
      (pss_cons (ps_setLc (i := 3) (own := [("triple", 4)]) (g := (gName 4)) (by rfl) sc_longest_first.nd rfl rfl (sw_true rfl rfl rfl (by decide +kernel)) (pi_M (K := g.K) rfl (pcal C_there hr (by omega) rfl (takes_of rfl rfl rfl rfl) (pa_cons (pv 0) (pa_cons (pv 1) pa_nil)))) (blkOk_by (own := [("triple", 4)]) (N := ["history", "at", "spans", "never", "triple", "goers", "_"]) (sc := defScope s_longest_first) (by decide +kernel)) (fun _ _ _ _ _ => (pg_name (i := 4) sc_longest_first.nd rfl (Or.inl rfl))) (fun _ _ _ _ _ => pts_one (pt_cmpR op_isN (pe_ix (ix_M (K := g.K) rfl) (pe_ix (ix_M (K := g.K) rfl) (pv 2) (pe_ix (ix_M (K := g.K) rfl) (pv 4) pe_int (fun _ _ => rfl)) (fun _ _ => rfl)) pe_int (fun _ _ => rfl)) pe_non (nomark _))) (fun _ _ _ _ _ => (pv 4)))
      (pss_cons (ps_setLc (i := 5) (own := [("triple", 4)]) (g := (gName 4)) (by rfl) sc_longest_first.nd rfl rfl (sw_true rfl rfl rfl (by decide +kernel)) (pi_M (K := g.K) rfl (pcal C_there hr (by omega) rfl (takes_of rfl rfl rfl rfl) (pa_cons (pv 0) (pa_cons (pv 1) pa_nil)))) (blkOk_by (own := [("triple", 4)]) (N := ["history", "at", "spans", "never", "triple", "goers", "_"]) (sc := defScope s_longest_first) (by decide +kernel)) (fun _ _ _ _ _ => (pg_name (i := 4) sc_longest_first.nd rfl (Or.inl rfl))) (fun _ _ _ _ _ => pts_one (pt_cmpR op_notN (pe_ix (ix_M (K := g.K) rfl) (pe_ix (ix_M (K := g.K) rfl) (pv 2) (pe_ix (ix_M (K := g.K) rfl) (pv 4) pe_int (fun _ _ => rfl)) (fun _ _ => rfl)) pe_int (fun _ _ => rfl)) pe_non (nomark _))) (fun _ _ _ _ _ => (pe_tup (pa_cons (pe_ix (ix_M (K := g.K) rfl) (pe_ix (ix_M (K := g.K) rfl) (pv 2) (pe_ix (ix_M (K := g.K) rfl) (pv 4) pe_int (fun _ _ => rfl)) (fun _ _ => rfl)) pe_int (fun _ _ => rfl)) (pa_cons (pv 4) pa_nil)))))
      (pss_one (ps_ret (pe_op (op_addM (K := g.K) rfl) (pv 3) ((pe_lc (own := [("_", 6), ("triple", 4)]) (g := (gTup g.K 2 (gCons (gName 6) (gCons (gName 4) gNil)))) (tt := tYes) (by rfl) sc_longest_first.nd (pi_M (K := g.K) rfl ((pe_callBK (call_sortMK (K := g.K) (b := true) rfl hr.units) (by rfl) T.n_sorted (by decide +kernel) (pa_cons (pv 5) pa_nil) (pk_cons pe_bl pk_nil)))) (blkOk_by (own := [("_", 6), ("triple", 4)]) (N := ["history", "at", "spans", "never", "triple", "goers", "_"]) (sc := defScope s_longest_first) (by decide +kernel)) (fun _ _ _ _ _ => (pg_tup rfl (pgs_cons (pg_name (i := 6) sc_longest_first.nd rfl (Or.inl rfl)) (pgs_cons (pg_name (i := 4) sc_longest_first.nd rfl (Or.inl rfl)) pgs_nil)))) (fun _ _ _ _ _ => pts_nil) (fun _ _ _ _ _ => (pv 4)))))))))))
    ((ss_seq (ss_asgG (se_def (sa_cons se_var sa_nil)) sg_name)
      (ss_seq (ss_asgG (se_frz (sl_lc (si_walk (se_def (sa_cons se_var (sa_cons se_var sa_nil)))) (sgv_name (by decide)) (st_test (se_op isN_okR (se_op ix_ok (se_op ix_ok se_var (se_op ix_ok se_var se_int)) se_int) se_non)) se_var)) sg_name)
      (ss_seq (ss_asgG (se_frz (sl_lc (si_walk (se_def (sa_cons se_var (sa_cons se_var sa_nil)))) (sgv_name (by decide)) (st_test (se_op notN_okR (se_op ix_ok (se_op ix_ok se_var (se_op ix_ok se_var se_int)) se_int) se_non)) (se_tup (sa_cons (se_op ix_ok (se_op ix_ok se_var (se_op ix_ok se_var se_int)) se_int) (sa_cons se_var sa_nil))))) sg_name)
      (ss_ret (se_op add_ok se_var (se_frz (sl_lc (si_walk (se_frz (sl_sortK (sa_cons se_var sa_nil)))) (sgv_tup (sgvs_cons (sgv_name (by decide)) (sgvs_cons (sgv_name (by decide)) sgvs_nil))) st_yes se_var)))))))) h

end
end W3
namespace W3
open PySem PySem.Spec PyProof.Rows L2 M3
section
variable {P : Program} {w : World} {g : G} {mg : Str → Option Value} {base : Heap} {f_eNoHouse f_eNoNumber f_eNoMoment f_eBadHistory f_iHistory : Addr}
theorem ok_is_of (D : M3.Def g.K mg "_is_of" s_is_of ["many", "part", "kind"]) (T : Txt mg) (Z : Fx g w mg f_eNoHouse f_eNoNumber f_eNoMoment f_eBadHistory f_iHistory) (C_is_integer : M3.Cal P w g.K mg base 1 "is_integer" ["thing"] (spM g.K 1 (mPure (m_is_integer g)))) (C_is_number : M3.Cal P w g.K mg base 2 "is_number" ["thing"] (spM g.K 1 (mPure (m_is_number g)))) (C_is_house : M3.Cal P w g.K mg base 3 "is_house" ["many", "thing"] (spM g.K 2 (mPure (m_is_house g)))) : M3.Cal P w g.K mg base 4 "_is_of" ["many", "part", "kind"] (spM g.K 3 (mPure (m_is_of g))) := by
  refine M3.Cal.imp (D.cal (sp := (spM g.K 3 (m_is_of g))) sc_is_of (spM_len rfl) (fun f cdv A outer s H vs Q E hr h => ?_)) pure_ok
  exact body_all (N := ["many", "part", "kind"]) (E := E) ((pss_cons (ps_if (pt_cmpR (op_eqM (K := g.K) rfl hr.units) (pv 2) pe_str (nomark _)) (pss_one (ps_ret (pcal C_is_house hr (by omega) rfl (takes_of rfl rfl rfl rfl) (pa_cons (pv 0) (pa_cons (pv 1) pa_nil))))) pss_nil)
      (pss_cons (ps_if (pt_cmpR (op_eqM (K := g.K) rfl hr.units) (pv 2) pe_str (nomark _)) (pss_one (ps_ret (pcal C_is_number hr (by omega) rfl (takes_of rfl rfl rfl rfl) (pa_cons (pv 1) pa_nil)))) pss_nil)
      (pss_cons (ps_if (pt_cmpR (op_eqM (K := g.K) rfl hr.units) (pv 2) pe_str (nomark _)) (pss_one (ps_ret (pcal C_is_integer hr (by omega) rfl (takes_of rfl rfl rfl rfl) (pa_cons (pv 1) pa_nil)))) pss_nil)
      (pss_one (ps_ret (pe_and (pe_callB (call_isiM (K := g.K) rfl) (by rfl) T.n_isinstance (by decide +kernel) (pa_cons (pv 1) (pa_cons (pe_bltn (v := .ty "str") (by rfl) T.n_str (by decide +kernel) rfl) pa_nil))) (pe_one (pe_cmpR (op_inM (K := g.K) rfl) (pv 1) (pe_tup (pa_cons pe_str (pa_cons pe_str pa_nil))) (by rfl))))))))))
    ((ss_seq (ss_ifS (st_test (se_op eq_ok se_var se_str)) (ss_ret (se_def (sa_cons se_var (sa_cons se_var sa_nil)))) ss_next)
      (ss_seq (ss_ifS (st_test (se_op eq_ok se_var se_str)) (ss_ret (se_def (sa_cons se_var sa_nil))) ss_next)
      (ss_seq (ss_ifS (st_test (se_op eq_ok se_var se_str)) (ss_ret (se_def (sa_cons se_var sa_nil))) ss_next)
      (ss_ret (se_and (se_call (isi_ok Z.CSO) (sa_cons se_var (sa_cons se_con sa_nil))) (se_op in_ok se_var (se_tup (sa_cons se_str (sa_cons se_str sa_nil)))))))))) h

end
end W3
namespace W3
open PySem PySem.Spec PyProof.Rows L2 M3
section
variable {P : Program} {w : World} {g : G} {mg : Str → Option Value} {base : Heap} {f_eNoHouse f_eNoNumber f_eNoMoment f_eBadHistory f_iHistory : Addr}
theorem ok_kept_then (D : M3.Def g.K mg "kept_then" s_kept_then ["history", "at"]) (T : Txt mg) (Z : Fx g w mg f_eNoHouse f_eNoNumber f_eNoMoment f_eBadHistory f_iHistory) (C_longest_first : M3.Cal P w g.K mg base 3 "_longest_first" ["history", "at"] (spM g.K 2 (mPure (m_longest_first g)))) (C_with_tie : M3.Cal P w g.K mg base 1 "_with_tie" ["labels", "one", "other"] (spM g.K 3 (mPure (m_with_tie g)))) (C_need_moment : M3.Cal P w g.K mg base 3 "_need_moment" ["history", "thing"] (spM g.K 2 (mPure (m_need_moment g)))) : M3.Cal P w g.K mg base 4 "kept_then" ["history", "at"] (spM g.K 2 (mPure (m_kept_then g))) := by
  refine M3.Cal.imp (D.cal (sp := (spM g.K 2 (m_kept_then g))) sc_kept_then (spM_len rfl) (fun f cdv A outer s H vs Q E hr h => ?_)) pure_ok
  exact body_all (N := ["history", "at", "found", "labels", "tie", "one", "other"]) (E := E) ((pss_cons (ps_expr (pcal C_need_moment hr (by omega) rfl (takes_of rfl rfl rfl rfl) (pa_cons (pv 0) (pa_cons (pv 1) pa_nil))))
      (pss_cons (ps_set (i := 2) sc_kept_then.nd rfl (Or.inl rfl) (pe_lst pa_nil))
      (pss_cons (ps_set (i := 3) sc_kept_then.nd rfl (Or.inl rfl) ((pe_listRg rfl (by rfl) T.n_list (prg_1 (by rfl) T.n_range (pe_fldK (K := g.K) rfl (pv 0) rfl)))))
      (pss_cons (ps_for (passes_of rfl) rfl (pi_M (K := g.K) rfl (pcal C_longest_first hr (by omega) rfl (takes_of rfl rfl rfl rfl) (pa_cons (pv 0) (pa_cons (pv 1) pa_nil)))) (pg_tup rfl (pgs_cons (pg_name (i := 4) sc_kept_then.nd rfl (Or.inl rfl)) (pgs_cons (pg_name (i := 5) sc_kept_then.nd rfl (Or.inl rfl)) (pgs_cons (pg_name (i := 6) sc_kept_then.nd rfl (Or.inl rfl)) pgs_nil)))) (pss_one (ps_if (pt_cmpR (op_neM (K := g.K) rfl hr.units) (pe_ix (ix_M (K := g.K) rfl) (pv 3) (pv 5) (fun _ _ => rfl)) (pe_ix (ix_M (K := g.K) rfl) (pv 3) (pv 6) (fun _ _ => rfl)) (nomark _)) (pss_cons (ps_expr (pe_bmK (K := g.K) rfl PySem.F.plainAttrs_list PySem.F.slot_list_append PySem.F.type_list_append mt_append (pv 2) (pa_cons (pv 4) pa_nil)))
      (pss_one (ps_set (i := 3) sc_kept_then.nd rfl (Or.inl rfl) (pcal C_with_tie hr (by omega) rfl (takes_of rfl rfl rfl rfl) (pa_cons (pv 3) (pa_cons (pv 5) (pa_cons (pv 6) pa_nil))))))) pss_nil)))
      (pss_one (ps_ret (pe_callTy (call_tupM (K := g.K) rfl) (by rfl) T.n_tuple (by decide +kernel) (pa_cons ((pe_callB (call_sortM (K := g.K) rfl hr.units) (by rfl) T.n_sorted (by decide +kernel) (pa_cons (pv 2) pa_nil))) pa_nil)))))))))
    ((ss_seq (ss_drop (se_def (sa_cons se_var (sa_cons se_var sa_nil))))
      (ss_seq (ss_asgG (se_trk (sl_lst sa_nil)) sg_name)
      (ss_seq (ss_asgG (se_frz (sl_listRg1 (se_fld Z.FO se_var))) sg_name)
      (ss_seq (ss_for (si_walk (se_def (sa_cons se_var (sa_cons se_var sa_nil)))) (sg_tup (sgs_cons (fun _ _ => rfl) sg_name (sgs_cons (fun _ _ => rfl) sg_name (sgs_cons (fun _ _ => rfl) sg_name sgs_nil)))) (ss_ifS (st_test (se_op ne_ok (se_op ix_ok se_var se_var) (se_op ix_ok se_var se_var))) (ss_seq (ss_drop (se_bm append_ok se_var (sa_cons se_var sa_nil)))
      (ss_asgG (se_def (sa_cons se_var (sa_cons se_var (sa_cons se_var sa_nil)))) sg_name)) ss_next))
      (ss_ret (se_call tuple_ok (sa_cons (se_frz (sl_sort (sa_cons se_var sa_nil))) sa_nil)))))))) h

end
end W3
namespace W3
open PySem PySem.Spec PyProof.Rows L2 M3
section
variable {P : Program} {w : World} {g : G} {mg : Str → Option Value} {base : Heap} {f_eNoHouse f_eNoNumber f_eNoMoment f_eBadHistory f_iHistory : Addr}
theorem ok_joined_till (D : M3.Def g.K mg "joined_till" s_joined_till ["history", "at", "one", "other"]) (T : Txt mg) (Z : Fx g w mg f_eNoHouse f_eNoNumber f_eNoMoment f_eBadHistory f_iHistory) (C_longest_first : M3.Cal P w g.K mg base 3 "_longest_first" ["history", "at"] (spM g.K 2 (mPure (m_longest_first g)))) (C_lives : M3.Cal P w g.K mg base 1 "lives" ["history"] (spM g.K 1 (mPure (m_lives g)))) (C_with_tie : M3.Cal P w g.K mg base 1 "_with_tie" ["labels", "one", "other"] (spM g.K 3 (mPure (m_with_tie g)))) (C_is_house : M3.Cal P w g.K mg base 3 "is_house" ["many", "thing"] (spM g.K 2 (mPure (m_is_house g)))) (C_need_moment : M3.Cal P w g.K mg base 3 "_need_moment" ["history", "thing"] (spM g.K 2 (mPure (m_need_moment g)))) : M3.Cal P w g.K mg base 4 "joined_till" ["history", "at", "one", "other"] (spM g.K 4 (mPure (m_joined_till g))) := by
  refine M3.Cal.imp (D.cal (sp := (spM g.K 4 (m_joined_till g))) sc_joined_till (spM_len rfl) (fun f cdv A outer s H vs Q E hr h => ?_)) pure_ok
  exact body_all (N := ["history", "at", "one", "other", "labels", "tie", "first", "second"]) (E := E) ((pss_cons (ps_expr (pcal C_need_moment hr (by omega) rfl (takes_of rfl rfl rfl rfl) (pa_cons (pv 0) (pa_cons (pv 1) pa_nil))))
      (pss_cons (ps_if (PW.pt (pw_or (pt_not (pt_val (pcal C_is_house hr (by omega) rfl (takes_of rfl rfl rfl rfl) (pa_cons (pe_fldK (K := g.K) rfl (pv 0) rfl) (pa_cons (pv 2) pa_nil))))) (pw_or1 (pt_not (pt_val (pcal C_is_house hr (by omega) rfl (takes_of rfl rfl rfl rfl) (pa_cons (pe_fldK (K := g.K) rfl (pv 0) rfl) (pa_cons (pv 3) pa_nil)))))))) (pss_one (ps_raise_NoHouse rfl Z.NoHouse hr (takes_of rfl rfl rfl rfl))) pss_nil)
      (pss_cons (ps_if (pt_cmpR (op_eqM (K := g.K) rfl hr.units) (pv 2) (pv 3) (nomark _)) (pss_one (ps_ret pe_non)) pss_nil)
      (pss_cons (ps_set (i := 4) sc_joined_till.nd rfl (Or.inl rfl) ((pe_listRg rfl (by rfl) T.n_list (prg_1 (by rfl) T.n_range (pe_fldK (K := g.K) rfl (pv 0) rfl)))))
      (pss_cons (ps_for (passes_of rfl) rfl (pi_M (K := g.K) rfl (pcal C_longest_first hr (by omega) rfl (takes_of rfl rfl rfl rfl) (pa_cons (pv 0) (pa_cons (pv 1) pa_nil)))) (pg_tup rfl (pgs_cons (pg_name (i := 5) sc_joined_till.nd rfl (Or.inl rfl)) (pgs_cons (pg_name (i := 6) sc_joined_till.nd rfl (Or.inl rfl)) (pgs_cons (pg_name (i := 7) sc_joined_till.nd rfl (Or.inl rfl)) pgs_nil)))) (pss_cons (ps_set (i := 4) sc_joined_till.nd rfl (Or.inl rfl) (pcal C_with_tie hr (by omega) rfl (takes_of rfl rfl rfl rfl) (pa_cons (pv 4) (pa_cons (pv 6) (pa_cons (pv 7) pa_nil)))))
      (pss_one (ps_if (pt_cmpR (op_eqM (K := g.K) rfl hr.units) (pe_ix (ix_M (K := g.K) rfl) (pv 4) (pv 2) (fun _ _ => rfl)) (pe_ix (ix_M (K := g.K) rfl) (pv 4) (pv 3) (fun _ _ => rfl)) (nomark _)) (pss_one (ps_ret (pe_ix (ix_M (K := g.K) rfl) (pe_ix (ix_M (K := g.K) rfl) (pcal C_lives hr (by omega) rfl (takes_of rfl rfl rfl rfl) (pa_cons (pv 0) pa_nil)) (pv 5) (fun _ _ => rfl)) pe_int (fun _ _ => rfl)))) pss_nil))))
      (pss_one (ps_ret (pe_un un_neg pe_int)))))))))
    ((ss_seq (ss_drop (se_def (sa_cons se_var (sa_cons se_var sa_nil))))
      (ss_seq (ss_ifS (st_or (st_not (st_tst (se_def (sa_cons (se_fld Z.FO se_var) (sa_cons se_var sa_nil))))) (st_not (st_tst (se_def (sa_cons (se_fld Z.FO se_var) (sa_cons se_var sa_nil)))))) ss_raise0 ss_next)
      (ss_seq (ss_ifS (st_test (se_op eq_ok se_var se_var)) (ss_ret se_non) ss_next)
      (ss_seq (ss_asgG (se_frz (sl_listRg1 (se_fld Z.FO se_var))) sg_name)
      (ss_seq (ss_for (si_walk (se_def (sa_cons se_var (sa_cons se_var sa_nil)))) (sg_tup (sgs_cons (fun _ _ => rfl) sg_name (sgs_cons (fun _ _ => rfl) sg_name (sgs_cons (fun _ _ => rfl) sg_name sgs_nil)))) (ss_seq (ss_asgG (se_def (sa_cons se_var (sa_cons se_var (sa_cons se_var sa_nil)))) sg_name)
      (ss_ifS (st_test (se_op eq_ok (se_op ix_ok se_var se_var) (se_op ix_ok se_var se_var))) (ss_ret (se_op ix_ok (se_op ix_ok (se_def (sa_cons se_var sa_nil)) se_var) se_int)) ss_next)))
      (ss_ret (se_un neg_ok se_int)))))))) h

end
end W3
namespace W3
open PySem PySem.Spec PyProof.Rows L2 M3
section
variable {P : Program} {w : World} {g : G} {mg : Str → Option Value} {base : Heap} {f_eNoHouse f_eNoNumber f_eNoMoment f_eBadHistory f_iHistory : Addr}
theorem ok_fit (D : M3.Def g.K mg "fit" s_fit ["many", "parts", "form"]) (T : Txt mg) (Z : Fx g w mg f_eNoHouse f_eNoNumber f_eNoMoment f_eBadHistory f_iHistory) (C_is_of : M3.Cal P w g.K mg base 4 "_is_of" ["many", "part", "kind"] (spM g.K 3 (mPure (m_is_of g)))) : M3.Cal P w g.K mg base 5 "fit" ["many", "parts", "form"] (spM g.K 3 (mPure (m_fit g))) := by
  refine M3.Cal.imp (D.cal (sp := (spM g.K 3 (m_fit g))) sc_fit (spM_len rfl) (fun f cdv A outer s H vs Q E hr h => ?_)) pure_ok
  exact body_all (N := ["many", "parts", "form", "part", "kind"]) (E := E) ((pss_cons (ps_if (pt_cmpR (op_neM (K := g.K) rfl hr.units) (pe_callB (call_lenM (K := g.K) rfl) (by rfl) T.n_len PySem.boot_len (pa_cons (pv 1) pa_nil)) (pe_callB (call_lenM (K := g.K) rfl) (by rfl) T.n_len PySem.boot_len (pa_cons (pv 2) pa_nil)) (nomark _)) (pss_one (ps_ret pe_bl)) pss_nil)
      (pss_one (ps_ret (pe_callB (call_allM (K := g.K) rfl rfl) (by rfl) T.n_all (by decide +kernel) (pa_cons ((pe_lc (own := [("part", 3), ("kind", 4)]) (g := (gTup g.K 2 (gCons (gName 3) (gCons (gName 4) gNil)))) (tt := tYes) (by rfl) sc_fit.nd (RZ.pi_zipA (by rfl) T.n_zip (pa_cons (pv 1) (pa_cons (pv 2) pa_nil))) (blkOk_by (own := [("part", 3), ("kind", 4)]) (N := ["many", "parts", "form", "part", "kind"]) (sc := defScope s_fit) (by decide +kernel)) (fun _ _ _ _ _ => (pg_tup rfl (pgs_cons (pg_name (i := 3) sc_fit.nd rfl (Or.inl rfl)) (pgs_cons (pg_name (i := 4) sc_fit.nd rfl (Or.inl rfl)) pgs_nil)))) (fun _ _ _ _ _ => pts_nil) (fun _ _ _ _ _ => (pcalF C_is_of hr (by omega) rfl (pa_cons (pv 0) (pa_cons (pv 3) (pa_cons (pv 4) pa_nil))))))) pa_nil))))))
    ((ss_seq (ss_ifS (st_test (se_op ne_ok (se_call len_ok (sa_cons se_var sa_nil)) (se_call len_ok (sa_cons se_var sa_nil)))) (ss_ret se_bl) ss_next)
      (ss_ret (se_call all_ok (sa_cons (se_frz (sl_lc (si_zip (sa_cons se_var (sa_cons se_var sa_nil))) (sgv_tup (sgvs_cons (sgv_name (by decide)) (sgvs_cons (sgv_name (by decide)) sgvs_nil))) st_yes (se_defF (sa_cons se_var (sa_cons se_var (sa_cons se_var sa_nil)))))) sa_nil))))) h

end
end W3
namespace W3
open PySem PySem.Spec PyProof.Rows L2 M3
section
variable {P : Program} {w : World} {g : G} {mg : Str → Option Value} {base : Heap} {f_eNoHouse f_eNoNumber f_eNoMoment f_eBadHistory f_iHistory : Addr}
theorem ok_can_be_next (D : M3.Def g.K mg "_can_be_next" s_can_be_next ["many", "came", "there", "thing"]) (T : Txt mg) (Z : Fx g w mg f_eNoHouse f_eNoNumber f_eNoMoment f_eBadHistory f_iHistory) (C_fit : M3.Cal P w g.K mg base 5 "fit" ["many", "parts", "form"] (spM g.K 3 (mPure (m_fit g)))) (C_word_of : M3.Cal P w g.K mg base 1 "word_of" ["thing"] (spM g.K 1 (mPure (m_word_of g)))) : M3.Cal P w g.K mg base 6 "_can_be_next" ["many", "came", "there", "thing"] (spM g.K 4 (mScope (m_can_be_next g))) := by
  obtain ⟨tk_MOST_TIES, h_MOST_TIES⟩ := T.c_MOST_TIES
  refine M3.Cal.imp (D.cal (sp := (spM g.K 4 (m_can_be_next g))) sc_can_be_next (spM_len rfl) (fun f cdv A outer s H vs Q E hr h => ?_)) scope_ok
  exact body_all (N := ["many", "came", "there", "thing", "word"]) (E := E) ((pss_cons (ps_set (i := 4) sc_can_be_next.nd rfl (Or.inl rfl) (pcal C_word_of hr (by omega) rfl (takes_of rfl rfl rfl rfl) (pa_cons (pv 3) pa_nil)))
      (pss_cons (ps_if (PW.pt (pw_or (pt_cmpR (op_notInTab (K := g.K) rfl Z.FORMS.2) (pv 4) (pe_glob (v := .ref g.FORMS) rfl Z.FORMS.1 rfl) (by rfl)) (pw_or1 (pt_not (pt_val (pcal C_fit hr (by omega) rfl (takes_of rfl rfl rfl rfl) (pa_cons (pv 0) (pa_cons (pe_slice (sl_M (K := g.K) rfl) (pv 3) (po_some pe_int) po_none) (pa_cons (pe_ix (ix_Tab (K := g.K) rfl Z.FORMS.2) (pe_glob (v := .ref g.FORMS) rfl Z.FORMS.1 rfl) (pv 4) (fun _ _ => rfl)) pa_nil))))))))) (pss_one (ps_ret pe_bl)) pss_nil)
      (pss_cons (ps_if (pt_cmpR (op_eqM (K := g.K) rfl hr.units) (pv 4) pe_str (nomark _)) (pss_one (ps_ret (pe_and (pe_cmpR (op_neM (K := g.K) rfl hr.units) (pe_ix (ix_M (K := g.K) rfl) (pv 3) pe_int (fun _ _ => rfl)) (pe_ix (ix_M (K := g.K) rfl) (pv 3) pe_int (fun _ _ => rfl)) (nomark _)) (pe_one (pe_cmpR op_lt (pv 1) (pe_glob (v := .int 32) rfl h_MOST_TIES ⟨_, rfl⟩) (nomark _)))))) pss_nil)
      (pss_one (ps_ret (pe_or (pe_cmpR (op_eqM (K := g.K) rfl hr.units) (pv 4) pe_str (nomark _)) (pe_one (pe_cmpR (op_inM (K := g.K) rfl) (pe_ix (ix_M (K := g.K) rfl) (pv 3) pe_int (fun _ _ => rfl)) (pv 2) (by rfl))))))))))
    ((ss_seq (ss_asgG (se_def (sa_cons se_var sa_nil)) sg_name)
      (ss_seq (ss_ifS (st_or (st_test (se_op notInTab_ok se_var se_con)) (st_not (st_tst (se_def (sa_cons se_var (sa_cons (se_sl se_var (so_some se_int) so_none) (sa_cons (se_op ixTab_ok se_con se_var) sa_nil))))))) (ss_ret se_bl) ss_next)
      (ss_seq (ss_ifS (st_test (se_op eq_ok se_var se_str)) (ss_ret (se_and (se_op ne_ok (se_op ix_ok se_var se_int) (se_op ix_ok se_var se_int)) (se_op lt_ok se_var se_int))) ss_next)
      (ss_ret (se_or (se_op eq_ok se_var se_str) (se_op in_ok (se_op ix_ok se_var se_int) se_var))))))) h

end
end W3
namespace W3
open PySem PySem.Spec PyProof.Rows L2 M3
section
variable {P : Program} {w : World} {g : G} {mg : Str → Option Value} {base : Heap} {f_eNoHouse f_eNoNumber f_eNoMoment f_eBadHistory f_iHistory : Addr}
theorem ok_L_is (D : M3.Def g.K mg "_law_is" s_L_is ["_law_told", "_law_due"]) (T : Txt mg) (Z : Fx g w mg f_eNoHouse f_eNoNumber f_eNoMoment f_eBadHistory f_iHistory) : ∀ d : Nat, M3.Cal P w g.K mg base (1 + d) "_law_is" ["_law_told", "_law_due"] (spM g.K 2 (mPure (m_L_is g d))) := by
  intro d
  induction d with
  | zero =>
    obtain ⟨f, fd, F, hm, b⟩ := D.ex
    exact M3.Cal.imp (sp := (spM g.K 2 (m_L_is g 0))) ⟨f, fd, ⟨spM_len rfl, fun A outer s H args us vs Q E _ _ _ _ h => (spM_fail h).elim⟩, hm, F.kp, b⟩ pure_ok
  | succ d C_L_is =>
    refine M3.Cal.imp (D.cal (k := 1 + d) (sp := (spM g.K 2 (m_L_is g (d + 1)))) sc_L_is (spM_len rfl) (fun f cdv A outer s H vs Q E hr h => ?_)) pure_ok
    exact body_all (N := ["_law_told", "_law_due", "_law_one", "_law_two"]) (E := E) ((pss_cons (ps_if (pt_val (pe_callB (call_isiTM (K := g.K) rfl) (by rfl) T.n_isinstance (by decide +kernel) (pa_cons (pv 1) (pa_cons (pe_tup (pa_cons (pe_bltn (v := .ty "tuple") (by rfl) T.n_tuple (by decide +kernel) rfl) (pa_cons (pe_bltn (v := .ty "list") (by rfl) T.n_list (by decide +kernel) rfl) pa_nil))) pa_nil)))) (pss_cons (ps_if (PW.pt (pw_or (pt_cmpR (op_neM (K := g.K) rfl hr.units) (pe_callB (call_isiM (K := g.K) rfl) (by rfl) T.n_isinstance (by decide +kernel) (pa_cons (pv 0) (pa_cons (pe_bltn (v := .ty "tuple") (by rfl) T.n_tuple (by decide +kernel) rfl) pa_nil))) (pe_callB (call_isiM (K := g.K) rfl) (by rfl) T.n_isinstance (by decide +kernel) (pa_cons (pv 1) (pa_cons (pe_bltn (v := .ty "tuple") (by rfl) T.n_tuple (by decide +kernel) rfl) pa_nil))) (nomark _)) (pw_or1 (pt_not (pt_val (pe_callB (call_isiTM (K := g.K) rfl) (by rfl) T.n_isinstance (by decide +kernel) (pa_cons (pv 0) (pa_cons (pe_tup (pa_cons (pe_bltn (v := .ty "tuple") (by rfl) T.n_tuple (by decide +kernel) rfl) (pa_cons (pe_bltn (v := .ty "list") (by rfl) T.n_list (by decide +kernel) rfl) pa_nil))) pa_nil)))))))) (pss_one (ps_ret pe_bl)) pss_nil)
      (pss_one (ps_ret (pe_and (pe_cmpR (op_eqM (K := g.K) rfl hr.units) (pe_callB (call_lenM (K := g.K) rfl) (by rfl) T.n_len PySem.boot_len (pa_cons (pv 0) pa_nil)) (pe_callB (call_lenM (K := g.K) rfl) (by rfl) T.n_len PySem.boot_len (pa_cons (pv 1) pa_nil)) (nomark _)) (pe_one (pe_callB (call_allM (K := g.K) rfl rfl) (by rfl) T.n_all (by decide +kernel) (pa_cons ((pe_lc (own := [("_law_one", 2), ("_law_two", 3)]) (g := (gTup g.K 2 (gCons (gName 2) (gCons (gName 3) gNil)))) (tt := tYes) (by rfl) sc_L_is.nd (RZ.pi_zipA (by rfl) T.n_zip (pa_cons (pv 0) (pa_cons (pv 1) pa_nil))) (blkOk_by (own := [("_law_one", 2), ("_law_two", 3)]) (N := ["_law_told", "_law_due", "_law_one", "_law_two"]) (sc := defScope s_L_is) (by decide +kernel)) (fun _ _ _ _ _ => (pg_tup rfl (pgs_cons (pg_name (i := 2) sc_L_is.nd rfl (Or.inl rfl)) (pgs_cons (pg_name (i := 3) sc_L_is.nd rfl (Or.inl rfl)) pgs_nil)))) (fun _ _ _ _ _ => pts_nil) (fun _ _ _ _ _ => (pcalF C_L_is hr (by omega) rfl (pa_cons (pv 2) (pa_cons (pv 3) pa_nil)))))) pa_nil))))))) pss_nil)
      (pss_one (ps_ret (pe_and (pe_cmpR (op_eqM (K := g.K) rfl hr.units) (pe_callB (call_isiM (K := g.K) rfl) (by rfl) T.n_isinstance (by decide +kernel) (pa_cons (pv 0) (pa_cons (pe_bltn (v := .ty "bool") (by rfl) T.n_bool (by decide +kernel) rfl) pa_nil))) (pe_callB (call_isiM (K := g.K) rfl) (by rfl) T.n_isinstance (by decide +kernel) (pa_cons (pv 1) (pa_cons (pe_bltn (v := .ty "bool") (by rfl) T.n_bool (by decide +kernel) rfl) pa_nil))) (nomark _)) (pe_one (pe_cmpR (op_eqM (K := g.K) rfl hr.units) (pv 0) (pv 1) (nomark _))))))))
      ((ss_seq (ss_ifS (st_tst (se_isiT Z.CSO se_var (sa_cons se_con (sa_cons se_con sa_nil)))) (ss_seq (ss_ifS (st_or (st_test (se_op ne_ok (se_call (isi_ok Z.CSO) (sa_cons se_var (sa_cons se_con sa_nil))) (se_call (isi_ok Z.CSO) (sa_cons se_var (sa_cons se_con sa_nil))))) (st_not (st_tst (se_isiT Z.CSO se_var (sa_cons se_con (sa_cons se_con sa_nil)))))) (ss_ret se_bl) ss_next)
      (ss_ret (se_and (se_op eq_ok (se_call len_ok (sa_cons se_var sa_nil)) (se_call len_ok (sa_cons se_var sa_nil))) (se_call all_ok (sa_cons (se_frz (sl_lc (si_zip (sa_cons se_var (sa_cons se_var sa_nil))) (sgv_tup (sgvs_cons (sgv_name (by decide)) (sgvs_cons (sgv_name (by decide)) sgvs_nil))) st_yes (se_defF (sa_cons se_var (sa_cons se_var sa_nil))))) sa_nil))))) ss_next)
      (ss_ret (se_and (se_op eq_ok (se_call (isi_ok Z.CSO) (sa_cons se_var (sa_cons se_con sa_nil))) (se_call (isi_ok Z.CSO) (sa_cons se_var (sa_cons se_con sa_nil)))) (se_op eq_ok se_var se_var))))) h

end
end W3
namespace W3
open PySem PySem.Spec PyProof.Rows L2 M3
section
variable {P : Program} {w : World} {g : G} {mg : Str → Option Value} {base : Heap} {f_eNoHouse f_eNoNumber f_eNoMoment f_eBadHistory f_iHistory : Addr}
theorem ok_History_init {f0 : Addr} {fd0 : FuncData} (F : Fun g.K "__init__" "History.__init__" s_History_init f0 fd0) (T : Txt mg) (Z : Fx g w mg f_eNoHouse f_eNoNumber f_eNoMoment f_eBadHistory f_iHistory) (C_can_be_next : M3.Cal P w g.K mg base 6 "_can_be_next" ["many", "came", "there", "thing"] (spM g.K 4 (mScope (m_can_be_next g)))) (C_is_between : M3.Cal P w g.K mg base 2 "is_between" ["least", "most", "thing"] (spM g.K 3 (mPure (m_is_between g)))) : FnOk P w g.K mg base (L2.CX P w) 7 f0 fd0 ["self", "many", "deeds"] (spM g.K 3 (m_History_init g)) := by
  obtain ⟨tk_MOST_ENDS, h_MOST_ENDS⟩ := T.c_MOST_ENDS
  obtain ⟨tk_MOST_DEEDS, h_MOST_DEEDS⟩ := T.c_MOST_DEEDS
  refine F.okX sc_History_init (spM_len rfl) (fun cdv A outer s H vs Q E hr h => ?_)
  exact body_all (N := ["self", "many", "deeds", "came", "there", "index", "deed"]) (E := E) ((pss_cons (ps_if (pt_not (pt_val (pcal C_is_between hr (by omega) rfl (takes_of rfl rfl rfl rfl) (pa_cons pe_int (pa_cons (pe_glob (v := .int 24) rfl h_MOST_ENDS ⟨_, rfl⟩) (pa_cons (pv 1) pa_nil)))))) (pss_one (ps_raise_NoNumber rfl Z.NoNumber hr (takes_of rfl rfl rfl rfl))) pss_nil)
      (pss_cons (ps_if (PW.pt (pw_or (pt_not (pt_val (pe_callB (call_isiM (K := g.K) rfl) (by rfl) T.n_isinstance (by decide +kernel) (pa_cons (pv 2) (pa_cons (pe_bltn (v := .ty "tuple") (by rfl) T.n_tuple (by decide +kernel) rfl) pa_nil))))) (pw_or1 (pt_cmpR op_gt (pe_callB (call_lenM (K := g.K) rfl) (by rfl) T.n_len PySem.boot_len (pa_cons (pv 2) pa_nil)) (pe_glob (v := .int 60) rfl h_MOST_DEEDS ⟨_, rfl⟩) (nomark _))))) (pss_one (ps_raise_BadHistory rfl Z.BadHistory hr (takes_of rfl rfl rfl rfl) (pa_cons (pe_un un_neg pe_int) pa_nil))) pss_nil)
      (pss_cons (ps_set (i := 3) sc_History_init.nd rfl (Or.inl rfl) pe_int)
      (pss_cons (ps_set (i := 4) sc_History_init.nd rfl (Or.inl rfl) (pe_lst pa_nil))
      (pss_cons (ps_for (passes_of rfl) rfl (W2.pi_enumA (by rfl) T.n_enumerate (pa_cons (pv 2) pa_nil)) (pg_tup rfl (pgs_cons (pg_name (i := 5) sc_History_init.nd rfl (Or.inl rfl)) (pgs_cons (pg_name (i := 6) sc_History_init.nd rfl (Or.inl rfl)) pgs_nil))) (pss_cons (ps_if (pt_not (pt_val (pcal C_can_be_next hr (by omega) rfl (takes_of rfl rfl rfl rfl) (pa_cons (pv 1) (pa_cons (pv 3) (pa_cons (pv 4) (pa_cons (pv 6) pa_nil))))))) (pss_one (ps_raise_BadHistory rfl Z.BadHistory hr (takes_of rfl rfl rfl rfl) (pa_cons (pv 5) pa_nil))) pss_nil)
      (pss_one (ps_if (pt_cmpR (op_eqM (K := g.K) rfl hr.units) (pe_ix (ix_M (K := g.K) rfl) (pv 6) pe_int (fun _ _ => rfl)) pe_str (nomark _)) (pss_cons (ps_expr (pe_bmK (K := g.K) rfl PySem.F.plainAttrs_list PySem.F.slot_list_append PySem.F.type_list_append mt_append (pv 4) (pa_cons (pv 3) pa_nil)))
      (pss_one (ps_aug (i := 3) sc_History_init.nd rfl (Or.inl rfl) pe_int ip_add))) (pss_one (ps_if (pt_cmpR (op_eqM (K := g.K) rfl hr.units) (pe_ix (ix_M (K := g.K) rfl) (pv 6) pe_int (fun _ _ => rfl)) pe_str (nomark _)) (pss_one (ps_expr (pe_bmK (K := g.K) rfl PySem.F.plainAttrs_list PySem.F.slot_list_remove PySem.F.type_list_remove mt_remove (pv 4) (pa_cons (pe_ix (ix_M (K := g.K) rfl) (pv 6) pe_int (fun _ _ => rfl)) pa_nil)))) pss_nil))))))
      (pss_cons (ps_fld (pv 0) (pv 1) rfl)
      (pss_one (ps_fld (pv 0) (pv 2) rfl)))))))))
    ((ss_seq (ss_ifS (st_not (st_tst (se_def (sa_cons se_int (sa_cons se_int (sa_cons se_var sa_nil)))))) ss_raise0 ss_next)
      (ss_seq (ss_ifS (st_or (st_not (st_tst (se_call (isi_ok Z.CSO) (sa_cons se_var (sa_cons se_con sa_nil))))) (st_test (se_op gt_ok (se_call len_ok (sa_cons se_var sa_nil)) se_int))) (ss_raise1 (sa_cons (se_un neg_ok se_int) sa_nil)) ss_next)
      (ss_seq (ss_asgG se_int sg_name)
      (ss_seq (ss_asgG (se_trk (sl_lst sa_nil)) sg_name)
      (ss_seq (ss_for (si_enum (sa_cons se_var sa_nil)) (sg_tup (sgs_cons (fun _ _ => rfl) sg_name (sgs_cons (fun _ _ => rfl) sg_name sgs_nil))) (ss_seq (ss_ifS (st_not (st_tst (se_def (sa_cons se_var (sa_cons se_var (sa_cons se_var (sa_cons se_var sa_nil))))))) (ss_raise1 (sa_cons se_var sa_nil)) ss_next)
      (ss_ifS (st_test (se_op eq_ok (se_op ix_ok se_var se_int) se_str)) (ss_seq (ss_drop (se_bm append_ok se_var (sa_cons se_var sa_nil)))
      (ss_aug se_int ip_add_ok)) (ss_ifS (st_test (se_op eq_ok (se_op ix_ok se_var se_int) se_str)) (ss_drop (se_bm remI_ok se_var (sa_cons (se_op ix_ok se_var se_int) sa_nil))) ss_next))))
      (ss_seq (ss_setF Z.FO se_var se_var)
      (ss_setF Z.FO se_var se_var)))))))) h

end
end W3
namespace W3
open PySem PySem.Spec PyProof.Rows L2 M3
section
variable {P : Program} {w : World} {g : G} {mg : Str → Option Value} {base : Heap} {f_eNoHouse f_eNoNumber f_eNoMoment f_eBadHistory f_iHistory : Addr}
theorem ok_law {f0 : Addr} {fd0 : FuncData} (F : Fun g.K "law" "law" s_law f0 fd0) (T : Txt mg) (Z : Fx g w mg f_eNoHouse f_eNoNumber f_eNoMoment f_eBadHistory f_iHistory) (C_L_is : M3.Cal P w g.K mg base 61 "_law_is" ["_law_told", "_law_due"] (spM g.K 2 (mPure (m_L_is g 60)))) (C_L_till : M3.Cal P w g.K mg base 2 "_law_till" ["_law_many", "_law_spans", "_law_there_here", "_law_one", "_law_other"] (spM g.K 5 (mPure (m_L_till g)))) (C_joined_till : M3.Cal P w g.K mg base 4 "joined_till" ["history", "at", "one", "other"] (spM g.K 4 (mPure (m_joined_till g)))) (C_L_draw : M3.Cal P w g.K mg base 1 "_law_draw" ["_law_hand_here", "_law_many"] (spM g.K 2 (mScope (m_L_draw g)))) (C_L_longest : M3.Cal P w g.K mg base 2 "_law_longest" ["_law_many", "_law_spans", "_law_there_here"] (spM g.K 3 (mPure (m_L_longest g)))) (C_kept_then : M3.Cal P w g.K mg base 4 "kept_then" ["history", "at"] (spM g.K 2 (mPure (m_kept_then g)))) (C_L_there : M3.Cal P w g.K mg base 1 "_law_there" ["_law_spans", "_law_at"] (spM g.K 2 (mPure (m_L_there g)))) (C_L_lives : M3.Cal P w g.K mg base 1 "_law_lives" ["_law_deeds"] (spM g.K 1 (mPure (m_L_lives g)))) {fd_History_init : FuncData} (F_History_init : FnOk P w g.K mg base (L2.CX P w) 7 f_iHistory fd_History_init ["self", "many", "deeds"] (spM g.K 3 (m_History_init g))) (B_History_init : Binds g.K fd_History_init ["self", "many", "deeds"] []) (C_L_history : M3.Cal P w g.K mg base 2 "_law_history" ["_law_hand_here"] (spM g.K 1 (mScope (m_L_history g)))) (C_L_hand : M3.Cal P w g.K mg base 1 "_law_hand" ["_law_script"] (spM g.K 1 (m_L_hand g))) : FnOk P w g.K mg base (L2.CX P w) 62 f0 fd0 ["_law_script"] (spM g.K 1 (m_law g)) := by
  refine F.okX sc_law (spM_len rfl) (fun cdv A outer s H vs Q E hr h => ?_)
  exact body_all (N := ["_law_script", "_law_hand_here", "_law_many", "_law_deeds", "_law_history_here", "_law_spans", "_law_turn", "_law_at", "_law_there_here", "_law_again", "_law_one", "_law_other"]) (E := E) ((pss_cons (ps_set (i := 1) sc_law.nd rfl (Or.inl rfl) (pcal C_L_hand hr (by omega) rfl (takes_of rfl rfl rfl rfl) (pa_cons (pv 0) pa_nil)))
      (pss_cons (ps_asg (pcal C_L_history hr (by omega) rfl (takes_of rfl rfl rfl rfl) (pa_cons (pv 1) pa_nil)) (pg_tup rfl (pgs_cons (pg_name (i := 2) sc_law.nd rfl (Or.inl rfl)) (pgs_cons (pg_name (i := 3) sc_law.nd rfl (Or.inl rfl)) pgs_nil))))
      (pss_cons (ps_set (i := 4) sc_law.nd rfl (Or.inl rfl) (pe_makeS Z.mk_History F_History_init (hr.mono (by omega)) rfl Z.History B_History_init (fun σ => passAt (takes_of rfl rfl rfl rfl) σ) (pa_cons (pv 2) (pa_cons (pv 3) pa_nil))))
      (pss_cons (ps_set (i := 5) sc_law.nd rfl (Or.inl rfl) (pcal C_L_lives hr (by omega) rfl (takes_of rfl rfl rfl rfl) (pa_cons (pv 3) pa_nil)))
      (pss_cons (ps_for (passes_of rfl) rfl (pi_range1 rfl T.n_range (pa_cons pe_int pa_nil)) (pg_name (i := 6) sc_law.nd rfl (Or.inl rfl)) (pss_cons (ps_set (i := 7) sc_law.nd rfl (Or.inl rfl) (pe_ix (ix_M (K := g.K) rfl) ((pe_lst (pa_cons (pe_callB (call_lenM (K := g.K) rfl) (by rfl) T.n_len PySem.boot_len (pa_cons (pv 3) pa_nil)) (pa_cons pe_int (pa_cons (pcal C_L_draw hr (by omega) rfl (takes_of rfl rfl rfl rfl) (pa_cons (pv 1) (pa_cons (pe_op (op_addM (K := g.K) rfl) (pe_callB (call_lenM (K := g.K) rfl) (by rfl) T.n_len PySem.boot_len (pa_cons (pv 3) pa_nil)) pe_int) pa_nil))) (pa_cons (pcal C_L_draw hr (by omega) rfl (takes_of rfl rfl rfl rfl) (pa_cons (pv 1) (pa_cons (pe_op (op_addM (K := g.K) rfl) (pe_callB (call_lenM (K := g.K) rfl) (by rfl) T.n_len PySem.boot_len (pa_cons (pv 3) pa_nil)) pe_int) pa_nil))) pa_nil)))))) (pe_op (op_addM (K := g.K) rfl) (pe_op (op_mulM (K := g.K) rfl) pe_int (pv 6)) (pcal C_L_draw hr (by omega) rfl (takes_of rfl rfl rfl rfl) (pa_cons (pv 1) (pa_cons pe_int pa_nil)))) (fun _ _ => rfl)))
      (pss_cons (ps_set (i := 8) sc_law.nd rfl (Or.inl rfl) (pcal C_L_there hr (by omega) rfl (takes_of rfl rfl rfl rfl) (pa_cons (pv 5) (pa_cons (pv 7) pa_nil))))
      (pss_cons (ps_if (pt_not (pt_val (pcal C_L_is hr (by omega) rfl (takes_of rfl rfl rfl rfl) (pa_cons (pcal C_kept_then hr (by omega) rfl (takes_of rfl rfl rfl rfl) (pa_cons (pv 4) (pa_cons (pv 7) pa_nil))) (pa_cons (pcal C_L_longest hr (by omega) rfl (takes_of rfl rfl rfl rfl) (pa_cons (pv 2) (pa_cons (pv 5) (pa_cons (pv 8) pa_nil)))) pa_nil))))) (pss_one (ps_ret pe_bl)) pss_nil)
      (pss_one (ps_for (passes_of rfl) rfl (pi_range1 rfl T.n_range (pa_cons pe_int pa_nil)) (pg_name (i := 9) sc_law.nd rfl (Or.inl rfl)) (pss_cons (ps_par (i := 10) (j := 11) (by rfl) sc_law.nd rfl rfl (by decide) rfl rfl (pa_cons (pcal C_L_draw hr (by omega) rfl (takes_of rfl rfl rfl rfl) (pa_cons (pv 1) (pa_cons (pv 2) pa_nil))) (pa_cons (pcal C_L_draw hr (by omega) rfl (takes_of rfl rfl rfl rfl) (pa_cons (pv 1) (pa_cons (pv 2) pa_nil))) pa_nil)) (by rfl))
      (pss_one (ps_if (pt_not (pt_val (pcal C_L_is hr (by omega) rfl (takes_of rfl rfl rfl rfl) (pa_cons ((pe_lst (pa_cons (pcal C_joined_till hr (by omega) rfl (takes_of rfl rfl rfl rfl) (pa_cons (pv 4) (pa_cons (pv 7) (pa_cons (pv 10) (pa_cons (pv 11) pa_nil))))) pa_nil))) (pa_cons ((pe_lst (pa_cons (pcal C_L_till hr (by omega) rfl (takes_of rfl rfl rfl rfl) (pa_cons (pv 2) (pa_cons (pv 5) (pa_cons (pv 8) (pa_cons (pv 10) (pa_cons (pv 11) pa_nil)))))) pa_nil))) pa_nil))))) (pss_one (ps_ret pe_bl)) pss_nil)))))))))
      (pss_one (ps_ret pe_bl))))))))
    ((ss_seq (ss_asgG (se_def (sa_cons se_var sa_nil)) sg_name)
      (ss_seq (ss_asgG (se_def (sa_cons se_var sa_nil)) (sg_tup (sgs_cons (fun _ _ => rfl) sg_name (sgs_cons (fun _ _ => rfl) sg_name sgs_nil))))
      (ss_seq (ss_asgG (se_new (cr_History_ok g) (sa_cons se_var (sa_cons se_var sa_nil))) sg_name)
      (ss_seq (ss_asgG (se_def (sa_cons se_var sa_nil)) sg_name)
      (ss_seq (ss_for (si_rng1 (sa_cons se_int sa_nil)) sg_name (ss_seq (ss_asgG (se_op ix_ok (se_frz (sl_lst (sa_cons (se_call len_ok (sa_cons se_var sa_nil)) (sa_cons se_int (sa_cons (se_def (sa_cons se_var (sa_cons (se_op add_ok (se_call len_ok (sa_cons se_var sa_nil)) se_int) sa_nil))) (sa_cons (se_def (sa_cons se_var (sa_cons (se_op add_ok (se_call len_ok (sa_cons se_var sa_nil)) se_int) sa_nil))) sa_nil)))))) (se_op add_ok (se_op mul_ok se_int se_var) (se_def (sa_cons se_var (sa_cons se_int sa_nil))))) sg_name)
      (ss_seq (ss_asgG (se_def (sa_cons se_var (sa_cons se_var sa_nil))) sg_name)
      (ss_seq (ss_ifS (st_not (st_tst (se_def (sa_cons (se_def (sa_cons se_var (sa_cons se_var sa_nil))) (sa_cons (se_def (sa_cons se_var (sa_cons se_var (sa_cons se_var sa_nil)))) sa_nil))))) (ss_ret se_bl) ss_next)
      (ss_for (si_rng1 (sa_cons se_int sa_nil)) sg_name (ss_seq (ss_par (sa_cons (se_def (sa_cons se_var (sa_cons se_var sa_nil))) (sa_cons (se_def (sa_cons se_var (sa_cons se_var sa_nil))) sa_nil)))
      (ss_ifS (st_not (st_tst (se_def (sa_cons (se_frz (sl_lst (sa_cons (se_def (sa_cons se_var (sa_cons se_var (sa_cons se_var (sa_cons se_var sa_nil))))) sa_nil))) (sa_cons (se_frz (sl_lst (sa_cons (se_def (sa_cons se_var (sa_cons se_var (sa_cons se_var (sa_cons se_var (sa_cons se_var sa_nil)))))) sa_nil))) sa_nil))))) (ss_ret se_bl) ss_next)))))))
      (ss_ret se_bl))))))) h

end
end W3
namespace W3
open PySem PySem.Spec PyProof.Rows L2 M3
theorem tmH {δ : DEnv} {S : Store} {J : DEnv → Store → Prop} {Q : Out → Store → Prop} (h : J δ S) : TurnP J Q (.nx δ) S := h
/-! ### histories -/
inductive HD where
  | come (a b : Nat)
  | go (k : Nat)
  | ask (a b : Nat)
def HD.p : HD → P
  | .come a b => .tup [.str "come", nv a, nv b]
  | .go k => .tup [.str "go", nv k]
  | .ask a b => .tup [.str "ask", nv a, nv b]
/-- one end, the other, when it comes, when it goes -/
structure Sp where
  one : Nat
  two : Nat
  cm : Nat
  gn : Option Nat
def stepS (l : List Sp) (i : Nat) : HD → List Sp
  | .come a b => l ++ [⟨a, b, i, none⟩]
  | .go k => match l[k]? with
    | some x => l.set k { x with gn := some i }
    | none => l
  | .ask _ _ => l
/-- how many came, which are there -/
structure Ts where
  c : Nat
  th : List Nat
def stepT (s : Ts) : HD → Ts
  | .come _ _ => ⟨s.c + 1, s.th ++ [s.c]⟩
  | .go k => ⟨s.c, s.th.erase k⟩
  | .ask _ _ => s
def runH (ds : List HD) : Nat × List Sp × Ts := ds.foldl (fun s d => (s.1 + 1, stepS s.2.1 s.1 d, stepT s.2.2 d)) (0, [], ⟨0, []⟩)
def spans (ds : List HD) : List Sp := (runH ds).2.1
def tst (ds : List HD) : Ts := (runH ds).2.2
theorem runH_snoc (ds : List HD) (d : HD) : runH (ds ++ [d]) = ((runH ds).1 + 1, stepS (runH ds).2.1 (runH ds).1 d, stepT (runH ds).2.2 d) := by
  unfold runH
  rw [List.foldl_append]; rfl
theorem runH_len : ∀ ds : List HD, (runH ds).1 = ds.length := by
  intro ds
  unfold runH
  suffices z : ∀ (l : List HD) (s : Nat × List Sp × Ts), (l.foldl (fun s d => (s.1 + 1, stepS s.2.1 s.1 d, stepT s.2.2 d)) s).1 = s.1 + l.length by
    rw [z]; simp
  intro l
  induction l with
  | nil => intro s; rfl
  | cons d l ih => intro s; rw [List.foldl_cons, ih, List.length_cons]; omega
theorem spans_snoc (ds : List HD) (d : HD) : spans (ds ++ [d]) = stepS (spans ds) ds.length d := by
  unfold spans
  rw [runH_snoc, runH_len]
theorem tst_snoc (ds : List HD) (d : HD) : tst (ds ++ [d]) = stepT (tst ds) d := by
  unfold tst
  rw [runH_snoc]
/-- can be next -/
def okH (n : Nat) (s : Ts) : HD → Prop
  | .come a b => a < n ∧ b < n ∧ a ≠ b ∧ s.c < 32
  | .go k => k ∈ s.th
  | .ask a b => a < n ∧ b < n
def OkH (n : Nat) (ds : List HD) : Prop := ∀ (i : Nat) (d : HD), ds[i]? = some d → okH n (tst (ds.take i)) d
theorem takeS {α : Type} {l : List α} {i : Nat} {x : α} (e : l[i]? = some x) : l.take (i + 1) = l.take i ++ [x] := by rw [List.take_add_one, e]; rfl
theorem OkH.nil {n : Nat} : OkH n [] := fun i d e => by simp at e
theorem OkH.snoc {n : Nat} {ds : List HD} (ok : OkH n ds) {d : HD} (o : okH n (tst ds) d) : OkH n (ds ++ [d]) := by
  intro i x e
  by_cases h : i < ds.length
  · rw [List.getElem?_append_left h] at e
    rw [List.take_append_of_le_length (by omega)]
    exact ok i x e
  · rw [List.getElem?_append_right (by omega)] at e
    have hi : i - ds.length = 0 := by
      have := (List.getElem?_eq_some_iff.mp e).1
      simp at this
      omega
    rw [hi] at e
    cases e
    have : i = ds.length := by omega
    subst this
    rw [List.take_left]
    exact o
theorem OkH.take {n : Nat} {ds : List HD} (ok : OkH n ds) (k : Nat) : OkH n (ds.take k) := by
  intro i x e
  have h := (List.getElem?_eq_some_iff.mp e).1
  rw [List.length_take] at h
  rw [List.getElem?_take_of_lt (by omega)] at e
  rw [List.take_take, Nat.min_eq_left (by omega)]
  exact ok i x e
/-- what stands while a right history runs -/
structure Rn (n : Nat) (ds : List HD) : Prop where
  len : (spans ds).length = (tst ds).c
  th : ∀ k ∈ (tst ds).th, k < (tst ds).c
  nd : (tst ds).th.Nodup
  c32 : (tst ds).c ≤ 32
  sp : ∀ x ∈ spans ds, x.one < n ∧ x.two < n ∧ ds[x.cm]? = some (.come x.one x.two)
theorem stepS_len {l : List Sp} {i : Nat} {d : HD} : (stepS l i d).length = match d with
    | .come _ _ => l.length + 1
    | _ => l.length := by
  cases d with
  | come a b => show (l ++ [_]).length = _; simp
  | go k =>
    show (match l[k]? with | some x => l.set k { x with gn := some i } | none => l).length = l.length
    cases l[k]? with
    | none => rfl
    | some x => exact List.length_set
  | ask a b => rfl
theorem rn_of {n : Nat} : ∀ {m : Nat} {ds : List HD}, ds.length = m → OkH n ds → Rn n ds
  | 0, ds, h, _ => by
    have : ds = [] := List.length_eq_zero_iff.mp h
    subst this
    exact ⟨rfl, fun k m => (by cases m), List.nodup_nil, (by show (0 : Nat) ≤ 32; omega), fun x m => (by cases m)⟩
  | m + 1, ds, h, ok => by
    have e : ds[m]? = some ds[m] := List.getElem?_eq_getElem (by omega)
    have es : ds = ds.take m ++ [ds[m]] := by rw [← takeS e, List.take_of_length_le (by omega)]
    have r := rn_of (n := n) (m := m) (ds := ds.take m) (by rw [List.length_take]; omega) (ok.take m)
    have o := ok m _ e
    generalize hd : ds[m] = d at es o
    generalize hp : ds.take m = pre at es r o
    have lp : pre.length = m := by rw [← hp, List.length_take]; omega
    rw [es]
    have keep : ∀ x ∈ spans pre, x.one < n ∧ x.two < n ∧ (pre ++ [d])[x.cm]? = some (.come x.one x.two) := fun x m => by
      obtain ⟨a, b, c⟩ := r.sp x m
      exact ⟨a, b, by rw [List.getElem?_append_left (List.getElem?_eq_some_iff.mp c).1]; exact c⟩
    refine ⟨?_, ?_, ?_, ?_, ?_⟩
    · rw [spans_snoc, tst_snoc, stepS_len, r.len]
      cases d <;> rfl
    · rw [tst_snoc]
      intro k hk
      cases d with
      | come a b =>
        have hk : k ∈ (tst pre).th ++ [(tst pre).c] := hk
        show k < (tst pre).c + 1
        rcases List.mem_append.mp hk with z | z
        · have := r.th k z; omega
        · rw [List.mem_singleton.mp z]; omega
      | go j => exact r.th k (List.mem_of_mem_erase hk)
      | ask a b => exact r.th k hk
    · rw [tst_snoc]
      cases d with
      | come a b =>
        show ((tst pre).th ++ [(tst pre).c]).Nodup
        refine List.nodup_append.mpr ⟨r.nd, by simp, fun x hx y hy => ?_⟩
        rw [List.mem_singleton.mp hy]
        have := r.th x hx
        omega
      | go j => exact r.nd.erase j
      | ask a b => exact r.nd
    · rw [tst_snoc]
      cases d with
      | come a b =>
        have := o.2.2.2
        show (tst pre).c + 1 ≤ 32
        omega
      | go j => exact r.c32
      | ask a b => exact r.c32
    · rw [spans_snoc]
      intro x hx
      cases d with
      | come a b =>
        have hx : x ∈ spans pre ++ [⟨a, b, pre.length, none⟩] := hx
        rcases List.mem_append.mp hx with z | z
        · exact keep x z
        · rw [List.mem_singleton.mp z]
          exact ⟨o.1, o.2.1, by simp⟩
      | go j =>
        have hx : x ∈ (match (spans pre)[j]? with | some x => (spans pre).set j { x with gn := some pre.length } | none => spans pre) := hx
        cases ey : (spans pre)[j]? with
        | none => rw [ey] at hx; exact keep x hx
        | some y =>
          rw [ey] at hx
          rcases List.mem_or_eq_of_mem_set hx with z | z
          · exact keep x z
          · rw [z]
            exact keep y (List.mem_of_getElem? ey)
      | ask a b => exact keep x hx
theorem OkH.rn {n : Nat} {ds : List HD} (ok : OkH n ds) : Rn n ds := rn_of rfl ok
end W3
namespace W3
open PySem PySem.Spec PyProof.Rows L2 M3
/-! ### lives -/
theorem enumA {l : List P} {i : Nat} {d : D} (e : (((numsP l.length).zip l).map fun z => D.dat (.tup [z.1, z.2]))[i]? = some d) : ∃ p, l[i]? = some p ∧ d = .dat (.tup [.int (i : Int), p]) := by
  rw [List.getElem?_map] at e
  cases q : ((numsP l.length).zip l)[i]? with
  | none => rw [q] at e; cases e
  | some z =>
    rw [q] at e
    cases e
    obtain ⟨a, b⟩ := List.getElem?_zip_eq_some.mp q
    exact ⟨z.2, b, by rw [← numsP_at a]⟩
theorem enumL {l : List P} : (((numsP l.length).zip l).map fun z => D.dat (.tup [z.1, z.2])).length = l.length := by
  rw [List.length_map, List.length_zip]
  unfold numsP
  simp
def histP (g : G) (n : Nat) (ds : List HD) : P := .ins g.History [("many", .int (n : Int)), ("deeds", .tup (ds.map HD.p))]
theorem fl_m {g : G} (X : Gx g) : (g.History, ("many" : Str)) ∈ g.FL := by rw [X.FL]; simp
theorem fl_d {g : G} (X : Gx g) : (g.History, ("deeds" : Str)) ∈ g.FL := by rw [X.FL]; simp
theorem dm_ : ¬ (("deeds" : Str) = "many") := by decide +kernel
theorem fld_many {g : G} (X : Gx g) {n : Nat} {ds : List HD} {S : Store} : fldD g.FL "many" S (.dat (histP g n ds)) = some (.dat (.int (n : Int))) := fld_ins (fl_m X) (if_pos rfl)
theorem fld_deeds {g : G} (X : Gx g) {n : Nat} {ds : List HD} {S : Store} : fldD g.FL "deeds" S (.dat (histP g n ds)) = some (.dat (.tup (ds.map HD.p))) := fld_ins (fl_d X) ((if_neg dm_).trans (if_pos rfl))
def pairP (x : Sp) : P := .tup [nv x.cm, ov x.gn]
def fourP (x : Sp) : P := .tup [nv x.one, nv x.two, nv x.cm, ov x.gn]
theorem hd_at {ds : List HD} {i : Nat} {p : P} (e : (ds.map HD.p)[i]? = some p) : ∃ d, ds[i]? = some d ∧ p = d.p := by
  rw [List.getElem?_map] at e
  cases q : ds[i]? with
  | none => rw [q] at e; cases e
  | some d => rw [q] at e; cases e; exact ⟨d, rfl, rfl⟩
/-- the words of deeds told apart -/
theorem w_ca : decide (("ask" : Str) = "come") = false := by decide +kernel
theorem w_ga : decide (("ask" : Str) = "go") = false := by decide +kernel
theorem w_cg : decide (("go" : Str) = "come") = false := by decide +kernel
theorem w_gc : decide (("come" : Str) = "go") = false := by decide +kernel
theorem w_ac : decide (("come" : Str) = "ask") = false := by decide +kernel
theorem w_ag : decide (("go" : Str) = "ask") = false := by decide +kernel
theorem w_cc : decide (("come" : Str) = "come") = true := decide_eq_true rfl
theorem w_gg : decide (("go" : Str) = "go") = true := decide_eq_true rfl
theorem w_aa : decide (("ask" : Str) = "ask") = true := decide_eq_true rfl
theorem hd0c {S : Store} {a b : Nat} : aIx S (.dat (HD.come a b).p) (.dat (.int 0)) = some (.dat (.str "come")) := rfl
theorem hd0g {S : Store} {k : Nat} : aIx S (.dat (HD.go k).p) (.dat (.int 0)) = some (.dat (.str "go")) := rfl
theorem hd0a {S : Store} {a b : Nat} : aIx S (.dat (HD.ask a b).p) (.dat (.int 0)) = some (.dat (.str "ask")) := rfl
theorem hd1c {S : Store} {a b : Nat} : aIx S (.dat (HD.come a b).p) (.dat (.int 1)) = some (.dat (nv a)) := rfl
theorem hd1g {S : Store} {k : Nat} : aIx S (.dat (HD.go k).p) (.dat (.int 1)) = some (.dat (nv k)) := rfl
theorem hd1a {S : Store} {a b : Nat} : aIx S (.dat (HD.ask a b).p) (.dat (.int 1)) = some (.dat (nv a)) := rfl
theorem hd2c {S : Store} {a b : Nat} : aIx S (.dat (HD.come a b).p) (.dat (.int 2)) = some (.dat (nv b)) := rfl
theorem hd2a {S : Store} {a b : Nat} : aIx S (.dat (HD.ask a b).p) (.dat (.int 2)) = some (.dat (nv b)) := rfl
theorem go_at {n : Nat} {ds : List HD} (ok : OkH n ds) {i k : Nat} (e : ds[i]? = some (.go k)) : ∃ x, (spans (ds.take i))[k]? = some x ∧ spans (ds.take (i + 1)) = (spans (ds.take i)).set k { x with gn := some i } := by
  have r := (ok.take i).rn
  have o := ok i _ e
  have hk : k < (spans (ds.take i)).length := by rw [r.len]; exact r.th k o
  have ek : (spans (ds.take i))[k]? = some (spans (ds.take i))[k] := List.getElem?_eq_getElem hk
  refine ⟨_, ek, ?_⟩
  rw [takeS e, spans_snoc]
  show (match (spans (ds.take i))[k]? with | some x => (spans (ds.take i)).set k { x with gn := some (ds.take i).length } | none => spans (ds.take i)) = _
  rw [ek]
  have hi := (List.getElem?_eq_some_iff.mp e).1
  simp only [List.length_take, Nat.min_eq_left (Nat.le_of_lt hi)]
theorem come_at {ds : List HD} {i a b : Nat} (e : ds[i]? = some (.come a b)) : spans (ds.take (i + 1)) = spans (ds.take i) ++ [⟨a, b, i, none⟩] := by
  have hi := (List.getElem?_eq_some_iff.mp e).1
  rw [takeS e, spans_snoc]
  show spans (ds.take i) ++ [⟨a, b, (ds.take i).length, none⟩] = _
  rw [List.length_take, Nat.min_eq_left (Nat.le_of_lt hi)]
theorem ask_at {ds : List HD} {i a b : Nat} (e : ds[i]? = some (.ask a b)) : spans (ds.take (i + 1)) = spans (ds.take i) := by
  rw [takeS e, spans_snoc]; rfl
section
variable {g : G} (X : Gx g) {n : Nat} {ds : List HD} (ok : OkH n ds)
theorem sp_len {i : Nat} (ok : OkH n ds) : (spans (ds.take i)).length ≤ 32 := by
  have r := (ok.take i).rn
  rw [r.len]; exact r.c32
theorem setSp {f : Sp → P} {l : List Sp} {k : Nat} {x : Sp} (hk : k < l.length) : setD (.obj 0) (.dat (nv k)) (.dat (f x)) [O.lst ((l.map f).map .dat)] = some [O.lst (((l.set k x).map f).map .dat)] := by
  show setD (.obj 0) (.dat (.int (k : Int))) (.dat (f x)) [O.lst ((l.map f).map .dat)] = _
  rw [setD_o (S := [O.lst ((l.map f).map .dat)]) (x := .dat (f x)) (k := k) rfl (ixN_nat (by rw [List.length_map, List.length_map]; exact hk))]
  rw [List.map_set, List.map_set]; rfl
theorem appSp {f : Sp → P} {l : List Sp} {x : Sp} (hl : l.length ≤ 32) : updL fAppend (.obj 0) [.dat (f x)] [O.lst ((l.map f).map .dat)] = .ok (.dat .non) [O.lst (((l ++ [x]).map f).map .dat)] := by
  rw [app_o (S := [O.lst ((l.map f).map .dat)]) rfl (by simp; omega)]
  simp
theorem ixSp {f : Sp → P} {l : List Sp} {k : Nat} {x : Sp} (e : l[k]? = some x) : aIx [O.lst ((l.map f).map .dat)] (.obj 0) (.dat (nv k)) = some (.dat (f x)) := ix_o (S := [O.lst ((l.map f).map .dat)]) rfl (atN (by rw [List.getElem?_map, List.getElem?_map, e]; rfl))
include X ok
theorem lives_t (S : Store) : mPure (m_lives g) [.dat (histP g n ds)] S = .ok (.dat (.tup ((spans ds).map pairP))) S := by
  suffices z : ∃ d S', m_lives g [.dat (histP g n ds)] [] = .ok d S' ∧ d = .dat (.tup ((spans ds).map pairP)) from let ⟨d, S', e, z⟩ := z; pure_dat rfl (z ▸ e)
  unfold m_lives mFld
  rw [mBody_fin]
  refine fin_ends ?_
  have l2 : (2 : Nat) ≤ 100000 := by decide
  dsimp! []
  rw [for_items (l := ((numsP (ds.map HD.p).length).zip (ds.map HD.p)).map fun z => .dat (.tup [z.1, z.2])) (S1 := [.lst []]) (by unfold mEnum; dsimp! [fld_deeds X]; rfl)]
  refine then_ends (Q1 := fun o S => ∃ x2 x3 x4 x5, o = .nx [some (.dat (histP g n ds)), some (.obj 0), x2, x3, x4, x5] ∧ S = [.lst (((spans ds).map pairP).map .dat)]) ?_ ?_
  · refine forL_ends (fun i δ S => ∃ x2 x3 x4 x5, δ = [some (.dat (histP g n ds)), some (.obj 0), x2, x3, x4, x5] ∧ S = [.lst (((spans (ds.take i)).map pairP).map .dat)]) (i := 0) ⟨_, _, _, _, rfl, rfl⟩ ?_ ?_
    · rintro i d δ S ed ⟨x2, x3, x4, x5, rfl, rfl⟩
      rw [Nat.zero_add]
      obtain ⟨p, ep, rfl⟩ := enumA ed
      obtain ⟨d, e, rfl⟩ := hd_at ep
      have two : ([.int (i : Int), d.p] : List P).length = 2 := rfl
      have ki : isKind "list" [O.lst (((spans (ds.take i)).map pairP).map .dat)] (.obj 0) = true := kind_o (S := [O.lst (((spans (ds.take i)).map pairP).map .dat)]) rfl
      cases d with
      | come a b =>
        have ap : updL fAppend (.obj 0) [.dat (.tup [.int (i : Int), .non])] [O.lst (((spans (ds.take i)).map pairP).map .dat)] = .ok (.dat .non) [O.lst (((spans (ds.take (i + 1))).map pairP).map .dat)] := by
          rw [come_at e]
          exact appSp (f := pairP) (x := ⟨a, b, i, none⟩) (sp_len ok)
        unfold mBM
        dsimp! [two, hd0c, w_cc, l2, ki, ap]
        exact .of (tmH ⟨_, _, _, _, rfl, rfl⟩)
      | go k =>
        obtain ⟨x, ex, en⟩ := go_at ok e
        have hk := (List.getElem?_eq_some_iff.mp ex).1
        have i1 : aIx [O.lst (((spans (ds.take i)).map pairP).map .dat)] (.obj 0) (.dat (nv k)) = some (.dat (.tup [nv x.cm, ov x.gn])) := ixSp (f := pairP) ex
        have two2 : ([nv x.cm, ov x.gn] : List P).length = 2 := rfl
        have s1 : setD (.obj 0) (.dat (nv k)) (.dat (.tup [nv x.cm, .int (i : Int)])) [O.lst (((spans (ds.take i)).map pairP).map .dat)] = some [O.lst (((spans (ds.take (i + 1))).map pairP).map .dat)] := by
          rw [en]
          exact setSp (f := pairP) (x := { x with gn := some i }) hk
        dsimp! [two, hd0g, w_cg, w_gg, hd1g, i1, two2, l2, s1]
        exact .of (tmH ⟨_, _, _, _, rfl, rfl⟩)
      | ask a b =>
        rw [← ask_at e]
        dsimp! [two, hd0a, w_ca, w_ga]
        exact .of (tmH ⟨_, _, _, _, rfl, rfl⟩)
    · rintro δ S ⟨x2, x3, x4, x5, rfl, rfl⟩
      rw [enumL, List.length_map, Nat.zero_add, List.take_length]
      exact ⟨_, _, _, _, rfl, rfl⟩
  · rintro o S ⟨x2, x3, x4, x5, rfl, rfl⟩
    have tp : aTuple [O.lst (((spans ds).map pairP).map .dat)] [.obj 0] = some (.dat (.tup ((spans ds).map pairP))) := by
      show (listP _ (.obj 0)).map _ = _
      rw [listP_o (S := [O.lst (((spans ds).map pairP).map .dat)]) rfl]
      rfl
    dsimp! [tp]
    exact .of ⟨_, rfl, rfl⟩
omit X in
theorem L_lives_t (S : Store) : mPure (m_L_lives g) [.dat (.tup (ds.map HD.p))] S = .ok (.dat (.lst ((spans ds).map fourP))) S := by
  suffices z : ∃ d S', m_L_lives g [.dat (.tup (ds.map HD.p))] [] = .ok d S' ∧ d = .obj 0 ∧ S' = [.lst (((spans ds).map fourP).map .dat)] by
    obtain ⟨d, S', e, rfl, rfl⟩ := z
    exact pure_obj rfl e (frz_o rfl)
  unfold m_L_lives
  rw [mBody_fin]
  refine fin_ends ?_
  have l1 : (1 : Nat) ≤ 100000 := by decide
  have l4 : (4 : Nat) ≤ 100000 := by decide
  dsimp! []
  rw [for_items (l := ((numsP (ds.map HD.p).length).zip (ds.map HD.p)).map fun z => .dat (.tup [z.1, z.2])) (S1 := [.lst []]) (by unfold mEnum; dsimp! []; rfl)]
  refine then_ends (Q1 := fun o S => ∃ x2 x3, o = .nx [some (.dat (.tup (ds.map HD.p))), some (.obj 0), x2, x3] ∧ S = [.lst (((spans ds).map fourP).map .dat)]) ?_ ?_
  · refine forL_ends (fun i δ S => ∃ x2 x3, δ = [some (.dat (.tup (ds.map HD.p))), some (.obj 0), x2, x3] ∧ S = [.lst (((spans (ds.take i)).map fourP).map .dat)]) (i := 0) ⟨_, _, rfl, rfl⟩ ?_ ?_
    · rintro i d δ S ed ⟨x2, x3, rfl, rfl⟩
      rw [Nat.zero_add]
      obtain ⟨p, ep, rfl⟩ := enumA ed
      obtain ⟨d, e, rfl⟩ := hd_at ep
      have two : ([.int (i : Int), d.p] : List P).length = 2 := rfl
      have ki : isKind "list" [O.lst (((spans (ds.take i)).map fourP).map .dat)] (.obj 0) = true := kind_o (S := [O.lst (((spans (ds.take i)).map fourP).map .dat)]) rfl
      cases d with
      | come a b =>
        have ap : updL fAppend (.obj 0) [.dat (.tup [nv a, nv b, .int (i : Int), .non])] [O.lst (((spans (ds.take i)).map fourP).map .dat)] = .ok (.dat .non) [O.lst (((spans (ds.take (i + 1))).map fourP).map .dat)] := by
          rw [come_at e]
          exact appSp (f := fourP) (x := ⟨a, b, i, none⟩) (sp_len ok)
        unfold mBM
        dsimp! [two, hd0c, w_cc, w_gc, hd1c, hd2c, l4, ki, ap]
        exact .of (tmH ⟨_, _, rfl, rfl⟩)
      | go k =>
        obtain ⟨x, ex, en⟩ := go_at ok e
        have hk := (List.getElem?_eq_some_iff.mp ex).1
        have i1 : aIx [O.lst (((spans (ds.take i)).map fourP).map .dat)] (.obj 0) (.dat (nv k)) = some (.dat (.tup [nv x.one, nv x.two, nv x.cm, ov x.gn])) := ixSp (f := fourP) ex
        have sl : ∀ S : Store, aSl S (.dat (.tup [nv x.one, nv x.two, nv x.cm, ov x.gn])) none (some 3) = some (.dat (.tup [nv x.one, nv x.two, nv x.cm])) := fun _ => rfl
        have ad : ∀ S : Store, aAdd S (.dat (.tup [nv x.one, nv x.two, nv x.cm])) (.dat (.tup [.int (i : Int)])) = some (.dat (.tup [nv x.one, nv x.two, nv x.cm, .int (i : Int)])) := fun S => add_tt (l := [nv x.one, nv x.two, nv x.cm]) (k := [.int (i : Int)]) (by simp)
        have s1 : setD (.obj 0) (.dat (nv k)) (.dat (.tup [nv x.one, nv x.two, nv x.cm, .int (i : Int)])) [O.lst (((spans (ds.take i)).map fourP).map .dat)] = some [O.lst (((spans (ds.take (i + 1))).map fourP).map .dat)] := by
          rw [en]
          exact setSp (f := fourP) (x := { x with gn := some i }) hk
        unfold mSl moN moS
        dsimp! [two, hd0g, w_cg, w_gg, hd1g, i1, l1, sl, ad, s1]
        exact .of (tmH ⟨_, _, rfl, rfl⟩)
      | ask a b =>
        rw [← ask_at e]
        dsimp! [two, hd0a, w_ca, w_ga]
        exact .of (tmH ⟨_, _, rfl, rfl⟩)
    · rintro δ S ⟨x2, x3, rfl, rfl⟩
      rw [enumL, List.length_map, Nat.zero_add, List.take_length]
      exact ⟨_, _, rfl, rfl⟩
  · rintro o S ⟨x2, x3, rfl, rfl⟩
    dsimp! []
    exact .of ⟨_, rfl, rfl, rfl⟩
end
end W3
namespace W3
open PySem PySem.Spec PyProof.Rows L2 M3
/-! ### who is joined: labels of two sorts -/
def hereB (x : Sp) (t : Nat) : Bool := decide (x.cm < t) && (match x.gn with
  | none => true
  | some q => decide (t ≤ q))
def trN (l : List Sp) (t i : Nat) : List (Nat × Sp) := (List.range i).filterMap fun j => match l[j]? with
  | some x => if hereB x t = true then some (j, x) else none
  | none => none
theorem trN_succ {l : List Sp} {t i : Nat} {x : Sp} (e : l[i]? = some x) : trN l t (i + 1) = trN l t i ++ (if hereB x t = true then [(i, x)] else []) := by
  unfold trN
  rw [List.range_succ, List.filterMap_append]
  congr 1
  rw [List.filterMap_cons, e]
  by_cases c : hereB x t = true
  · simp [c]
  · simp [c]
theorem trN_mem {l : List Sp} {t i : Nat} {z : Nat × Sp} (m : z ∈ trN l t i) : z.2 ∈ l ∧ l[z.1]? = some z.2 := by
  unfold trN at m
  obtain ⟨j, _, e⟩ := List.mem_filterMap.mp m
  cases q : l[j]? with
  | none => rw [q] at e; cases e
  | some x =>
    rw [q] at e
    by_cases c : hereB x t = true
    · simp only [c, if_true] at e
      cases e
      exact ⟨List.mem_of_getElem? q, q⟩
    · simp only [c, if_false] at e; cases e
def lab1 (L : List Nat) (x : Sp) : List Nat := L.map fun v => if v = L.getD x.two 0 then L.getD x.one 0 else v
def par1 (L : List Nat) (x : Sp) : List Nat := L.map fun v => if v = L.getD x.one 0 ∨ v = L.getD x.two 0 then min (L.getD x.one 0) (L.getD x.two 0) else v
def labs (n : Nat) (xs : List Sp) : List Nat := xs.foldl lab1 (List.range n)
def pars (n : Nat) (xs : List Sp) : List Nat := xs.foldl par1 (List.range n)
structure Alike (n : Nat) (L M : List Nat) : Prop where
  l1 : L.length = n
  l2 : M.length = n
  eq : ∀ i j, i < n → j < n → (L.getD i 0 = L.getD j 0 ↔ M.getD i 0 = M.getD j 0)
theorem map_getD {L : List Nat} {f : Nat → Nat} {i : Nat} (h : i < L.length) : (L.map f).getD i 0 = f (L.getD i 0) := by
  rw [List.getD_eq_getElem?_getD, List.getD_eq_getElem?_getD, List.getElem?_map, List.getElem?_eq_getElem h]; rfl
theorem Alike.step {n : Nat} {L M : List Nat} (A : Alike n L M) {x : Sp} (h1 : x.one < n) (h2 : x.two < n) : Alike n (lab1 L x) (par1 M x) := by
  refine ⟨by unfold lab1; rw [List.length_map, A.l1], by unfold par1; rw [List.length_map, A.l2], fun i j hi hj => ?_⟩
  unfold lab1 par1
  rw [map_getD (by rw [A.l1]; exact hi), map_getD (by rw [A.l1]; exact hj), map_getD (by rw [A.l2]; exact hi), map_getD (by rw [A.l2]; exact hj)]
  have e1 := A.eq i j hi hj
  have e2 := A.eq i x.one hi h1
  have e3 := A.eq i x.two hi h2
  have e4 := A.eq j x.one hj h1
  have e5 := A.eq j x.two hj h2
  have e6 := A.eq x.one x.two h1 h2
  generalize L.getD i 0 = li at *
  generalize L.getD j 0 = lj at *
  generalize L.getD x.one 0 = la at *
  generalize L.getD x.two 0 = lb at *
  generalize M.getD i 0 = mi at *
  generalize M.getD j 0 = mj at *
  generalize M.getD x.one 0 = ma at *
  generalize M.getD x.two 0 = mb at *
  have mn : min ma mb = ma ∨ min ma mb = mb := by omega
  -- label by label
  have fL : ∀ v : Nat, (if v = lb then la else v) = if v = lb then la else v := fun _ => rfl
  by_cases b1 : li = lb
  · have c1 : mi = mb := e3.mp b1
    rw [if_pos b1, if_pos (Or.inr c1)]
    by_cases b2 : lj = lb
    · have c2 : mj = mb := e5.mp b2
      rw [if_pos b2, if_pos (Or.inr c2)]
      exact ⟨fun _ => rfl, fun _ => rfl⟩
    · have c2 : ¬ mj = mb := fun z => b2 (e5.mpr z)
      rw [if_neg b2]
      by_cases b3 : lj = la
      · have c3 : mj = ma := e4.mp b3
        rw [if_pos (Or.inl c3)]
        exact ⟨fun _ => rfl, fun _ => b3.symm⟩
      · have c3 : ¬ mj = ma := fun z => b3 (e4.mpr z)
        rw [if_neg (show ¬ (mj = ma ∨ mj = mb) from fun z => z.elim c3 c2)]
        exact ⟨fun z => absurd z.symm b3, fun z => by omega⟩
  · have c1 : ¬ mi = mb := fun z => b1 (e3.mpr z)
    rw [if_neg b1]
    by_cases b3 : li = la
    · have c3 : mi = ma := e2.mp b3
      rw [if_pos (Or.inl c3)]
      by_cases b2 : lj = lb
      · have c2 : mj = mb := e5.mp b2
        rw [if_pos b2, if_pos (Or.inr c2)]
        exact ⟨fun _ => rfl, fun _ => b3⟩
      · have c2 : ¬ mj = mb := fun z => b2 (e5.mpr z)
        rw [if_neg b2]
        by_cases b4 : lj = la
        · have c4 : mj = ma := e4.mp b4
          rw [if_pos (Or.inl c4)]
          exact ⟨fun _ => rfl, fun _ => b3.trans b4.symm⟩
        · have c4 : ¬ mj = ma := fun z => b4 (e4.mpr z)
          rw [if_neg (show ¬ (mj = ma ∨ mj = mb) from fun z => z.elim c4 c2)]
          exact ⟨fun z => absurd (z.symm.trans b3) b4, fun z => by omega⟩
    · have c3 : ¬ mi = ma := fun z => b3 (e2.mpr z)
      rw [if_neg (show ¬ (mi = ma ∨ mi = mb) from fun z => z.elim c3 c1)]
      by_cases b2 : lj = lb
      · have c2 : mj = mb := e5.mp b2
        rw [if_pos b2, if_pos (Or.inr c2)]
        exact ⟨fun z => absurd z b3, fun z => by omega⟩
      · have c2 : ¬ mj = mb := fun z => b2 (e5.mpr z)
        rw [if_neg b2]
        by_cases b4 : lj = la
        · have c4 : mj = ma := e4.mp b4
          rw [if_pos (Or.inl c4)]
          exact ⟨fun z => absurd (z.trans b4) b3, fun z => by omega⟩
        · have c4 : ¬ mj = ma := fun z => b4 (e4.mpr z)
          rw [if_neg (show ¬ (mj = ma ∨ mj = mb) from fun z => z.elim c4 c2)]
          exact e1
theorem alike_fold {n : Nat} : ∀ {xs : List Sp} {L M : List Nat}, (∀ x ∈ xs, x.one < n ∧ x.two < n) → Alike n L M → Alike n (xs.foldl lab1 L) (xs.foldl par1 M)
  | [], _, _, _, A => A
  | x :: xs, L, M, h, A => by
    rw [List.foldl_cons, List.foldl_cons]
    have hx := h x (List.mem_cons_self ..)
    exact alike_fold (fun y m => h y (List.mem_cons_of_mem _ m)) (A.step hx.1 hx.2)
theorem alike_of {n : Nat} {xs : List Sp} (h : ∀ x ∈ xs, x.one < n ∧ x.two < n) : Alike n (labs n xs) (pars n xs) := alike_fold h ⟨by simp, by simp, fun i j hi hj => Iff.rfl⟩
theorem labs_len {n : Nat} {xs : List Sp} : (labs n xs).length = n := by
  unfold labs
  suffices z : ∀ (L : List Nat), (xs.foldl lab1 L).length = L.length by rw [z]; simp
  induction xs with
  | nil => intro L; rfl
  | cons x xs ih => intro L; rw [List.foldl_cons, ih]; unfold lab1; simp
theorem pars_len {n : Nat} {xs : List Sp} : (pars n xs).length = n := by
  unfold pars
  suffices z : ∀ (L : List Nat), (xs.foldl par1 L).length = L.length by rw [z]; simp
  induction xs with
  | nil => intro L; rfl
  | cons x xs ih => intro L; rw [List.foldl_cons, ih]; unfold par1; simp
/-- as many different ones -/
theorem firstMet_alike {f g : Nat → Int} : ∀ {n : Nat}, (∀ i j, i < n → j < n → (f i = f j ↔ g i = g j)) → (PyProof.Rows.firstMet f n).length = (PyProof.Rows.firstMet g n).length
  | 0, _ => rfl
  | n + 1, h => by
    have ih := firstMet_alike (f := f) (g := g) (n := n) fun i j hi hj => h i j (by omega) (by omega)
    rw [PyProof.Rows.firstMet_succ, PyProof.Rows.firstMet_succ]
    unfold PyProof.Rows.step_dedup
    rw [PyProof.Rows.firstMet_any f n (f n), PyProof.Rows.firstMet_any g n (g n)]
    have e : ((List.range n).map f).any (· == f n) = ((List.range n).map g).any (· == g n) := by
      rw [List.any_map, List.any_map]
      refine Bool.eq_iff_iff.mpr ?_
      rw [List.any_eq_true, List.any_eq_true]
      constructor
      · rintro ⟨i, m, q⟩
        refine ⟨i, m, ?_⟩
        have := List.mem_range.mp m
        have q : f i = f n := eq_of_beq q
        exact beq_iff_eq.mpr ((h i n (by omega) (by omega)).mp q)
      · rintro ⟨i, m, q⟩
        refine ⟨i, m, ?_⟩
        have := List.mem_range.mp m
        have q : g i = g n := eq_of_beq q
        exact beq_iff_eq.mpr ((h i n (by omega) (by omega)).mpr q)
    rw [e]
    split
    · exact ih
    · rw [List.length_append, List.length_append, ih]; rfl
theorem setLen_alike {n : Nat} {L M : List Nat} (A : Alike n L M) : setLen (L.map fun (v : Nat) => (v : Int)) = setLen (M.map fun (v : Nat) => (v : Int)) := by
  unfold setLen
  rw [List.length_map, List.length_map, A.l1, A.l2]
  have gd : ∀ (Q : List Nat) (i : Nat), i < Q.length → (Q.map fun (v : Nat) => (v : Int)).getD i 0 = ((Q.getD i 0 : Nat) : Int) := fun Q i h => by
    rw [List.getD_eq_getElem?_getD, List.getD_eq_getElem?_getD, List.getElem?_map, List.getElem?_eq_getElem h]; rfl
  refine firstMet_alike fun i j hi hj => ?_
  rw [gd L i (by rw [A.l1]; exact hi), gd L j (by rw [A.l1]; exact hj), gd M i (by rw [A.l2]; exact hi), gd M j (by rw [A.l2]; exact hj)]
  have := A.eq i j hi hj
  omega
end W3
namespace W3
open PySem PySem.Spec PyProof.Rows L2 M3
/-! ### who is joined, by the ties alone; the order of those that stay longer -/
theorem snoc_ind {α : Type} {P : List α → Prop} (h0 : P []) (h1 : ∀ l x, P l → P (l ++ [x])) (l : List α) : P l := by
  have z : ∀ r : List α, P r.reverse := fun r => by
    induction r with
    | nil => exact h0
    | cons a r ih => rw [List.reverse_cons]; exact h1 _ _ ih
  have := z l.reverse
  rwa [List.reverse_reverse] at this
inductive Jn (xs : List Sp) : Nat → Nat → Prop
  | refl (a : Nat) : Jn xs a a
  | tie {a : Nat} {x : Sp} : x ∈ xs → Jn xs a x.one → Jn xs a x.two
  | tie' {a : Nat} {x : Sp} : x ∈ xs → Jn xs a x.two → Jn xs a x.one
theorem Jn.mono {xs ys : List Sp} (h : ∀ x ∈ xs, x ∈ ys) {a b : Nat} (j : Jn xs a b) : Jn ys a b := by
  induction j with
  | refl => exact .refl _
  | tie m _ ih => exact .tie (h _ m) ih
  | tie' m _ ih => exact .tie' (h _ m) ih
theorem Jn.trans {xs : List Sp} {a b c : Nat} (j : Jn xs a b) (k : Jn xs b c) : Jn xs a c := by
  induction k with
  | refl => exact j
  | tie m _ ih => exact .tie m ih
  | tie' m _ ih => exact .tie' m ih
theorem Jn.symm {xs : List Sp} {a b : Nat} (j : Jn xs a b) : Jn xs b a := by
  induction j with
  | refl => exact .refl _
  | tie m _ ih => exact (Jn.tie' m (.refl _)).trans ih
  | tie' m _ ih => exact (Jn.tie m (.refl _)).trans ih
theorem Jn.of_nil {a b : Nat} (j : Jn [] a b) : a = b := by
  induction j with
  | refl => rfl
  | tie m _ _ => cases m
  | tie' m _ _ => cases m
theorem labs_snoc {n : Nat} {xs : List Sp} {x : Sp} : labs n (xs ++ [x]) = lab1 (labs n xs) x := by unfold labs; rw [List.foldl_append]; rfl
theorem pars_snoc {n : Nat} {xs : List Sp} {x : Sp} : pars n (xs ++ [x]) = par1 (pars n xs) x := by unfold pars; rw [List.foldl_append]; rfl
theorem lab1_at {L : List Nat} {x : Sp} {i : Nat} (h : i < L.length) : (lab1 L x).getD i 0 = if L.getD i 0 = L.getD x.two 0 then L.getD x.one 0 else L.getD i 0 := by unfold lab1; exact map_getD h
def InN (n : Nat) (xs : List Sp) : Prop := ∀ x ∈ xs, x.one < n ∧ x.two < n
def Jd (n : Nat) (xs : List Sp) (a b : Nat) : Prop := (labs n xs).getD a 0 = (labs n xs).getD b 0
instance {n : Nat} {xs : List Sp} {a b : Nat} : Decidable (Jd n xs a b) := by unfold Jd; infer_instance
theorem InN.l {n : Nat} {xs ys : List Sp} (h : InN n (xs ++ ys)) : InN n xs := fun x m => h x (List.mem_append_left _ m)
theorem InN.last {n : Nat} {xs : List Sp} {x : Sp} (h : InN n (xs ++ [x])) : x.one < n ∧ x.two < n := h x (by simp)
theorem jd_jn {n : Nat} (xs : List Sp) : InN n xs → ∀ {a b : Nat}, a < n → b < n → Jd n xs a b → Jn xs a b := by
  refine snoc_ind (P := fun xs => InN n xs → ∀ {a b : Nat}, a < n → b < n → Jd n xs a b → Jn xs a b) ?_ ?_ xs
  · intro _ a b ha hb j
    have j : (List.range n).getD a 0 = (List.range n).getD b 0 := j
    rw [List.getD_eq_getElem?_getD, List.getD_eq_getElem?_getD, List.getElem?_range ha, List.getElem?_range hb] at j
    have j : a = b := j
    subst j
    exact .refl _
  · intro l x ih hx a b ha hb j
    have j : (labs n (l ++ [x])).getD a 0 = (labs n (l ++ [x])).getD b 0 := j
    obtain ⟨h1, h2⟩ := hx.last
    have ih : ∀ {i k : Nat}, i < n → k < n → (labs n l).getD i 0 = (labs n l).getD k 0 → Jn (l ++ [x]) i k := fun hi hk e => (ih hx.l hi hk e).mono fun y m => List.mem_append_left _ m
    have mx : x ∈ l ++ [x] := by simp
    have t12 : Jn (l ++ [x]) x.one x.two := .tie mx (.refl _)
    rw [labs_snoc, lab1_at (by rw [labs_len]; exact ha), lab1_at (by rw [labs_len]; exact hb)] at j
    by_cases c1 : (labs n l).getD a 0 = (labs n l).getD x.two 0
    · rw [if_pos c1] at j
      by_cases c2 : (labs n l).getD b 0 = (labs n l).getD x.two 0
      · exact (ih ha h2 c1).trans (ih hb h2 c2).symm
      · rw [if_neg c2] at j
        exact (ih ha h2 c1).trans (t12.symm.trans (ih h1 hb j))
    · rw [if_neg c1] at j
      by_cases c2 : (labs n l).getD b 0 = (labs n l).getD x.two 0
      · rw [if_pos c2] at j
        exact (ih ha h1 j).trans (t12.trans (ih hb h2 c2).symm)
      · rw [if_neg c2] at j
        exact ih ha hb j
theorem tie_lab {n : Nat} (xs : List Sp) : InN n xs → ∀ x ∈ xs, Jd n xs x.one x.two := by
  refine snoc_ind (P := fun xs => InN n xs → ∀ x ∈ xs, Jd n xs x.one x.two) ?_ ?_ xs
  · intro _ x m; cases m
  · intro l y ih hx x m
    have hb := hx x m
    show (labs n (l ++ [y])).getD x.one 0 = (labs n (l ++ [y])).getD x.two 0
    rw [labs_snoc, lab1_at (by rw [labs_len]; exact hb.1), lab1_at (by rw [labs_len]; exact hb.2)]
    rcases List.mem_append.mp m with m | m
    · have e : (labs n l).getD x.one 0 = (labs n l).getD x.two 0 := ih hx.l x m
      rw [e]
    · rw [List.mem_singleton.mp m, if_pos (show (labs n l).getD y.two 0 = (labs n l).getD y.two 0 from rfl)]
      split <;> rfl
theorem jn_jd {n : Nat} {xs : List Sp} (h : InN n xs) {a b : Nat} (j : Jn xs a b) : Jd n xs a b := by
  induction j with
  | refl => rfl
  | tie m _ ih => exact ih.trans (tie_lab xs h _ m)
  | tie' m _ ih => exact ih.trans (tie_lab xs h _ m).symm
theorem jd_iff {n : Nat} {xs : List Sp} (h : InN n xs) {a b : Nat} (ha : a < n) (hb : b < n) : Jd n xs a b ↔ Jn xs a b := ⟨jd_jn xs h ha hb, jn_jd h⟩
theorem pd_iff {n : Nat} {xs : List Sp} (h : InN n xs) {a b : Nat} (ha : a < n) (hb : b < n) : (pars n xs).getD a 0 = (pars n xs).getD b 0 ↔ Jn xs a b := ((alike_of h).eq a b ha hb).symm.trans (jd_iff h ha hb)
/-! ### till when -/
def ansF (n a b : Nat) : List Sp → List Sp → P
  | _, [] => .int (-1)
  | pre, x :: r => if Jd n (pre ++ [x]) a b then ov x.gn else ansF n a b (pre ++ [x]) r
def tillL (n a b : Nat) : List Sp → List Nat → P → P
  | left, [], last => if (pars n left).getD a 0 = (pars n left).getD b 0 then .non else last
  | left, q :: gs, last => if (pars n left).getD a 0 = (pars n left).getD b 0 then tillL n a b (left.filter fun x => decide (x.gn ≠ some q)) gs (nv q) else last
section
variable {n a b : Nat} (ha : a < n) (hb : b < n)
include ha hb
theorem ansF_not : ∀ {l pre : List Sp}, InN n (pre ++ l) → ¬ Jn (pre ++ l) a b → ansF n a b pre l = .int (-1)
  | [], _, _, _ => rfl
  | x :: l, pre, h, k => by
    have e : pre ++ x :: l = (pre ++ [x]) ++ l := by simp
    rw [e] at h k
    have c : ¬ Jd n (pre ++ [x]) a b := fun j => k ((jd_jn _ h.l ha hb j).mono fun y m => List.mem_append_left _ m)
    rw [ansF, if_neg c]
    exact ansF_not h k
theorem ansF_non : ∀ {l pre : List Sp}, InN n (pre ++ l) → (∀ x ∈ l, x.gn = none) → ¬ Jn pre a b → Jn (pre ++ l) a b → ansF n a b pre l = .non
  | [], pre, _, _, k, j => absurd (by simpa using j) k
  | x :: l, pre, h, hn, k, j => by
    have e : pre ++ x :: l = (pre ++ [x]) ++ l := by simp
    rw [e] at h j
    rw [ansF]
    by_cases c : Jd n (pre ++ [x]) a b
    · rw [if_pos c, hn x (by simp)]; rfl
    · rw [if_neg c]
      exact ansF_non h (fun y m => hn y (List.mem_cons_of_mem _ m)) (fun z => c (jn_jd h.l z)) j
theorem ansF_snoc {d : Sp} : ∀ {l pre : List Sp}, InN n (pre ++ l ++ [d]) → (Jn (pre ++ l) a b → ¬ Jn pre a b → ansF n a b pre (l ++ [d]) = ansF n a b pre l) ∧ (¬ Jn (pre ++ l) a b → Jn (pre ++ l ++ [d]) a b → ansF n a b pre (l ++ [d]) = ov d.gn)
  | [], pre, h => by
    rw [List.append_nil] at h ⊢
    refine ⟨fun j k => absurd j k, fun k j => ?_⟩
    rw [List.nil_append, ansF, if_pos (jn_jd h j)]
  | x :: l, pre, h => by
    have e : pre ++ x :: l = (pre ++ [x]) ++ l := by simp
    rw [e] at h ⊢
    obtain ⟨i1, i2⟩ := ansF_snoc (d := d) (l := l) (pre := pre ++ [x]) h
    have hx : InN n (pre ++ [x]) := h.l.l
    refine ⟨fun j k => ?_, fun k j => ?_⟩
    · rw [List.cons_append, ansF, ansF]
      by_cases c : Jd n (pre ++ [x]) a b
      · rw [if_pos c, if_pos c]
      · rw [if_neg c, if_neg c]
        exact i1 j fun z => c (jn_jd hx z)
    · have c : ¬ Jd n (pre ++ [x]) a b := fun z => k ((jd_jn _ hx ha hb z).mono fun y m => List.mem_append_left _ m)
      rw [List.cons_append, ansF, if_neg c]
      exact i2 k j
theorem till_all (hab : a ≠ b) {Nv : List Sp} (hN : InN n Nv) (nn : ∀ x ∈ Nv, x.gn = none) : ∀ (D left : List Sp) (last : P), InN n D → (∀ x, x ∈ left ↔ x ∈ Nv ++ D) → (∀ x ∈ D, x.gn.isSome = true) → (D.map Sp.gn).Nodup →
    (Jn (Nv ++ D) a b → tillL n a b left (D.reverse.map fun x => x.gn.getD 0) last = ansF n a b [] (Nv ++ D)) ∧ (¬ Jn (Nv ++ D) a b → tillL n a b left (D.reverse.map fun x => x.gn.getD 0) last = last) := by
  intro D
  refine snoc_ind (P := fun D => ∀ (left : List Sp) (last : P), InN n D → (∀ x, x ∈ left ↔ x ∈ Nv ++ D) → (∀ x ∈ D, x.gn.isSome = true) → (D.map Sp.gn).Nodup →
    (Jn (Nv ++ D) a b → tillL n a b left (D.reverse.map fun x => x.gn.getD 0) last = ansF n a b [] (Nv ++ D)) ∧ (¬ Jn (Nv ++ D) a b → tillL n a b left (D.reverse.map fun x => x.gn.getD 0) last = last)) ?_ ?_ D
  · intro left last hD hm _ _
    have n0 : ¬ Jn [] a b := fun j => hab j.of_nil
    have hl : InN n left := fun x m => hN x (by simpa using (hm x).mp m)
    rw [List.append_nil] at hm ⊢
    have jl : Jn left a b ↔ Jn Nv a b := ⟨fun j => j.mono fun x m => (hm x).mp m, fun j => j.mono fun x m => (hm x).mpr m⟩
    refine ⟨fun j => ?_, fun k => ?_⟩
    · rw [ansF_non ha hb (pre := []) hN nn n0 j]
      show (if (pars n left).getD a 0 = (pars n left).getD b 0 then P.non else last) = _
      rw [if_pos ((pd_iff hl ha hb).mpr (jl.mpr j))]
    · show (if (pars n left).getD a 0 = (pars n left).getD b 0 then P.non else last) = _
      rw [if_neg fun z => k (jl.mp ((pd_iff hl ha hb).mp z))]
  · intro D d ih left last hD hm hs nd
    have n0 : ¬ Jn [] a b := fun j => hab j.of_nil
    have hAll : InN n (Nv ++ (D ++ [d])) := fun x m => (List.mem_append.mp m).elim (hN x) (hD x)
    have hl : InN n left := fun x m => hAll x ((hm x).mp m)
    have jl : Jn left a b ↔ Jn (Nv ++ (D ++ [d])) a b := ⟨fun j => j.mono fun x m => (hm x).mp m, fun j => j.mono fun x m => (hm x).mpr m⟩
    have hd : d.gn.isSome = true := hs d (by simp)
    obtain ⟨q, eq⟩ := Option.isSome_iff_exists.mp hd
    rw [List.map_append, List.nodup_append] at nd
    have nq : ∀ x ∈ D, x.gn ≠ some q := fun x m z => nd.2.2 x.gn (List.mem_map.mpr ⟨x, m, rfl⟩) d.gn (by simp) (z.trans eq.symm)
    have hm' : ∀ x, x ∈ (left.filter fun x => decide (x.gn ≠ some q)) ↔ x ∈ Nv ++ D := fun x => by
      rw [List.mem_filter, hm, decide_eq_true_iff, List.mem_append, List.mem_append, List.mem_append, List.mem_singleton]
      constructor
      · rintro ⟨m, z⟩
        rcases m with m | m | m
        · exact .inl m
        · exact .inr m
        · rw [m] at z; exact absurd eq z
      · rintro (m | m)
        · exact ⟨.inl m, by rw [nn x m]; simp⟩
        · exact ⟨.inr (.inl m), nq x m⟩
    obtain ⟨i1, i2⟩ := ih (left.filter fun x => decide (x.gn ≠ some q)) (nv q) (fun x m => hD x (List.mem_append_left _ m)) hm' (fun x m => hs x (List.mem_append_left _ m)) nd.1
    have er : ((D ++ [d]).reverse.map fun x => x.gn.getD 0) = q :: (D.reverse.map fun x => x.gn.getD 0) := by
      rw [List.reverse_append, List.reverse_singleton, List.singleton_append, List.map_cons, eq]; rfl
    rw [er]
    have as : Nv ++ (D ++ [d]) = [] ++ (Nv ++ D) ++ [d] := by simp
    obtain ⟨s1, s2⟩ := ansF_snoc ha hb (d := d) (l := Nv ++ D) (pre := []) (by rw [← as]; exact hAll)
    have ap : Nv ++ (D ++ [d]) = (Nv ++ D) ++ [d] := by simp
    refine ⟨fun j => ?_, fun k => ?_⟩
    · rw [tillL, if_pos ((pd_iff hl ha hb).mpr (jl.mpr j)), ap]
      by_cases c : Jn (Nv ++ D) a b
      · rw [i1 c, s1 c n0]
      · rw [i2 c, s2 c (by rw [← as]; exact j), eq]; rfl
    · rw [tillL, if_neg fun z => k (jl.mp ((pd_iff hl ha hb).mp z))]
end
theorem till_same {n a : Nat} : ∀ (gs : List Nat) (left : List Sp) (last : P), tillL n a a left gs last = .non
  | [], _, _ => if_pos rfl
  | _ :: gs, _, _ => (if_pos rfl).trans (till_same gs _ _)
end W3
namespace W3
open PySem PySem.Spec PyProof.Rows L2 M3
/-! ### who is joined: by the program and by the law -/
theorem isn_o {S : Store} {o : Option Nat} : aIsN S (.dat (ov o)) (.dat .non) = some (.dat (.bl (decide (o = none)))) := by cases o <;> rfl
def triP (z : Nat × Sp) : P := .tup [nv z.1, nv z.2.one, nv z.2.two]
theorem sp_at {f : Sp → P} {l : List Sp} {i : Nat} {p : P} (e : (l.map f)[i]? = some p) : ∃ x, l[i]? = some x ∧ p = f x := by
  rw [List.getElem?_map] at e
  cases q : l[i]? with
  | none => rw [q] at e; cases e
  | some d => rw [q] at e; cases e; exact ⟨d, rfl, rfl⟩
theorem lt_nv {S : Store} {a b : Nat} : aLt S (.dat (nv a)) (.dat (.int (b : Int))) = some (.dat (.bl (decide (a < b)))) := by
  show some (D.dat (.bl (decide ((a : Int) < (b : Int))))) = _
  by_cases c : a < b
  · rw [decide_eq_true c, decide_eq_true (by omega)]
  · rw [decide_eq_false c, decide_eq_false (by omega)]
theorem ge_nv {S : Store} {a b : Nat} : aGe S (.dat (nv a)) (.dat (.int (b : Int))) = some (.dat (.bl (decide (b ≤ a)))) := by
  show some (D.dat (.bl (decide ((a : Int) ≥ (b : Int))))) = _
  by_cases c : b ≤ a
  · rw [decide_eq_true c, decide_eq_true (by omega)]
  · rw [decide_eq_false c, decide_eq_false (by omega)]
section
variable {g : G} (X : Gx g) {n : Nat} {ds : List HD} (ok : OkH n ds)
include X ok
theorem there_t (t : Nat) (S : Store) : mPure (m_there g) [.dat (histP g n ds), .dat (.int (t : Int))] S = .ok (.dat (.lst ((trN (spans ds) t (spans ds).length).map triP))) S := by
  suffices z : ∃ d S', m_there g [.dat (histP g n ds), .dat (.int (t : Int))] [] = .ok d S' ∧ d = .obj 0 ∧ S' = [.lst (((trN (spans ds) t (spans ds).length).map triP).map .dat)] by
    obtain ⟨d, S', e, rfl, rfl⟩ := z
    exact pure_obj rfl e (frz_o rfl)
  have rn := ok.rn
  have l32 : (spans ds).length ≤ 32 := by rw [rn.len]; exact rn.c32
  have l3 : (3 : Nat) ≤ 100000 := by decide
  unfold m_there mFld
  rw [mBody_fin]
  refine fin_ends ?_
  dsimp! []
  rw [for_items (l := ((numsP ((spans ds).map pairP).length).zip ((spans ds).map pairP)).map fun z => .dat (.tup [z.1, z.2])) (S1 := [.lst []]) (by unfold mEnum; dsimp! [lives_t X ok]; rfl)]
  refine then_ends (Q1 := fun o S => ∃ x3 x4 x5, o = .nx [some (.dat (histP g n ds)), some (.dat (.int (t : Int))), some (.obj 0), x3, x4, x5] ∧ S = [.lst (((trN (spans ds) t (spans ds).length).map triP).map .dat)]) ?_ ?_
  · refine forL_ends (fun i δ S => ∃ x3 x4 x5, δ = [some (.dat (histP g n ds)), some (.dat (.int (t : Int))), some (.obj 0), x3, x4, x5] ∧ S = [.lst (((trN (spans ds) t i).map triP).map .dat)]) (i := 0) ⟨_, _, _, rfl, rfl⟩ ?_ ?_
    · rintro i d δ S ed ⟨x3, x4, x5, rfl, rfl⟩
      rw [Nat.zero_add]
      obtain ⟨p, ep, rfl⟩ := enumA ed
      obtain ⟨x, e, rfl⟩ := sp_at ep
      have hi := (List.getElem?_eq_some_iff.mp e).1
      obtain ⟨b1, b2, b3⟩ := rn.sp x (List.mem_of_getElem? e)
      have two : ([.int (i : Int), pairP x] : List P).length = 2 := rfl
      have pp : pairP x = .tup [nv x.cm, ov x.gn] := rfl
      have two2 : ([nv x.cm, ov x.gn] : List P).length = 2 := rfl
      have ki : isKind "list" [O.lst (((trN (spans ds) t i).map triP).map .dat)] (.obj 0) = true := kind_o (S := [O.lst (((trN (spans ds) t i).map triP).map .dat)]) rfl
      have ix : ∀ S : Store, aIx S (.dat (.tup (ds.map HD.p))) (.dat (nv x.cm)) = some (.dat (HD.come x.one x.two).p) := fun S => ix_t (atN (map_get b3))
      have lt : (trN (spans ds) t i).length ≤ 32 := by
        unfold trN
        refine Nat.le_trans (List.length_filterMap_le _ _) ?_
        rw [List.length_range]
        omega
      have ap : updL fAppend (.obj 0) [.dat (.tup [.int (i : Int), nv x.one, nv x.two])] [O.lst (((trN (spans ds) t i).map triP).map .dat)] = .ok (.dat .non) [O.lst (((trN (spans ds) t i ++ [(i, x)]).map triP).map .dat)] := by
        rw [app_o (S := [O.lst (((trN (spans ds) t i).map triP).map .dat)]) rfl (by simp; omega)]
        simp [triP, nv]
      have en := trN_succ (t := t) e
      rw [en]
      by_cases c1 : x.cm < t
      · cases eg : x.gn with
        | none =>
          have hb : hereB x t = true := by unfold hereB; rw [eg, decide_eq_true c1]; rfl
          have nno : ∀ S : Store, aIsN S (.dat (ov none)) (.dat .non) = some (.dat (.bl true)) := fun _ => rfl
          rw [if_pos hb]
          unfold mBM
          dsimp! [two, pp, eg, two2, lt_nv, decide_eq_true c1, nno, fld_deeds X, ix, hd1c, hd2c, l3, ki, ap]
          exact .of (tmH ⟨_, _, _, rfl, rfl⟩)
        | some q =>
          have nns : ∀ S : Store, aIsN S (.dat (ov (some q))) (.dat .non) = some (.dat (.bl false)) := fun _ => rfl
          have ge : ∀ S : Store, aGe S (.dat (ov (some q))) (.dat (.int (t : Int))) = some (.dat (.bl (decide (t ≤ q)))) := fun _ => ge_nv
          by_cases c2 : t ≤ q
          · have hb : hereB x t = true := by unfold hereB; rw [eg, decide_eq_true c1]; exact decide_eq_true c2
            rw [if_pos hb]
            unfold mBM
            dsimp! [two, pp, eg, two2, lt_nv, decide_eq_true c1, nns, ge, decide_eq_true c2, fld_deeds X, ix, hd1c, hd2c, l3, ki, ap]
            exact .of (tmH ⟨_, _, _, rfl, rfl⟩)
          · have hb : ¬ hereB x t = true := by unfold hereB; rw [eg, decide_eq_true c1]; simpa using c2
            rw [if_neg hb, List.append_nil]
            dsimp! [two, pp, eg, two2, lt_nv, decide_eq_true c1, nns, ge, decide_eq_false c2]
            exact .of (tmH ⟨_, _, _, rfl, rfl⟩)
      · have hb : ¬ hereB x t = true := by unfold hereB; rw [decide_eq_false c1]; simp
        rw [if_neg hb, List.append_nil]
        dsimp! [two, pp, two2, lt_nv, decide_eq_false c1]
        exact .of (tmH ⟨_, _, _, rfl, rfl⟩)
    · rintro δ S ⟨x3, x4, x5, rfl, rfl⟩
      rw [enumL, List.length_map, Nat.zero_add]
      exact ⟨_, _, _, rfl, rfl⟩
  · rintro o S ⟨x3, x4, x5, rfl, rfl⟩
    dsimp! []
    exact .of ⟨_, rfl, rfl, rfl⟩
end
theorem nvs_getD {L : List Nat} {i : Nat} (h : i < L.length) (S : Store) : aIx S (.dat (.lst (L.map nv))) (.dat (nv i)) = some (.dat (nv (L.getD i 0))) := ix_l (atN (map_get (by rw [List.getD_eq_getElem?_getD, List.getElem?_eq_getElem h]; rfl)))
theorem eqnv {S : Store} {a b : Nat} : aEq S (.dat (nv a)) (.dat (nv b)) = some (.dat (.bl (decide (a = b)))) := by
  show some (D.dat (.bl (decide ((a : Int) = (b : Int))))) = _
  by_cases c : a = b
  · subst c; simp
  · rw [decide_eq_false c, decide_eq_false (by omega)]
theorem with_tie_t (g : G) {L : List Nat} {x : Sp} (h1 : x.one < L.length) (h2 : x.two < L.length) (hl : L.length ≤ 24) (S : Store) : mPure (m_with_tie g) [.dat (.lst (L.map nv)), .dat (nv x.one), .dat (nv x.two)] S = .ok (.dat (.lst ((lab1 L x).map nv))) S := by
  refine pure_dat rfl (S' := []) ?_
  unfold m_with_tie
  dsimp! []
  rw [lc_all (xs := L) (fun v => .dat (nv v)) (fun v => nv (if v = L.getD x.two 0 then L.getD x.one 0 else v)) (by rw [walk_l (l := L.map nv) (by dsimp! [] <;> rfl), List.map_map]; rfl) (by omega) fun v _ => ⟨_, rfl, rfl, by
    by_cases c : v = L.getD x.two 0
    · rw [if_pos c]
      dsimp! [nvs_getD h1, nvs_getD h2, eqnv, decide_eq_true c]
    · rw [if_neg c]
      dsimp! [nvs_getD h1, nvs_getD h2, eqnv, decide_eq_false c]⟩]
  dsimp! []
  unfold lab1
  rw [List.map_map]
  rfl
section
variable {g : G} (X : Gx g) {n : Nat} {ds : List HD} (ok : OkH n ds) (hn : n ≤ 24)
theorem foldl_take {α β : Type} (f : β → α → β) (b : β) {l : List α} {i : Nat} {x : α} (e : l[i]? = some x) : (l.take (i + 1)).foldl f b = f ((l.take i).foldl f b) x := by
  rw [takeS e, List.foldl_append]; rfl
theorem labs_take_len {xs : List Sp} {i : Nat} : ((xs.take i).foldl lab1 (List.range n)).length = n := labs_len (xs := xs.take i)
theorem pars_take_len {xs : List Sp} {i : Nat} : ((xs.take i).foldl par1 (List.range n)).length = n := pars_len (xs := xs.take i)
end
end W3
namespace W3
open PySem PySem.Spec PyProof.Rows L2 M3
theorem fourP_ix2 {S : Store} {x : Sp} : aIx S (.dat (fourP x)) (.dat (.int 2)) = some (.dat (nv x.cm)) := rfl
theorem fourP_ix3 {S : Store} {x : Sp} : aIx S (.dat (fourP x)) (.dat (.int 3)) = some (.dat (ov x.gn)) := rfl
theorem fourP_ix0 {S : Store} {x : Sp} : aIx S (.dat (fourP x)) (.dat (.int 0)) = some (.dat (nv x.one)) := rfl
theorem fourP_ix1 {S : Store} {x : Sp} : aIx S (.dat (fourP x)) (.dat (.int 1)) = some (.dat (nv x.two)) := rfl
def dSp : Sp := ⟨0, 0, 0, none⟩
theorem getD_sp {l : List Sp} {i : Nat} (h : i < l.length) : l[i]? = some (l.getD i dSp) := by
  rw [List.getD_eq_getElem?_getD, List.getElem?_eq_getElem h]; rfl
theorem enum_range {l : List Sp} {f : Sp → P} : (((numsP (l.map f).length).zip (l.map f)).map fun z => D.dat (.tup [z.1, z.2])) = (List.range l.length).map fun i => D.dat (.tup [.int ((i : Nat) : Int), f (l.getD i dSp)]) := by
  refine List.ext_getElem? fun i => ?_
  by_cases h : i < l.length
  · have hl : i < (((numsP (l.map f).length).zip (l.map f)).map fun z => D.dat (.tup [z.1, z.2])).length := by rw [enumL, List.length_map]; exact h
    obtain ⟨d, e1⟩ : ∃ d, (((numsP (l.map f).length).zip (l.map f)).map fun z => D.dat (.tup [z.1, z.2]))[i]? = some d := ⟨_, List.getElem?_eq_getElem hl⟩
    obtain ⟨p, ep, e2⟩ := enumA e1
    rw [e1, e2]
    obtain ⟨x, ex, rfl⟩ := sp_at ep
    rw [List.getElem?_map, List.getElem?_range h]
    show _ = some (D.dat (.tup [.int (i : Int), f (l.getD i dSp)]))
    rw [getD_sp h] at ex
    cases ex
    rfl
  · rw [List.getElem?_eq_none (by rw [enumL, List.length_map]; omega), List.getElem?_eq_none (by simp; omega)]
theorem fm_congr {α β : Type} {f h : α → Option β} : ∀ {l : List α}, (∀ x ∈ l, f x = h x) → l.filterMap f = l.filterMap h
  | [], _ => rfl
  | a :: l, e => by rw [List.filterMap_cons, List.filterMap_cons, e a (List.mem_cons_self ..), fm_congr fun x m => e x (List.mem_cons_of_mem _ m)]
theorem L_there_t (g : G) {l : List Sp} (hl : l.length ≤ 32) (t : Nat) (S : Store) : mPure (m_L_there g) [.dat (.lst (l.map fourP)), .dat (.int (t : Int))] S = .ok (.dat (.lst ((trN l t l.length).map fun z => nv z.1))) S := by
  refine pure_dat rfl (S' := []) ?_
  unfold m_L_there
  have lc : mLc (mEnum (mCons (mVar 0) mNil)) (gmTup 2 (gmCons (gmName 2) (gmCons (gmName 3) gmNil))) (mAndT (mTst (mOp aLt (mOp aIx (mVar 3) (mC (.int 2))) (mVar 1))) (mOrT (mTst (mOp aIsN (mOp aIx (mVar 3) (mC (.int 3))) (mC .non))) (mTst (mOp aGe (mOp aIx (mVar 3) (mC (.int 3))) (mVar 1))))) (mVar 2) [2, 3] [some (.dat (.lst (l.map fourP))), some (.dat (.int (t : Int))), none, none] [] = .ok (((trN l t l.length).map fun z => nv z.1).map .dat) [] := by
    rw [lc_map (xs := List.range l.length) (fun i => .dat (.tup [.int ((i : Nat) : Int), fourP (l.getD i dSp)])) (fun i => if hereB (l.getD i dSp) t = true then some (nv i) else none) (by
      rw [← enum_range]; rfl) (by rw [List.length_range]; omega) fun i m => ⟨_, rfl, by
      have two : ([.int (i : Int), fourP (l.getD i dSp)] : List P).length = 2 := rfl
      generalize l.getD i dSp = x at two
      by_cases c1 : x.cm < t
      · cases eg : x.gn with
        | none =>
          have hb : hereB x t = true := by unfold hereB; rw [eg, decide_eq_true c1]; rfl
          have i3 : ∀ S : Store, aIx S (.dat (fourP x)) (.dat (.int 3)) = some (.dat (ov none)) := fun S => by rw [fourP_ix3, eg]
          have nno : ∀ S : Store, aIsN S (.dat (ov none)) (.dat .non) = some (.dat (.bl true)) := fun _ => rfl
          rw [if_pos hb]
          exact ⟨by dsimp! [fourP_ix2, i3, lt_nv, decide_eq_true c1, nno], rfl⟩
        | some q =>
          have i3 : ∀ S : Store, aIx S (.dat (fourP x)) (.dat (.int 3)) = some (.dat (ov (some q))) := fun S => by rw [fourP_ix3, eg]
          have nns : ∀ S : Store, aIsN S (.dat (ov (some q))) (.dat .non) = some (.dat (.bl false)) := fun _ => rfl
          have ge : ∀ S : Store, aGe S (.dat (ov (some q))) (.dat (.int (t : Int))) = some (.dat (.bl (decide (t ≤ q)))) := fun _ => ge_nv
          by_cases c2 : t ≤ q
          · have hb : hereB x t = true := by unfold hereB; rw [eg, decide_eq_true c1]; exact decide_eq_true c2
            rw [if_pos hb]
            exact ⟨by dsimp! [fourP_ix2, i3, lt_nv, decide_eq_true c1, nns, ge, decide_eq_true c2], rfl⟩
          · have hb : ¬ hereB x t = true := by unfold hereB; rw [eg, decide_eq_true c1]; simpa using c2
            rw [if_neg hb]
            show mAndT _ _ _ _ = _
            dsimp! [fourP_ix2, i3, lt_nv, decide_eq_true c1, nns, ge, decide_eq_false c2]
      · have hb : ¬ hereB x t = true := by unfold hereB; rw [decide_eq_false c1]; simp
        rw [if_neg hb]
        show mAndT _ _ _ _ = _
        dsimp! [fourP_ix2, lt_nv, decide_eq_false c1]⟩]
    congr 2
    unfold trN
    rw [List.map_filterMap]
    refine fm_congr fun i m => ?_
    have hi := List.mem_range.mp m
    rw [getD_sp hi]
    simp only
    by_cases c : hereB (l.getD i dSp) t = true
    · rw [if_pos c, if_pos c]; rfl
    · rw [if_neg c, if_neg c]; rfl
  dsimp! [lc]
theorem in_two {S : Store} {v a b : Nat} : aIn S (.dat (nv v)) (.dat (.tup [nv a, nv b])) = some (.dat (.bl (decide (v = a ∨ v = b)))) := by
  have e : ∀ i j : Nat, decide ((i : Int) = (j : Int)) = decide (j = i) := fun i j => by
    by_cases c : j = i
    · subst c; simp
    · rw [decide_eq_false c, decide_eq_false (by omega)]
  show some (D.dat (.bl (decide ((a : Int) = (v : Int)) || (decide ((b : Int) = (v : Int)) || false)))) = _
  rw [e, e, Bool.or_false]
  by_cases c1 : v = a <;> by_cases c2 : v = b <;> simp [c1, c2]
theorem min_nv {S : Store} {a b : Nat} : aMin S [.dat (nv a), .dat (nv b)] = some (.dat (nv (min a b))) := by
  show some (D.dat (.int (if (b : Int) < (a : Int) then (b : Int) else (a : Int)))) = some (D.dat (.int ((min a b : Nat) : Int)))
  by_cases c : b < a
  · rw [if_pos (by omega), Nat.min_eq_right (by omega)]
  · rw [if_neg (by omega), Nat.min_eq_left (by omega)]
theorem L_parts_t (g : G) {n : Nat} {xs : List Sp} (hx : ∀ x ∈ xs, x.one < n ∧ x.two < n) (hn : n ≤ 24) (S : Store) : mPure (m_L_parts_by g) [.dat (.int (n : Int)), .dat (.lst (xs.map fourP))] S = .ok (.dat (.lst ((pars n xs).map nv))) S := by
  suffices z : ∃ d S', m_L_parts_by g [.dat (.int (n : Int)), .dat (.lst (xs.map fourP))] [] = .ok d S' ∧ d = .dat (.lst ((pars n xs).map nv)) from let ⟨d, S', e, z⟩ := z; pure_dat rfl (z ▸ e)
  have rg : -100000 ≤ (n : Int) ∧ (n : Int) ≤ 100000 := by omega
  have r0 : datAll (rngD 0 n) = some ((List.range n).map nv) := by
    rw [rngD0]
    have : ∀ l : List Nat, datAll (l.map fun k => D.dat (nv k)) = some (l.map nv) := fun l => by
      induction l with
      | nil => rfl
      | cons a l ih => rw [List.map_cons]; unfold datAll; rw [ih]; rfl
    exact this _
  have l2 : (2 : Nat) ≤ 100000 := by decide
  unfold m_L_parts_by mListRg1
  rw [mBody_fin]
  refine fin_ends ?_
  dsimp! [if_pos rg, Int.toNat_natCast, r0]
  rw [for_items (walk_l (l := xs.map fourP) (by dsimp! [] <;> rfl))]
  refine then_ends (Q1 := fun o S => ∃ x3 x4 x5 x6, o = .nx [some (.dat (.int (n : Int))), some (.dat (.lst (xs.map fourP))), some (.dat (.lst ((pars n xs).map nv))), x3, x4, x5, x6]) ?_ ?_
  · refine forL_ends (fun i δ S => ∃ x3 x4 x5, δ = [some (.dat (.int (n : Int))), some (.dat (.lst (xs.map fourP))), some (.dat (.lst (((xs.take i).foldl par1 (List.range n)).map nv))), x3, x4, x5, none]) (i := 0) ⟨_, _, _, rfl⟩ ?_ ?_
    · rintro i d δ S ed ⟨x3, x4, x5, rfl⟩
      rw [Nat.zero_add]
      rw [List.getElem?_map] at ed
      cases ep : (xs.map fourP)[i]? with
      | none => rw [ep] at ed; cases ed
      | some p =>
        rw [ep] at ed
        cases ed
        obtain ⟨x, e, rfl⟩ := sp_at ep
        obtain ⟨h1, h2⟩ := hx x (List.mem_of_getElem? e)
        have fe := foldl_take par1 (List.range n) e
        have ll : ((xs.take i).foldl par1 (List.range n)).length = n := pars_take_len
        rw [fe]
        generalize (xs.take i).foldl par1 (List.range n) = L at ll ⊢
        have two : ([nv (L.getD x.one 0), nv (L.getD x.two 0)] : List P).length = 2 := rfl
        have lc : ∀ S : Store, mLc (mWalk (mVar 2)) (gmName 6) mYes (mIf (mTst (mOp aIn (mVar 6) (mTup (mCons (mVar 4) (mCons (mVar 5) mNil))))) (mCall aMin (mCons (mVar 4) (mCons (mVar 5) mNil))) (mVar 6)) [6] [some (.dat (.int (n : Int))), some (.dat (.lst (xs.map fourP))), some (.dat (.lst (L.map nv))), some (.dat (fourP x)), some (.dat (nv (L.getD x.one 0))), some (.dat (nv (L.getD x.two 0))), none] S = .ok (((par1 L x).map nv).map .dat) S := fun S => by
          rw [lc_all (xs := L) (fun v => .dat (nv v)) (fun v => nv (if v = L.getD x.one 0 ∨ v = L.getD x.two 0 then min (L.getD x.one 0) (L.getD x.two 0) else v)) (by rw [walk_l (l := L.map nv) (by dsimp! [] <;> rfl), List.map_map]; rfl) (by omega) fun v _ => ⟨_, rfl, rfl, by
            by_cases c : v = L.getD x.one 0 ∨ v = L.getD x.two 0
            · rw [if_pos c]
              dsimp! [l2, in_two, decide_eq_true c, min_nv]
            · rw [if_neg c]
              dsimp! [l2, in_two, decide_eq_false c]⟩]
          unfold par1
          rw [List.map_map (f := fun v => if v = L.getD x.one 0 ∨ v = L.getD x.two 0 then min (L.getD x.one 0) (L.getD x.two 0) else v)]
          rfl
        dsimp! [fourP_ix0, fourP_ix1, nvs_getD (L := L) (i := x.one) (by omega), nvs_getD (L := L) (i := x.two) (by omega), l2, two, lc]
        exact .of (tmH ⟨_, _, _, rfl⟩)
    · rintro δ S ⟨x3, x4, x5, rfl⟩
      refine ⟨x3, x4, x5, none, ?_⟩
      rw [List.length_map, List.length_map, Nat.zero_add, List.take_length]
      rfl
  · rintro o S ⟨x3, x4, x5, x6, rfl⟩
    dsimp! []
    exact .of ⟨_, rfl, rfl⟩
end W3
namespace W3
open PySem PySem.Spec PyProof.Rows L2 M3
/-! ### the order of those that stay longer: by program and law one list -/
abbrev TZ := Nat × Sp
theorem gn_go (ds : List HD) : ∀ (k : Nat) (x : Sp) (q : Nat), (spans ds)[k]? = some x → x.gn = some q → ds[q]? = some (HD.go k) := by
  refine snoc_ind (P := fun ds => ∀ (k : Nat) (x : Sp) (q : Nat), (spans ds)[k]? = some x → x.gn = some q → ds[q]? = some (HD.go k)) ?_ ?_ ds
  · intro k x q e; cases e
  · intro l d ih k x q e eq
    have keep : (spans l)[k]? = some x → (l ++ [d])[q]? = some (.go k) := fun h => by
      have := ih k x q h eq
      rw [List.getElem?_append_left (List.getElem?_eq_some_iff.mp this).1]
      exact this
    rw [spans_snoc] at e
    cases d with
    | come a b =>
      have e : (spans l ++ [⟨a, b, l.length, none⟩])[k]? = some x := e
      by_cases h : k < (spans l).length
      · rw [List.getElem?_append_left h] at e
        exact keep e
      · rw [List.getElem?_append_right (by omega)] at e
        have h1 := (List.getElem?_eq_some_iff.mp e).1
        have h0 : k - (spans l).length = 0 := by simpa using h1
        rw [h0] at e
        cases e
        cases eq
    | go j =>
      have e : (match (spans l)[j]? with | some x => (spans l).set j { x with gn := some l.length } | none => spans l)[k]? = some x := e
      cases ey : (spans l)[j]? with
      | none => rw [ey] at e; exact keep e
      | some y =>
        rw [ey] at e
        have e : ((spans l).set j { y with gn := some l.length })[k]? = some x := e
        by_cases h : j = k
        · subst h
          rw [List.getElem?_set_self (List.getElem?_eq_some_iff.mp ey).1] at e
          cases e
          cases eq
          simp
        · rw [List.getElem?_set_ne h] at e
          exact keep e
    | ask a b => exact keep e
theorem trN_inc {l : List Sp} {t i : Nat} : (trN l t i).Pairwise fun z w => z.1 < w.1 := by
  unfold trN
  refine List.Pairwise.filterMap _ ?_ List.pairwise_lt_range
  intro a a' h b hb b' hb'
  have f : ∀ (j : Nat) (c : TZ), (match l[j]? with
      | some x => if hereB x t = true then some (j, x) else none
      | none => none) = some c → c.1 = j := fun j c e => by
    cases q : l[j]? with
    | none => rw [q] at e; cases e
    | some x =>
      rw [q] at e
      by_cases c1 : hereB x t = true
      · simp only [c1, if_true] at e; cases e; rfl
      · simp only [c1, if_false] at e; cases e
  rw [f a b hb, f a' b' hb']
  exact h
/-- what is known of the ties there -/
structure TOk (ds : List HD) (T : List TZ) : Prop where
  inc : T.Pairwise fun z w => z.1 < w.1
  at_ : ∀ z ∈ T, (spans ds)[z.1]? = some z.2
theorem tok_tr {ds : List HD} {t i : Nat} : TOk ds (trN (spans ds) t i) := ⟨trN_inc, fun z m => (trN_mem m).2⟩
def gk (z : TZ) : Nat := z.2.gn.getD 0
def keyD (z w : TZ) : Bool := decide (gk w ≤ gk z)
def nevT (T : List TZ) : List TZ := T.filter fun z => decide (z.2.gn = none)
def goT (T : List TZ) : List TZ := T.filter fun z => !decide (z.2.gn = none)
def desT (T : List TZ) : List TZ := (goT T).mergeSort keyD
def ordT (T : List TZ) : List TZ := nevT T ++ desT T
theorem mem_nev {T : List TZ} {z : TZ} : z ∈ nevT T ↔ z ∈ T ∧ z.2.gn = none := by unfold nevT; rw [List.mem_filter, decide_eq_true_iff]
theorem mem_go {T : List TZ} {z : TZ} : z ∈ goT T ↔ z ∈ T ∧ ∃ q, z.2.gn = some q := by
  unfold goT
  rw [List.mem_filter]
  cases z.2.gn with
  | none => simp
  | some q => simp
theorem mem_des {T : List TZ} {z : TZ} : z ∈ desT T ↔ z ∈ goT T := List.mem_mergeSort
theorem nev_go (T : List TZ) : (nevT T ++ goT T).Perm T := by
  unfold nevT goT
  exact List.filter_append_perm (fun z : TZ => decide (z.2.gn = none)) T
theorem ord_perm (T : List TZ) : (ordT T).Perm T := ((List.Perm.append_left _ (List.mergeSort_perm ..)).trans (nev_go T))
section
variable {ds : List HD} {T : List TZ} (K : TOk ds T)
include K
theorem tz_inj {z w : TZ} (hz : z ∈ T) (hw : w ∈ T) (e : z.1 = w.1) : z = w := by
  have a := K.at_ z hz
  have b := K.at_ w hw
  rw [e, b] at a
  injection a with a
  exact Prod.ext e a.symm
theorem gn_inj {z w : TZ} (hz : z ∈ T) (hw : w ∈ T) {q : Nat} (e1 : z.2.gn = some q) (e2 : w.2.gn = some q) : z = w := by
  have a := gn_go ds _ _ _ (K.at_ z hz) e1
  have b := gn_go ds _ _ _ (K.at_ w hw) e2
  rw [a] at b
  injection b with b
  injection b with b
  exact tz_inj K hz hw b
theorem gn_lt {z : TZ} (hz : z ∈ T) {q : Nat} (e : z.2.gn = some q) : q < ds.length := (List.getElem?_eq_some_iff.mp (gn_go ds _ _ _ (K.at_ z hz) e)).1
theorem go_inj {z w : TZ} (hz : z ∈ goT T) (hw : w ∈ goT T) (e : gk z = gk w) : z = w := by
  obtain ⟨mz, q, eq⟩ := mem_go.mp hz
  obtain ⟨mw, p, ep⟩ := mem_go.mp hw
  unfold gk at e
  rw [eq, ep] at e
  have e : q = p := e
  subst e
  exact gn_inj K mz mw eq ep
theorem go_nd : ((goT T).map gk).Nodup := by
  unfold List.Nodup
  rw [List.pairwise_map]
  have inc : (goT T).Pairwise fun z w => z.1 < w.1 := K.inc.filter _
  refine List.Pairwise.imp_of_mem ?_ inc
  intro a b ma mb h e
  have := go_inj K ma mb e
  subst this
  omega
theorem des_nd : ((desT T).map gk).Nodup := ((List.mergeSort_perm (goT T) keyD).map gk).nodup_iff.mpr (go_nd K)
omit K in
theorem des_sorted : (desT T).Pairwise fun z w => gk w ≤ gk z := by
  have := List.pairwise_mergeSort (le := keyD) (fun a b c h1 h2 => by
    unfold keyD at *
    rw [decide_eq_true_iff] at *
    omega) (fun a b => by
    unfold keyD
    rw [Bool.or_eq_true, decide_eq_true_iff, decide_eq_true_iff]
    omega) (goT T)
  exact this.imp fun h => of_decide_eq_true h
theorem des_strict : (desT T).Pairwise fun z w => gk w < gk z := by
  have h1 := des_sorted (T := T)
  have h2 := des_nd K
  unfold List.Nodup at h2
  rw [List.pairwise_map] at h2
  exact (h1.and h2).imp fun ⟨a, b⟩ => by omega
end
/-! ### the program's sort -/
def goerP (z : TZ) : P := .tup [ov z.2.gn, triP z]
theorem alike_tri (z w : TZ) : PySem.W.alike (toPy (triP z)) (toPy (triP w)) = true := by
  unfold triP nv
  simp only [toPy, toPys, PySem.W.alike, PySem.W.alikeAll, Bool.and_self]
theorem lt_goer {z w : TZ} {p q : Nat} (ez : z.2.gn = some p) (ew : w.2.gn = some q) (h : p = q → z = w) : PySem.W.dataLt (toPy (goerP z)) (toPy (goerP w)) = decide (p < q) := by
  unfold goerP
  rw [ez, ew]
  show PySem.W.dataLt (.tuple [.int p, toPy (triP z)]) (.tuple [.int q, toPy (triP w)]) = _
  rw [PySem.W.dataLt_pair (by rfl) (alike_tri z w)]
  have e1 : PyData.eqv (.int (p : Int)) (.int (q : Int)) = decide (p = q) := by
    show ((p : Int) == (q : Int)) = _
    by_cases c : p = q
    · subst c; simp
    · rw [decide_eq_false c]; simp; omega
  rw [e1]
  by_cases c : p = q
  · have := h c
    subst this
    subst c
    rw [decide_eq_true (rfl : p = p), if_pos rfl]
    have : PyData.eqv (toPy (triP z)) (toPy (triP z)) = true := by
      unfold triP nv
      simp only [toPy, toPys, PyData.eqv, PyData.eqvAll, beq_self_eq_true, Bool.and_self]
    rw [this, if_pos rfl]
    simp
  · rw [decide_eq_false c, if_neg (by simp), PySem.W.dataLt_int]
    by_cases l : p < q
    · rw [decide_eq_true l, decide_eq_true (by omega)]
    · rw [decide_eq_false l, decide_eq_false (by omega)]
theorem sort_goers {ds : List HD} {T : List TZ} (K : TOk ds T) : sortP true ((goT T).map goerP) = (desT T).map goerP := by
  unfold sortP desT
  rw [← List.map_mergeSort (r := keyD)]
  intro z mz w mw
  obtain ⟨tz, p, ep⟩ := mem_go.mp mz
  obtain ⟨tw, q, eq⟩ := mem_go.mp mw
  show keyD z w = !PySem.W.dataLt (toPy (goerP z)) (toPy (goerP w))
  rw [lt_goer ep eq fun e => gn_inj K tz tw ep (by rw [eq, e])]
  unfold keyD gk
  rw [ep, eq]
  show decide (q ≤ p) = !decide (p < q)
  by_cases c : q ≤ p
  · rw [decide_eq_true c, decide_eq_false (by omega)]; rfl
  · rw [decide_eq_false c, decide_eq_true (by omega)]; rfl
theorem okSort_goers {T : List TZ} : okSort ((goT T).map goerP) = true := by
  unfold okSort
  have form : ∀ p ∈ (goT T).map goerP, ∃ (z : TZ) (q : Nat), p = .tup [nv q, triP z] := fun p hp => by
    obtain ⟨z, mz, rfl⟩ := List.mem_map.mp hp
    obtain ⟨tz, q, eq⟩ := mem_go.mp mz
    exact ⟨z, q, by unfold goerP; rw [eq]; rfl⟩
  have h1 : ∀ l : List P, (∀ p ∈ l, ∃ (z : TZ) (q : Nat), p = .tup [nv q, triP z]) → okDs 60 l = true := fun l => by
    induction l with
    | nil => intro _; rfl
    | cons p l ih =>
      intro h
      obtain ⟨z, q, e⟩ := h p (by simp)
      rw [okDs, ih fun y m => h y (List.mem_cons_of_mem _ m), e]
      rfl
  rw [h1 _ form, Bool.true_and, Bool.and_eq_true, Bool.or_eq_true]
  refine ⟨?_, .inl ?_⟩
  · rw [List.all_eq_true]
    intro p hp
    rw [List.all_eq_true]
    intro q hq
    obtain ⟨z, i, rfl⟩ := form p hp
    obtain ⟨w, j, rfl⟩ := form q hq
    show (true && (PySem.W.alike (toPy (triP z)) (toPy (triP w)) && true)) = true
    rw [alike_tri]; rfl
  · rw [List.all_eq_true]
    intro p hp
    obtain ⟨z, i, rfl⟩ := form p hp
    rfl
/-! ### the law's sorts -/
def rkZ (z : TZ) : Int := match z.2.gn with
  | none => 0
  | some q => 100 - q
def lawP (z : TZ) : P := .tup [.int (rkZ z), nv z.1]
def leL (z w : TZ) : Bool := decide (rkZ z < rkZ w ∨ (rkZ z = rkZ w ∧ (z.1 : Int) ≤ (w.1 : Int)))
theorem leL_sorted (T : List TZ) : (T.mergeSort leL).Pairwise fun z w => leL z w = true := by
  exact List.pairwise_mergeSort (le := leL) (fun a b c h1 h2 => by
    unfold leL at *
    rw [decide_eq_true_iff] at *
    omega) (fun a b => by
    unfold leL
    rw [Bool.or_eq_true, decide_eq_true_iff, decide_eq_true_iff]
    omega) T
theorem ord_law {ds : List HD} {T : List TZ} (K : TOk ds T) (l60 : ds.length ≤ 60) : T.mergeSort leL = ordT T := by
  refine List.Perm.eq_of_pairwise (le := fun z w => leL z w = true) ?_ (leL_sorted T) ?_ ((List.mergeSort_perm ..).trans (ord_perm T).symm)
  · intro a b ma mb h1 h2
    unfold leL at h1 h2
    rw [decide_eq_true_iff] at h1 h2
    exact tz_inj K (List.mem_mergeSort.mp ma) ((ord_perm T).mem_iff.mp mb) (by omega)
  · unfold ordT
    rw [List.pairwise_append]
    refine ⟨?_, ?_, ?_⟩
    · have : (nevT T).Pairwise fun z w => z.1 < w.1 := K.inc.filter _
      refine this.imp_of_mem fun {a b} ma mb h => ?_
      have e1 := (mem_nev.mp ma).2
      have e2 := (mem_nev.mp mb).2
      unfold leL rkZ
      rw [e1, e2, decide_eq_true_iff]
      exact .inr ⟨rfl, by omega⟩
    · refine (des_strict K).imp_of_mem fun {a b} ma mb h => ?_
      obtain ⟨ta, p, ep⟩ := mem_go.mp (mem_des.mp ma)
      obtain ⟨tb, q, eq⟩ := mem_go.mp (mem_des.mp mb)
      unfold leL rkZ
      unfold gk at h
      rw [ep, eq] at h ⊢
      have h : q < p := h
      rw [decide_eq_true_iff]
      exact .inl (by show (100 : Int) - p < 100 - q; omega)
    · intro a ma b mb
      have e1 := (mem_nev.mp ma).2
      obtain ⟨tb, q, eq⟩ := mem_go.mp (mem_des.mp mb)
      have := gn_lt K tb eq
      unfold leL rkZ
      rw [e1, eq, decide_eq_true_iff]
      exact .inl (by show (0 : Int) < 100 - q; omega)
theorem sort_law {ds : List HD} {T : List TZ} (K : TOk ds T) (l60 : ds.length ≤ 60) : sortP false (T.map lawP) = (ordT T).map lawP := by
  rw [← ord_law K l60]
  unfold sortP
  rw [← List.map_mergeSort (r := leL)]
  intro z mz w mw
  show leL z w = !PySem.W.dataLt (.tuple [.int (rkZ w), .int (w.1 : Int)]) (.tuple [.int (rkZ z), .int (z.1 : Int)])
  rw [PySem.W.dataLt_ii]
  unfold leL
  by_cases c : rkZ z < rkZ w ∨ (rkZ z = rkZ w ∧ (z.1 : Int) ≤ (w.1 : Int))
  · rw [decide_eq_true c, decide_eq_false (by omega)]; rfl
  · rw [decide_eq_false c, decide_eq_true (by omega)]; rfl
theorem okSort_law {T : List TZ} : okSort (T.map lawP) = true := by
  unfold okSort
  have h1 : okDs 60 (T.map lawP) = true := by
    induction T with
    | nil => rfl
    | cons p l ih => rw [List.map_cons, okDs, ih]; rfl
  rw [h1, Bool.true_and, Bool.and_eq_true, Bool.or_eq_true]
  refine ⟨?_, .inl ?_⟩
  · rw [List.all_eq_true]
    intro p hp
    rw [List.all_eq_true]
    intro q hq
    obtain ⟨z, _, rfl⟩ := List.mem_map.mp hp
    obtain ⟨w, _, rfl⟩ := List.mem_map.mp hq
    rfl
  · rw [List.all_eq_true]
    intro p hp
    obtain ⟨z, _, rfl⟩ := List.mem_map.mp hp
    rfl
/-- ints, sorted -/
theorem sort_nvs (l : List Nat) : sortP false (l.map nv) = (l.mergeSort fun a b => decide (a ≤ b)).map nv := by
  unfold sortP
  rw [← List.map_mergeSort (r := fun a b : Nat => decide (a ≤ b))]
  intro a _ b _
  show decide (a ≤ b) = !PySem.W.dataLt (.int (b : Int)) (.int (a : Int))
  rw [PySem.W.dataLt_int]
  by_cases c : a ≤ b
  · rw [decide_eq_true c, decide_eq_false (by omega)]; rfl
  · rw [decide_eq_false c, decide_eq_true (by omega)]; rfl
theorem sort_goes {ds : List HD} {T : List TZ} (K : TOk ds T) : ((goT T).map gk).mergeSort (fun a b => decide (a ≤ b)) = (desT T).reverse.map gk := by
  refine List.Perm.eq_of_pairwise (le := fun a b => a ≤ b) (fun a b _ _ h1 h2 => by omega) ?_ ?_ ?_
  · exact (List.pairwise_mergeSort (le := fun a b : Nat => decide (a ≤ b)) (fun a b c h1 h2 => by
      rw [decide_eq_true_iff] at *
      omega) (fun a b => by
      rw [Bool.or_eq_true, decide_eq_true_iff, decide_eq_true_iff]
      omega) _).imp fun h => of_decide_eq_true h
  · rw [List.pairwise_map, List.pairwise_reverse]
    exact des_sorted
  · refine (List.mergeSort_perm ..).trans ?_
    rw [List.map_reverse]
    exact ((List.mergeSort_perm (goT T) keyD).map gk).symm.trans (List.reverse_perm _).symm
end W3
namespace W3
open PySem PySem.Spec PyProof.Rows L2 M3
/-! ### a right history is made -/
theorem isint_h (g : G) {i : Int} (S : Store) : mPure (m_is_integer g) [.dat (.int i)] S = .ok (.dat (.bl true)) S := pure_dat rfl (S' := []) (by
  unfold m_is_integer
  dsimp! [])
theorem between_h (g : G) {lo hi i : Int} (h : lo ≤ i ∧ i ≤ hi) (S : Store) : mPure (m_is_between g) [.dat (.int lo), .dat (.int hi), .dat (.int i)] S = .ok (.dat (.bl true)) S := pure_dat rfl (S' := []) (by
  unfold m_is_between
  dsimp! [isint_h g, decide_eq_true h.1, decide_eq_true h.2])
theorem house_h (g : G) {n a : Nat} (h : a < n) (S : Store) : mPure (m_is_house g) [.dat (.int (n : Int)), .dat (nv a)] S = .ok (.dat (.bl true)) S := pure_dat rfl (S' := []) (by
  have b := fun S => between_h g (lo := 0) (hi := (n : Int) - 1) (i := (a : Int)) (by omega) S
  unfold m_is_house nv
  dsimp! [b])
theorem number_h (g : G) {k : Nat} (S : Store) : mPure (m_is_number g) [.dat (nv k)] S = .ok (.dat (.bl true)) S := pure_dat rfl (S' := []) (by
  have e : decide ((k : Int) ≥ 0) = true := decide_eq_true (by omega)
  unfold m_is_number nv
  dsimp! [isint_h g, e])
theorem isof_hh (g : G) {n a : Nat} (h : a < n) (S : Store) : mPure (m_is_of g) [.dat (.int (n : Int)), .dat (nv a), .dat (.str "house")] S = .ok (.dat (.bl true)) S := pure_dat rfl (S' := []) (by
  have e : decide (("house" : Str) = "house") = true := decide_eq_true rfl
  unfold m_is_of
  dsimp! [e, house_h g h])
theorem isof_n (g : G) {n k : Nat} (S : Store) : mPure (m_is_of g) [.dat (.int (n : Int)), .dat (nv k), .dat (.str "number")] S = .ok (.dat (.bl true)) S := pure_dat rfl (S' := []) (by
  have e : decide (("number" : Str) = "house") = false := by decide +kernel
  have e2 : decide (("number" : Str) = "number") = true := decide_eq_true rfl
  unfold m_is_of
  dsimp! [e, e2, number_h g])
theorem fit_hh (g : G) {n a b : Nat} (ha : a < n) (hb : b < n) (S : Store) : mPure (m_fit g) [.dat (.int (n : Int)), .dat (.tup [nv a, nv b]), .dat (.tup [.str "house", .str "house"])] S = .ok (.dat (.bl true)) S := by
  refine pure_dat rfl (S' := []) ?_
  unfold m_fit
  have lc : mLc (mZip (mCons (mVar 1) (mCons (mVar 2) mNil))) (gmTup 2 (gmCons (gmName 3) (gmCons (gmName 4) gmNil))) mYes (mDef 3 (mPure (m_is_of g)) (mCons (mVar 0) (mCons (mVar 3) (mCons (mVar 4) mNil)))) [3, 4] [some (.dat (.int (n : Int))), some (.dat (.tup [nv a, nv b])), some (.dat (.tup [.str "house", .str "house"])), none, none] [] = .ok (([a, b].map fun _ => P.bl true).map .dat) [] :=
    lc_all (xs := [a, b]) (fun v => .dat (.tup [nv v, .str "house"])) (fun _ => .bl true) (by unfold mZip; dsimp! []; rfl) (by simp) fun v m => ⟨_, rfl, rfl, by
      have hv : v < n := by
        rcases List.mem_cons.mp m with rfl | m
        · exact ha
        · rw [List.mem_singleton.mp m]; exact hb
      dsimp! [isof_hh g hv]⟩
  have al : aAll ([] : Store) [.dat (.lst [P.bl true, P.bl true])] = some (.dat (.bl true)) := all_lst (bs := [true, true])
  have lc' : mLc (mZip (mCons (mVar 1) (mCons (mVar 2) mNil))) (gmTup 2 (gmCons (gmName 3) (gmCons (gmName 4) gmNil))) mYes (mDef 3 (mPure (m_is_of g)) (mCons (mVar 0) (mCons (mVar 3) (mCons (mVar 4) mNil)))) [3, 4] [some (.dat (.int (n : Int))), some (.dat (.tup [nv a, nv b])), some (.dat (.tup [.str "house", .str "house"])), none, none] [] = .ok (([P.bl true, P.bl true] : List P).map .dat) [] := lc
  dsimp! [lc', al]
theorem fit_n (g : G) {n k : Nat} (S : Store) : mPure (m_fit g) [.dat (.int (n : Int)), .dat (.tup [nv k]), .dat (.tup [.str "number"])] S = .ok (.dat (.bl true)) S := by
  refine pure_dat rfl (S' := []) ?_
  unfold m_fit
  have lc : mLc (mZip (mCons (mVar 1) (mCons (mVar 2) mNil))) (gmTup 2 (gmCons (gmName 3) (gmCons (gmName 4) gmNil))) mYes (mDef 3 (mPure (m_is_of g)) (mCons (mVar 0) (mCons (mVar 3) (mCons (mVar 4) mNil)))) [3, 4] [some (.dat (.int (n : Int))), some (.dat (.tup [nv k])), some (.dat (.tup [.str "number"])), none, none] [] = .ok (([k].map fun _ => P.bl true).map .dat) [] :=
    lc_all (xs := [k]) (fun v => .dat (.tup [nv v, .str "number"])) (fun _ => .bl true) (by unfold mZip; dsimp! []; rfl) (by simp) fun v m => ⟨_, rfl, rfl, by dsimp! [isof_n g]⟩
  have al : aAll ([] : Store) [.dat (.lst [P.bl true])] = some (.dat (.bl true)) := all_lst (bs := [true])
  have lc' : mLc (mZip (mCons (mVar 1) (mCons (mVar 2) mNil))) (gmTup 2 (gmCons (gmName 3) (gmCons (gmName 4) gmNil))) mYes (mDef 3 (mPure (m_is_of g)) (mCons (mVar 0) (mCons (mVar 3) (mCons (mVar 4) mNil)))) [3, 4] [some (.dat (.int (n : Int))), some (.dat (.tup [nv k])), some (.dat (.tup [.str "number"])), none, none] [] = .ok (([P.bl true] : List P).map .dat) [] := lc
  dsimp! [lc', al]
theorem word_h (g : G) {z : Str} {r : List P} (S : Store) : mPure (m_word_of g) [.dat (.tup (.str z :: r))] S = .ok (.dat (.str z)) S := pure_dat rfl (S' := []) (by
  have i0 : ∀ S : Store, aIx S (.dat (.tup (.str z :: r))) (.dat (.int 0)) = some (.dat (.str z)) := fun S => ix_t (atN (k := 0) rfl)
  have c1 : decide ((((r.length + 1 : Nat)) : Int) = 0) = false := decide_eq_false (by omega)
  unfold m_word_of
  dsimp! [i0, c1])
theorem lk_c : lookPf "come" tab_FORMS = some (.tup [.str "house", .str "house"]) := if_pos rfl
theorem lk_g : lookPf "go" tab_FORMS = some (.tup [.str "number"]) := (if_neg (by decide +kernel)).trans (if_pos rfl)
theorem lk_a : lookPf "ask" tab_FORMS = some (.tup [.str "house", .str "house"]) := (if_neg (by decide +kernel)).trans ((if_neg (by decide +kernel)).trans (if_pos rfl))
theorem nit {g : G} {S : Store} {z : Str} {p : P} (e : lookPf z tab_FORMS = some p) : aNotInTab g.FORMS tab_FORMS S (.dat (.str z)) (.dat (.con (.ref g.FORMS))) = some (.dat (.bl false)) := by
  show (if g.FORMS = g.FORMS then some (dBl (!(lookPf z tab_FORMS).isSome)) else none) = _
  rw [if_pos rfl, e]; rfl
theorem ixt {g : G} {S : Store} {z : Str} {p : P} (e : lookPf z tab_FORMS = some p) : aIxTab g.FORMS tab_FORMS S (.dat (.con (.ref g.FORMS))) (.dat (.str z)) = some (.dat p) := by
  show (if g.FORMS = g.FORMS then (lookPf z tab_FORMS).map D.dat else none) = _
  rw [if_pos rfl, e]; rfl
theorem slh {S : Store} {q : P} {r : List P} (hl : r.length ≤ 5) : aSl S (.dat (.tup (q :: r))) (some 1) none = some (.dat (.tup r)) := by
  show some (D.dat (.tup (cutL (q :: r) (some 1) none))) = _
  unfold cutL
  rw [HT.sIx_none, show (some (1 : Int)) = some ((1 : Nat) : Int) from rfl, HT.sIx_nat]
  simp
def TH (C : Addr) (th : List Nat) : Store := [.ins C [], .lst ((th.map nv).map .dat)]
theorem th_cl {C : Addr} {th : List Nat} : (TH C th).all (O.lt (TH C th).length) = true := by
  show ([O.ins C [], O.lst ((th.map nv).map .dat)].all (O.lt 2)) = true
  rw [List.all_cons, List.all_cons, List.all_nil, Bool.and_true]
  have e : O.lt 2 (O.lst ((th.map nv).map .dat)) = true := by
    show List.all _ _ = true
    rw [List.all_map]
    exact List.all_eq_true.mpr fun _ _ => rfl
  rw [e]; rfl
theorem scope_h {f : List D → Store → R D} {ds : List D} {S : Store} {p : P} (e : f ds S = .ok (.dat p) S) (hc : S.all (O.lt S.length) = true) : mScope f ds S = .ok (.dat p) S := by
  unfold mScope
  rw [e]
  simp only []
  rw [List.take_length, if_pos hc]
theorem in_th {C : Addr} {th : List Nat} {k : Nat} (h : k ∈ th) : aIn (TH C th) (.dat (nv k)) (.obj 1) = some (.dat (.bl true)) := by
  have sq : seqP (TH C th) (.obj 1) = some (th.map nv) := by
    show (listD (TH C th) (.obj 1)).bind datAll = _
    show datAll ((th.map nv).map .dat) = _
    have : ∀ l : List P, datAll (l.map .dat) = some l := fun l => by
      induction l with
      | nil => rfl
      | cons a l ih => rw [List.map_cons]; unfold datAll; rw [ih]; rfl
    exact this _
  have fl : (th.map nv).all flatP = true := by
    rw [List.all_map]; exact List.all_eq_true.mpr fun _ _ => rfl
  show (match seqP (TH C th) (.obj 1) with | some l => if flatP (nv k) = true ∧ l.all flatP = true then some (inP (nv k) l) else none | none => none : Option Bool).map dBl = _
  rw [sq]
  simp only
  rw [if_pos ⟨rfl, fl⟩]
  have : inP (nv k) (th.map nv) = true := by
    unfold inP
    rw [List.any_map]
    refine List.any_eq_true.mpr ⟨k, h, ?_⟩
    show decide ((k : Int) = (k : Int)) = true
    exact decide_eq_true rfl
  rw [this]; rfl
theorem next_t (g : G) {C : Addr} {n : Nat} {s : Ts} {d : HD} (o : okH n s d) : mScope (m_can_be_next g) [.dat (.int (n : Int)), .dat (.int (s.c : Int)), .obj 1, .dat d.p] (TH C s.th) = .ok (.dat (.bl true)) (TH C s.th) := by
  refine scope_h ?_ th_cl
  unfold m_can_be_next mSl moS moN
  cases d with
  | come a b =>
    have w := fun S => word_h g (z := "come") (r := [nv a, nv b]) S
    have w : ∀ S, mPure (m_word_of g) [.dat (HD.come a b).p] S = .ok (.dat (.str "come")) S := w
    have sl : ∀ S : Store, aSl S (.dat (HD.come a b).p) (some 1) none = some (.dat (.tup [nv a, nv b])) := fun S => slh (by simp)
    have ne : ∀ S : Store, aNe S (.dat (nv a)) (.dat (nv b)) = some (.dat (.bl true)) := fun S => by
      show some (D.dat (.bl (!decide ((a : Int) = (b : Int))))) = _
      have := o.2.2.1
      rw [decide_eq_false (by omega)]; rfl
    have lt : decide ((s.c : Int) < 32) = true := decide_eq_true (by have := o.2.2.2; omega)
    dsimp! [w, nit lk_c, sl, ixt lk_c, fit_hh g o.1 o.2.1, w_cc, hd1c, hd2c, ne, lt]
  | go k =>
    have w : ∀ S, mPure (m_word_of g) [.dat (HD.go k).p] S = .ok (.dat (.str "go")) S := fun S => word_h g (z := "go") (r := [nv k]) S
    have sl : ∀ S : Store, aSl S (.dat (HD.go k).p) (some 1) none = some (.dat (.tup [nv k])) := fun S => slh (by simp)
    dsimp! [w, nit lk_g, sl, ixt lk_g, fit_n g, w_cg, w_ag, hd1g, in_th (show k ∈ s.th from o)]
  | ask a b =>
    have w : ∀ S, mPure (m_word_of g) [.dat (HD.ask a b).p] S = .ok (.dat (.str "ask")) S := fun S => word_h g (z := "ask") (r := [nv a, nv b]) S
    have sl : ∀ S : Store, aSl S (.dat (HD.ask a b).p) (some 1) none = some (.dat (.tup [nv a, nv b])) := fun S => slh (by simp)
    dsimp! [w, nit lk_a, sl, ixt lk_a, fit_hh g o.1 o.2, w_ca, w_aa]
end W3
namespace W3
open PySem PySem.Spec PyProof.Rows L2 M3
theorem datAll_n : ∀ {l : List P}, datAll (l.map .dat) = some l
  | [] => rfl
  | p :: l => by
    rw [List.map_cons]
    unfold datAll
    rw [datAll_n (l := l)]; rfl
theorem idx_th : ∀ {th : List Nat} {k : Nat}, k ∈ th → ∃ j, (th.map fun (v : Nat) => (v : Int)).idxOf? (k : Int) = some j ∧ ((th.map fun (v : Nat) => (v : Int)).eraseIdx j) = (th.erase k).map fun (v : Nat) => (v : Int)
  | [], k, h => by cases h
  | a :: th, k, h => by
    by_cases c : a = k
    · subst c
      refine ⟨0, ?_, ?_⟩
      · rw [List.map_cons, List.idxOf?_cons]; simp
      · rw [List.map_cons, List.erase_cons_head]; rfl
    · have hk : k ∈ th := by
        rcases List.mem_cons.mp h with z | z
        · exact absurd z.symm c
        · exact z
      obtain ⟨j, e1, e2⟩ := idx_th hk
      refine ⟨j + 1, ?_, ?_⟩
      · rw [List.map_cons, List.idxOf?_cons]
        have : ((a : Int) == (k : Int)) = false := by
          rw [beq_eq_false_iff_ne]
          omega
        rw [this, e1]; rfl
      · rw [List.map_cons, List.eraseIdx_cons_succ, e2]
        have : (a :: th).erase k = a :: th.erase k := by
          rw [List.erase_cons_tail]
          simpa using c
        rw [this]; rfl
theorem rem_th {C : Addr} {th : List Nat} {k : Nat} (h : k ∈ th) : updL fRemI (.obj 1) [.dat (nv k)] (TH C th) = .ok (.dat .non) (TH C (th.erase k)) := by
  obtain ⟨j, e1, e2⟩ := idx_th h
  have ei : ((datAll ((th.map nv).map .dat)).bind intsP) = some (th.map fun (v : Nat) => (v : Int)) := by
    rw [datAll_n]
    show intsP (th.map nv) = _
    rw [show th.map nv = (th.map fun (v : Nat) => (v : Int)).map P.int by rw [List.map_map]; rfl]
    exact intsP_map _
  have fr : fRemI ((th.map nv).map .dat) [.dat (nv k)] = some (.dat .non, ((th.erase k).map nv).map .dat) := by
    show (match (datAll ((th.map nv).map .dat)).bind intsP with
      | some ns => (ns.idxOf? (k : Int)).map fun j => (D.dat .non, (ns.eraseIdx j).map fun i => D.dat (.int i))
      | none => none) = _
    rw [ei]
    simp only
    rw [e1, Option.map_some, e2, List.map_map, List.map_map]
    rfl
  show (match (TH C th)[1]? with
    | some (.lst l) => (match fRemI l [.dat (nv k)] with
      | some (d, l') => R.ok d ((TH C th).set 1 (.lst l'))
      | none => .fail)
    | _ => .fail) = _
  show (match fRemI ((th.map nv).map .dat) [.dat (nv k)] with
      | some (d, l') => R.ok d ((TH C th).set 1 (.lst l'))
      | none => .fail) = _
  rw [fr]
  rfl
section
variable {g : G} (X : Gx g) {n : Nat} {ds : List HD} (ok : OkH n ds) (n1 : 1 ≤ n) (hn : n ≤ 24) (l60 : ds.length ≤ 60)
include X ok n1 hn l60
theorem made_h (S : Store) : mPure (mkC g.History (m_History_init g)) [.dat (.int (n : Int)), .dat (.tup (ds.map HD.p))] S = .ok (.dat (histP g n ds)) S := by
  have bt := fun S => between_h g (lo := 1) (hi := 24) (i := (n : Int)) (by omega) S
  have c60 : decide ((ds.length : Int) > 60) = false := decide_eq_false (by omega)
  have q1 : setF g.FL "many" (.obj 0) (.dat (.int (n : Int))) (TH g.History (tst ds).th) = some [.ins g.History [("many", .dat (.int (n : Int)))], .lst (((tst ds).th.map nv).map .dat)] := setF_o (l := []) (S := TH g.History (tst ds).th) rfl (fl_m X) (by decide)
  have q2 : setF g.FL "deeds" (.obj 0) (.dat (.tup (ds.map HD.p))) [.ins g.History [("many", .dat (.int (n : Int)))], .lst (((tst ds).th.map nv).map .dat)] = some [.ins g.History [("many", .dat (.int (n : Int))), ("deeds", .dat (.tup (ds.map HD.p)))], .lst (((tst ds).th.map nv).map .dat)] := by
    rw [setF_o (S := [.ins g.History [("many", .dat (.int (n : Int)))], .lst (((tst ds).th.map nv).map .dat)]) rfl (fl_d X) (by simp)]
    have : putD "deeds" (D.dat (.tup (ds.map HD.p))) [(("many" : Str), D.dat (.int (n : Int)))] = [(("many" : Str), D.dat (.int (n : Int))), (("deeds" : Str), D.dat (.tup (ds.map HD.p)))] := by
      simp only [putD, show ¬ (("many" : Str) = "deeds") from by decide +kernel, if_false]
    rw [this]; rfl
  have e1 : ∃ d S', m_History_init g [.obj 0, .dat (.int (n : Int)), .dat (.tup (ds.map HD.p))] [.ins g.History []] = .ok d S' ∧ d = .dat .non ∧ S' = [.ins g.History [("many", .dat (.int (n : Int))), ("deeds", .dat (.tup (ds.map HD.p)))], .lst (((tst ds).th.map nv).map .dat)] := by
    unfold m_History_init mSetF
    rw [mBody_fin]
    have fin_nx_e : ∀ {r : R Out} {Q : Store → Prop}, Ends r (fun o S => ∃ δ, o = .nx δ ∧ Q S) → ∃ (d : D) (S : Store), fin r = .ok d S ∧ d = .dat .non ∧ Q S := fun h => by
      obtain ⟨o, S, rfl, δ, rfl, q⟩ := h
      exact ⟨_, S, rfl, rfl, q⟩
    refine fin_nx_e ?_
    dsimp! [bt, List.length_map, c60]
    rw [for_items (l := ((numsP (ds.map HD.p).length).zip (ds.map HD.p)).map fun z => .dat (.tup [z.1, z.2])) (S1 := TH g.History []) (by unfold mEnum; dsimp! []; rfl)]
    refine then_ends (Q1 := fun o S => ∃ x5 x6, o = .nx [some (.obj 0), some (.dat (.int (n : Int))), some (.dat (.tup (ds.map HD.p))), some (.dat (.int ((tst ds).c : Int))), some (.obj 1), x5, x6] ∧ S = TH g.History (tst ds).th) ?_ ?_
    · refine forL_ends (fun i δ S => ∃ x5 x6, δ = [some (.obj 0), some (.dat (.int (n : Int))), some (.dat (.tup (ds.map HD.p))), some (.dat (.int ((tst (ds.take i)).c : Int))), some (.obj 1), x5, x6] ∧ S = TH g.History (tst (ds.take i)).th) (i := 0) ⟨_, _, rfl, rfl⟩ ?_ ?_
      · rintro i d δ S ed ⟨x5, x6, rfl, rfl⟩
        rw [Nat.zero_add]
        obtain ⟨p, ep, rfl⟩ := enumA ed
        obtain ⟨d, e, rfl⟩ := hd_at ep
        have o := ok i d e
        have rn := (ok.take i).rn
        have nx := next_t g (C := g.History) o
        have two : ([.int (i : Int), d.p] : List P).length = 2 := rfl
        have ki : ∀ th, isKind "list" (TH g.History th) (.obj 1) = true := fun th => kind_o (S := TH g.History th) rfl
        rw [takeS e, tst_snoc]
        have th32 : (tst (ds.take i)).th.length ≤ 32 := by
          have := W2.nodup_len rn.nd rn.th
          have := rn.c32
          omega
        generalize tst (ds.take i) = s at nx o th32 ⊢
        cases d with
        | come a b =>
          have ap : updL fAppend (.obj 1) [.dat (.int (s.c : Int))] (TH g.History s.th) = .ok (.dat .non) (TH g.History (s.th ++ [s.c])) := by
            rw [app_o (S := TH g.History s.th) (l := (s.th.map nv).map .dat) rfl (by simp; omega)]
            unfold TH
            rw [List.map_append, List.map_append]
            rfl
          have st : stepT s (.come a b) = ⟨s.c + 1, s.th ++ [s.c]⟩ := rfl
          have ec : (s.c : Int) + 1 = ((s.c + 1 : Nat) : Int) := by omega
          have ad : ∀ (S : Store) (i j : Int), aAddI S (.dat (.int i)) (.dat (.int j)) = some (.dat (.int (i + j))) := fun _ _ _ => rfl
          rw [st]
          unfold mBM mAug
          dsimp! [two, nx, hd0c, w_cc, ki, ap, ad, ec]
          exact .of (tmH ⟨_, _, rfl, rfl⟩)
        | go k =>
          have st : stepT s (.go k) = ⟨s.c, s.th.erase k⟩ := rfl
          rw [st]
          unfold mBM
          dsimp! [two, nx, hd0g, w_cg, w_gg, ki, hd1g, rem_th (C := g.History) (show k ∈ s.th from o)]
          exact .of (tmH ⟨_, _, rfl, rfl⟩)
        | ask a b =>
          have st : stepT s (.ask a b) = s := rfl
          rw [st]
          dsimp! [two, nx, hd0a, w_ca, w_ga]
          exact .of (tmH ⟨_, _, rfl, rfl⟩)
      · rintro δ S ⟨x5, x6, rfl, rfl⟩
        rw [enumL, List.length_map, Nat.zero_add, List.take_length]
        exact ⟨_, _, rfl, rfl⟩
    · rintro o S ⟨x5, x6, rfl, rfl⟩
      dsimp! [q1, q2]
      exact .of ⟨_, rfl, rfl⟩
  obtain ⟨d, S', e1, rfl, rfl⟩ := e1
  refine pure_obj rfl (i := 0) (S' := [.ins g.History [("many", .dat (.int (n : Int))), ("deeds", .dat (.tup (ds.map HD.p)))], .lst (((tst ds).th.map nv).map .dat)]) ?_ rfl
  unfold mkC
  rw [show ([] : Store) ++ [.ins g.History []] = [.ins g.History []] from rfl]
  show (m_History_init g [.obj 0, _, _] _).bind _ = _
  rw [e1]; rfl
end
end W3
namespace W3
open PySem PySem.Spec PyProof.Rows L2 M3
/-! ### by the program: those that stay longer first, what is kept, till when -/
theorem notn_o {S : Store} {o : Option Nat} : aNotN S (.dat (ov o)) (.dat .non) = some (.dat (.bl (!decide (o = none)))) := by cases o <;> rfl
theorem fm_fil {α : Type} {f : α → P} {p : α → Bool} : ∀ (l : List α), l.filterMap (fun z => if p z = true then some (f z) else none) = (l.filter p).map f
  | [] => rfl
  | a :: l => by
    rw [List.filterMap_cons, List.filter_cons]
    by_cases c : p a = true
    · simp only [c, if_true]; rw [fm_fil l, List.map_cons]
    · simp only [c, if_false]; rw [fm_fil l]; rfl
theorem trN_len {l : List Sp} {t i : Nat} : (trN l t i).length ≤ i := by
  unfold trN
  refine Nat.le_trans (List.length_filterMap_le _ _) ?_
  rw [List.length_range]
  exact Nat.le_refl _
theorem tri0 {S : Store} {z : TZ} : aIx S (.dat (triP z)) (.dat (.int 0)) = some (.dat (nv z.1)) := rfl
theorem pair1 {S : Store} {x : Sp} : aIx S (.dat (pairP x)) (.dat (.int 1)) = some (.dat (ov x.gn)) := rfl
def keepK (n : Nat) (F : List TZ) (z : TZ) : List TZ := if (labs n (F.map Prod.snd)).getD z.2.one 0 = (labs n (F.map Prod.snd)).getD z.2.two 0 then F else F ++ [z]
def keptT (n : Nat) (O : List TZ) : List TZ := O.foldl (keepK n) []
theorem kept_sub {n : Nat} (O : List TZ) : ∀ z ∈ keptT n O, z ∈ O := by
  refine snoc_ind (P := fun O => ∀ z ∈ keptT n O, z ∈ O) ?_ ?_ O
  · intro z m; cases m
  · intro l x ih z m
    unfold keptT at m ih
    rw [List.foldl_append] at m
    have m : z ∈ keepK n (l.foldl (keepK n) []) x := m
    unfold keepK at m
    split at m
    · exact List.mem_append_left _ (ih z m)
    · rcases List.mem_append.mp m with m | m
      · exact List.mem_append_left _ (ih z m)
      · exact List.mem_append_right _ m
theorem keepK_len {n : Nat} {F : List TZ} {x : TZ} : (keepK n F x).length ≤ F.length + 1 := by
  unfold keepK
  split
  · omega
  · simp
theorem kept_snoc {n : Nat} {O : List TZ} {x : TZ} : keptT n (O ++ [x]) = keepK n (keptT n O) x := by
  unfold keptT; rw [List.foldl_append]; rfl
theorem kept_len {n : Nat} (O : List TZ) : (keptT n O).length ≤ O.length := by
  refine snoc_ind (P := fun O => (keptT n O).length ≤ O.length) (Nat.le_refl _) ?_ O
  intro l x ih
  rw [kept_snoc, List.length_append]
  exact Nat.le_trans keepK_len (Nat.add_le_add_right ih 1)
section
variable {g : G} (X : Gx g) {n : Nat} {ds : List HD} (ok : OkH n ds)
include X ok
theorem longest_t (t : Nat) (S : Store) : mPure (m_longest_first g) [.dat (histP g n ds), .dat (.int (t : Int))] S = .ok (.dat (.lst ((ordT (trN (spans ds) t (spans ds).length)).map triP))) S := by
  have rn := ok.rn
  have l32 : (spans ds).length ≤ 32 := by rw [rn.len]; exact rn.c32
  have th := fun S => there_t X ok t S
  have lv := fun S => lives_t X ok S
  have K : TOk ds (trN (spans ds) t (spans ds).length) := tok_tr
  have lT : (trN (spans ds) t (spans ds).length).length ≤ 32 := Nat.le_trans trN_len l32
  generalize trN (spans ds) t (spans ds).length = T at th K lT ⊢
  refine pure_dat rfl (S' := []) ?_
  have i1 : ∀ (z : TZ) (S : Store), z ∈ T → aIx S (.dat (.tup ((spans ds).map pairP))) (.dat (nv z.1)) = some (.dat (pairP z.2)) := fun z S m => ix_t (atN (map_get (K.at_ z m)))
  have lc1 : ∀ (x3 x5 x6 : Option D) (S : Store), mLc (mWalk (mDef 2 (mPure (m_there g)) (mCons (mVar 0) (mCons (mVar 1) mNil)))) (gmName 4) (mTst (mOp aIsN (mOp aIx (mOp aIx (mVar 2) (mOp aIx (mVar 4) (mC (.int 0)))) (mC (.int 1))) (mC .non))) (mVar 4) [4] [some (.dat (histP g n ds)), some (.dat (.int (t : Int))), some (.dat (.tup ((spans ds).map pairP))), x3, none, x5, x6] S = .ok (((nevT T).map triP).map .dat) S := fun x3 x5 x6 S => by
    rw [lc_map (xs := T) (fun z => .dat (triP z)) (fun z => if decide (z.2.gn = none) = true then some (triP z) else none) (by
      rw [walk_l (l := T.map triP) (by dsimp! [th] <;> rfl), List.map_map]; rfl) (by omega) fun z m => ⟨_, rfl, by
      by_cases c : z.2.gn = none
      · rw [if_pos (decide_eq_true c)]
        exact ⟨by dsimp! [tri0, i1 z _ m, pair1, isn_o, decide_eq_true c], by dsimp! []⟩
      · rw [if_neg (by rw [decide_eq_false c]; simp)]
        show mTst _ _ _ = _
        dsimp! [tri0, i1 z _ m, pair1, isn_o, decide_eq_false c]⟩]
    rw [fm_fil]; rfl
  have l2 : (2 : Nat) ≤ 100000 := by decide
  have lc2 : ∀ (x3 x5 x6 : Option D) (S : Store), mLc (mWalk (mDef 2 (mPure (m_there g)) (mCons (mVar 0) (mCons (mVar 1) mNil)))) (gmName 4) (mTst (mOp aNotN (mOp aIx (mOp aIx (mVar 2) (mOp aIx (mVar 4) (mC (.int 0)))) (mC (.int 1))) (mC .non))) (mTup (mCons (mOp aIx (mOp aIx (mVar 2) (mOp aIx (mVar 4) (mC (.int 0)))) (mC (.int 1))) (mCons (mVar 4) mNil))) [4] [some (.dat (histP g n ds)), some (.dat (.int (t : Int))), some (.dat (.tup ((spans ds).map pairP))), x3, none, x5, x6] S = .ok (((goT T).map goerP).map .dat) S := fun x3 x5 x6 S => by
    rw [lc_map (xs := T) (fun z => .dat (triP z)) (fun z => if (!decide (z.2.gn = none)) = true then some (goerP z) else none) (by
      rw [walk_l (l := T.map triP) (by dsimp! [th] <;> rfl), List.map_map]; rfl) (by omega) fun z m => ⟨_, rfl, by
      by_cases c : z.2.gn = none
      · rw [if_neg (by rw [decide_eq_true c]; simp)]
        show mTst _ _ _ = _
        dsimp! [tri0, i1 z _ m, pair1, notn_o, decide_eq_true c]
      · rw [if_pos (by rw [decide_eq_false c]; rfl)]
        exact ⟨by dsimp! [tri0, i1 z _ m, pair1, notn_o, decide_eq_false c], by
          dsimp! [tri0, i1 z _ m, pair1, l2]
          try rfl⟩⟩]
    rw [fm_fil]; rfl
  have so : ∀ S : Store, sortK true [.dat (.lst ((goT T).map goerP))] S = .ok (((desT T).map goerP).map .dat) S := fun S => by
    unfold sortK
    simp only [listP_l, okSort_goers, if_true]
    rw [sort_goers K]
  have ld : (desT T).length ≤ T.length := by
    unfold desT goT
    rw [List.length_mergeSort]
    exact List.length_filter_le ..
  have ln : (nevT T).length ≤ T.length := by
    unfold nevT
    exact List.length_filter_le ..
  have lc3 : ∀ (x0 x1 x2 x3 : Option D) (S : Store), mLc (mWalk (mFrz (mSort true (mCons (mVar 5) mNil)))) (gmTup 2 (gmCons (gmName 6) (gmCons (gmName 4) gmNil))) mYes (mVar 4) [6, 4] [x0, x1, x2, x3, none, some (.dat (.lst ((goT T).map goerP))), none] S = .ok (((desT T).map triP).map .dat) S := fun x0 x1 x2 x3 S => by
    rw [lc_all (xs := desT T) (fun z => .dat (goerP z)) triP (by
      rw [walk_l (l := (desT T).map goerP) (by unfold mSort; dsimp! [so] <;> rfl), List.map_map]; rfl) (by omega) fun z m => ⟨_, rfl, rfl, by
        have gp : goerP z = .tup [ov z.2.gn, triP z] := rfl
        have two : ([ov z.2.gn, triP z] : List P).length = 2 := rfl
        dsimp! [gp, two]⟩]
  unfold m_longest_first
  dsimp! [lv, lc1, lc2, lc3]
  rw [add_ll (by rw [List.length_map, List.length_map]; omega)]
  dsimp! []
  unfold ordT
  rw [List.map_append]
theorem moment_t {t : Nat} (ht : t ≤ ds.length) (S : Store) : mPure (m_need_moment g) [.dat (histP g n ds), .dat (.int (t : Int))] S = .ok (.dat .non) S := by
  refine pure_dat rfl (S' := []) ?_
  have b := fun S => between_h g (lo := 0) (hi := ds.length) (i := t) (by omega) S
  unfold m_need_moment mFld
  dsimp! [fld_deeds X, List.length_map, b]
end
end W3
namespace W3
open PySem PySem.Spec PyProof.Rows L2 M3
theorem nenv {S : Store} {a b : Nat} : aNe S (.dat (nv a)) (.dat (nv b)) = some (.dat (.bl (!decide (a = b)))) := by
  show some (D.dat (.bl (!decide ((a : Int) = (b : Int))))) = _
  by_cases c : a = b
  · subst c; simp
  · rw [decide_eq_false c, decide_eq_false (by omega)]
theorem nums_nv {T : List TZ} : (T.map fun z => nv z.1) = (T.map fun z => ((z.1 : Nat) : Int)).map P.int := by rw [List.map_map]; rfl
theorem sort_nums {T : List TZ} {S : Store} {d : D} (h : listP S d = some (T.map fun z => nv z.1)) : sortK false [d] S = .ok ((sortP false (T.map fun z => nv z.1)).map .dat) S := by
  unfold sortK
  have : okSort (T.map fun z => nv z.1) = true := by rw [nums_nv]; exact okSort_ints _
  simp only [h, this, if_true]
section
variable {g : G} (X : Gx g) {n : Nat} {ds : List HD} (ok : OkH n ds) (hn : n ≤ 24)
theorem dat_rng (n : Nat) : datAll (rngD 0 n) = some ((List.range n).map nv) := by
  rw [rngD0]
  have : ∀ l : List Nat, datAll (l.map fun k => D.dat (nv k)) = some (l.map nv) := fun l => by
    induction l with
    | nil => rfl
    | cons a l ih => rw [List.map_cons]; unfold datAll; rw [ih]; rfl
  exact this _
include X ok hn
theorem ord_in {t : Nat} : InN n ((ordT (trN (spans ds) t (spans ds).length)).map Prod.snd) := by
  intro x m
  obtain ⟨z, mz, rfl⟩ := List.mem_map.mp m
  have mt := (ord_perm _).mem_iff.mp mz
  have := ok.rn.sp z.2 (trN_mem mt).1
  exact ⟨this.1, this.2.1⟩
theorem kept_t {t : Nat} (ht : t ≤ ds.length) (S : Store) : mPure (m_kept_then g) [.dat (histP g n ds), .dat (.int (t : Int))] S = .ok (.dat (.tup (sortP false ((keptT n (ordT (trN (spans ds) t (spans ds).length))).map fun z => nv z.1)))) S := by
  have rn := ok.rn
  have l32 : (spans ds).length ≤ 32 := by rw [rn.len]; exact rn.c32
  have mo := fun S => moment_t X ok ht S
  have lg := fun S => longest_t X ok t S
  have hin := ord_in X ok hn (t := t)
  have lO : (ordT (trN (spans ds) t (spans ds).length)).length ≤ 32 := by
    rw [(ord_perm _).length_eq]
    exact Nat.le_trans trN_len l32
  generalize ordT (trN (spans ds) t (spans ds).length) = O at lg hin lO ⊢
  suffices z : ∃ d S', m_kept_then g [.dat (histP g n ds), .dat (.int (t : Int))] [] = .ok d S' ∧ d = .dat (.tup (sortP false ((keptT n O).map fun z => nv z.1))) from let ⟨d, S', e, z⟩ := z; pure_dat rfl (z ▸ e)
  have rg : -100000 ≤ (n : Int) ∧ (n : Int) ≤ 100000 := by omega
  unfold m_kept_then mFld mListRg1
  rw [mBody_fin]
  refine fin_ends ?_
  dsimp! [mo, fld_many X, if_pos rg, Int.toNat_natCast, dat_rng]
  rw [for_items (walk_l (l := O.map triP) (by dsimp! [lg] <;> rfl))]
  refine then_ends (Q1 := fun o S => ∃ (x3 x4 x5 x6 : Option D), o = .nx [some (.dat (histP g n ds)), some (.dat (.int (t : Int))), some (.obj 0), x3, x4, x5, x6] ∧ S = [.lst (((keptT n O).map fun z => nv z.1).map .dat)]) ?_ ?_
  · refine forL_ends (fun i δ S => ∃ (x4 x5 x6 : Option D), δ = [some (.dat (histP g n ds)), some (.dat (.int (t : Int))), some (.obj 0), some (.dat (.lst ((labs n ((keptT n (O.take i)).map Prod.snd)).map nv))), x4, x5, x6] ∧ S = [.lst (((keptT n (O.take i)).map fun z => nv z.1).map .dat)]) (i := 0) ⟨_, _, _, rfl, rfl⟩ ?_ ?_
    · rintro i d δ S ed ⟨x4, x5, x6, rfl, rfl⟩
      rw [Nat.zero_add]
      rw [List.getElem?_map, List.getElem?_map] at ed
      cases e : O[i]? with
      | none => rw [e] at ed; cases ed
      | some z =>
        rw [e] at ed
        cases ed
        obtain ⟨h1, h2⟩ := hin z.2 (List.mem_map.mpr ⟨z, List.mem_of_getElem? e, rfl⟩)
        have tp : triP z = .tup [nv z.1, nv z.2.one, nv z.2.two] := rfl
        have three : ([nv z.1, nv z.2.one, nv z.2.two] : List P).length = 3 := rfl
        have kl := kept_len (n := n) (O.take i)
        rw [List.length_take] at kl
        rw [takeS e, kept_snoc]
        generalize keptT n (O.take i) = F at kl ⊢
        have ll : (labs n (F.map Prod.snd)).length = n := labs_len
        unfold keepK
        by_cases c : (labs n (F.map Prod.snd)).getD z.2.one 0 = (labs n (F.map Prod.snd)).getD z.2.two 0
        · rw [if_pos c]
          dsimp! [tp, three, nvs_getD (L := labs n (F.map Prod.snd)) (i := z.2.one) (by rw [ll]; exact h1), nvs_getD (L := labs n (F.map Prod.snd)) (i := z.2.two) (by rw [ll]; exact h2), nenv, decide_eq_true c]
          exact .of (tmH ⟨_, _, _, rfl, rfl⟩)
        · rw [if_neg c]
          have wt := fun S => with_tie_t g (L := labs n (F.map Prod.snd)) (x := z.2) (by rw [ll]; exact h1) (by rw [ll]; exact h2) (by rw [ll]; exact hn) S
          have ki : isKind "list" [M3.O.lst ((F.map fun z => nv z.1).map .dat)] (.obj 0) = true := kind_o (S := [M3.O.lst ((F.map fun z => nv z.1).map .dat)]) rfl
          have ap : updL fAppend (.obj 0) [.dat (nv z.1)] [M3.O.lst ((F.map fun z => nv z.1).map .dat)] = .ok (.dat .non) [M3.O.lst (((F ++ [z]).map fun z => nv z.1).map .dat)] := by
            rw [app_o (S := [M3.O.lst ((F.map fun z => nv z.1).map .dat)]) rfl (by simp; omega)]
            simp
          have le : labs n ((F ++ [z]).map Prod.snd) = lab1 (labs n (F.map Prod.snd)) z.2 := by rw [List.map_append]; exact labs_snoc
          unfold mBM
          rw [le]
          dsimp! [tp, three, nvs_getD (L := labs n (F.map Prod.snd)) (i := z.2.one) (by rw [ll]; exact h1), nvs_getD (L := labs n (F.map Prod.snd)) (i := z.2.two) (by rw [ll]; exact h2), nenv, decide_eq_false c, ki, ap, wt]
          exact .of (tmH ⟨_, _, _, rfl, rfl⟩)
    · rintro δ S ⟨x4, x5, x6, rfl, rfl⟩
      refine ⟨_, x4, x5, x6, rfl, ?_⟩
      rw [List.length_map, List.length_map, Nat.zero_add, List.take_length]
  · rintro o S ⟨x3, x4, x5, x6, rfl, rfl⟩
    have so := sort_nums (T := keptT n O) (S := [.lst (((keptT n O).map fun z => nv z.1).map .dat)]) (d := .obj 0) (listP_o rfl)
    unfold mSort
    dsimp! [so, tuple_l]
    exact .of ⟨_, rfl, rfl⟩
theorem till_t {t a b : Nat} (ht : t ≤ ds.length) (ha : a < n) (hb : b < n) (S : Store) : mPure (m_joined_till g) [.dat (histP g n ds), .dat (.int (t : Int)), .dat (nv a), .dat (nv b)] S = .ok (.dat (if a = b then .non else ansF n a b [] ((ordT (trN (spans ds) t (spans ds).length)).map Prod.snd))) S := by
  have rn := ok.rn
  have l32 : (spans ds).length ≤ 32 := by rw [rn.len]; exact rn.c32
  have mo := fun S => moment_t X ok ht S
  have lg := fun S => longest_t X ok t S
  have lv := fun S => lives_t X ok S
  have hin := ord_in X ok hn (t := t)
  have at_ : ∀ z ∈ ordT (trN (spans ds) t (spans ds).length), (spans ds)[z.1]? = some z.2 := fun z m => (trN_mem ((ord_perm _).mem_iff.mp m)).2
  generalize ordT (trN (spans ds) t (spans ds).length) = O at lg hin at_ ⊢
  have hA := fun S => house_h g (n := n) (a := a) ha S
  have hB := fun S => house_h g (n := n) (a := b) hb S
  suffices z : ∃ d S', m_joined_till g [.dat (histP g n ds), .dat (.int (t : Int)), .dat (nv a), .dat (nv b)] [] = .ok d S' ∧ d = .dat (if a = b then .non else ansF n a b [] (O.map Prod.snd)) from let ⟨d, S', e, z⟩ := z; pure_dat rfl (z ▸ e)
  have rg : -100000 ≤ (n : Int) ∧ (n : Int) ≤ 100000 := by omega
  unfold m_joined_till mFld mListRg1
  rw [mBody_fin]
  refine fin_ends ?_
  by_cases c : a = b
  · dsimp! [mo, fld_many X, hA, hB, eqnv, decide_eq_true c]
    exact .of ⟨_, rfl, by rw [if_pos c]⟩
  dsimp! [mo, fld_many X, hA, hB, eqnv, decide_eq_false c, if_pos rg, Int.toNat_natCast, dat_rng, if_neg c]
  rw [for_items (walk_l (l := O.map triP) (by dsimp! [lg] <;> rfl))]
  refine then_ends (Q1 := fun o S => (o = .rt (.dat (ansF n a b [] (O.map Prod.snd)))) ∨ (∃ δ, o = .nx δ ∧ ansF n a b [] (O.map Prod.snd) = .int (-1))) ?_ ?_
  · refine forL_ends (fun i δ S => ∃ (x5 x6 x7 : Option D), δ = [some (.dat (histP g n ds)), some (.dat (.int (t : Int))), some (.dat (nv a)), some (.dat (nv b)), some (.dat (.lst ((labs n ((O.take i).map Prod.snd)).map nv))), x5, x6, x7] ∧ ansF n a b [] (O.map Prod.snd) = ansF n a b ((O.take i).map Prod.snd) ((O.drop i).map Prod.snd)) (i := 0) ⟨_, _, _, rfl, rfl⟩ ?_ ?_
    · rintro i d δ S ed ⟨x5, x6, x7, rfl, ea⟩
      rw [Nat.zero_add] at ea ⊢
      rw [List.getElem?_map, List.getElem?_map] at ed
      cases e : O[i]? with
      | none => rw [e] at ed; cases ed
      | some z =>
        rw [e] at ed
        cases ed
        have mz := List.mem_of_getElem? e
        obtain ⟨h1, h2⟩ := hin z.2 (List.mem_map.mpr ⟨z, mz, rfl⟩)
        have tp : triP z = .tup [nv z.1, nv z.2.one, nv z.2.two] := rfl
        have three : ([nv z.1, nv z.2.one, nv z.2.two] : List P).length = 3 := rfl
        have i1 : ∀ S : Store, aIx S (.dat (.tup ((spans ds).map pairP))) (.dat (nv z.1)) = some (.dat (pairP z.2)) := fun S => ix_t (atN (map_get (at_ z mz)))
        have ed : O.drop i = z :: O.drop (i + 1) := by
          obtain ⟨h, e⟩ := List.getElem?_eq_some_iff.mp e
          rw [List.drop_eq_getElem_cons h, e]
        rw [ed, List.map_cons, ansF] at ea
        rw [takeS e, List.map_append]
        show Ends _ _
        have lc : ∀ L : List Sp, L ++ [z].map Prod.snd = L ++ [z.2] := fun _ => rfl
        rw [lc]
        have ll : (labs n ((O.take i).map Prod.snd)).length = n := labs_len
        have wt := fun S => with_tie_t g (L := labs n ((O.take i).map Prod.snd)) (x := z.2) (by rw [ll]; exact h1) (by rw [ll]; exact h2) (by rw [ll]; exact hn) S
        rw [← labs_snoc] at wt
        have l2 : (labs n ((O.take i).map Prod.snd ++ [z.2])).length = n := labs_len
        by_cases j : Jd n ((O.take i).map Prod.snd ++ [z.2]) a b
        · rw [if_pos j] at ea
          have j' : (labs n ((O.take i).map Prod.snd ++ [z.2])).getD a 0 = (labs n ((O.take i).map Prod.snd ++ [z.2])).getD b 0 := j
          dsimp! [tp, three, wt, nvs_getD (L := labs n ((O.take i).map Prod.snd ++ [z.2])) (i := a) (by rw [l2]; exact ha), nvs_getD (L := labs n ((O.take i).map Prod.snd ++ [z.2])) (i := b) (by rw [l2]; exact hb), eqnv, decide_eq_true j', lv, i1, pair1]
          refine .of ?_
          exact .inl (by rw [ea])
        · rw [if_neg j] at ea
          have j' : ¬ (labs n ((O.take i).map Prod.snd ++ [z.2])).getD a 0 = (labs n ((O.take i).map Prod.snd ++ [z.2])).getD b 0 := j
          dsimp! [tp, three, wt, nvs_getD (L := labs n ((O.take i).map Prod.snd ++ [z.2])) (i := a) (by rw [l2]; exact ha), nvs_getD (L := labs n ((O.take i).map Prod.snd ++ [z.2])) (i := b) (by rw [l2]; exact hb), eqnv, decide_eq_false j']
          exact .of (tmH ⟨_, _, _, rfl, ea⟩)
    · rintro δ S ⟨x5, x6, x7, rfl, ea⟩
      refine .inr ⟨_, rfl, ?_⟩
      rw [List.length_map, List.length_map, Nat.zero_add, List.drop_length] at ea
      exact ea
  · rintro o S (rfl | ⟨δ, rfl, ea⟩)
    · dsimp! []
      exact .of ⟨_, rfl, rfl⟩
    · rw [ea]
      dsimp! [aNeg]
      exact .of ⟨_, rfl, rfl⟩
end
end W3
namespace W3
open PySem PySem.Spec PyProof.Rows L2 M3
/-! ### a comprehension over a list of objects -/
theorem lcO_map {α : Type} {gm : DG} {t : DT} {e : DE} {vs : List Nat} {δ : DEnv} {S : Store} {o : Nat} {xs : List α} (h : α → D) (k : α → P) (ho : S[o]? = some (.lst (xs.map h))) (hl : xs.length ≤ 100000)
    (hh : ∀ x ∈ xs, ∃ δ1, gm (h x) (wipeD δ vs) S = .ok δ1 S ∧ t δ1 S = .ok true S ∧ e δ1 S = .ok (.dat (k x)) S) : ∀ (m i : Nat) (acc : List D), i + m = xs.length → acc.length = i →
      mLcO gm t e vs δ o xs.length m i acc S = .ok (acc ++ ((xs.drop i).map k).map .dat) S
  | 0, i, acc, hi, ha => by
    unfold mLcO
    rw [ho]
    simp only [List.length_map, if_true]
    rw [List.drop_eq_nil_of_le (by omega)]
    simp
  | m + 1, i, acc, hi, ha => by
    have hx : xs[i]? = some xs[i] := List.getElem?_eq_getElem (by omega)
    obtain ⟨δ1, e1, e2, e3⟩ := hh _ (List.mem_of_getElem? hx)
    unfold mLcO
    rw [ho]
    simp only [List.length_map, if_true]
    rw [List.getElem?_map, hx]
    simp only [Option.map_some]
    rw [e1, R.bnf_ok, e2, R.bnf_ok]
    show (e δ1 S).bnf _ = _
    rw [e3, R.bnf_ok, if_pos (by omega), lcO_map h k ho hl hh m (i + 1) _ (by omega) (by simp [ha])]
    rw [List.drop_eq_getElem_cons (show i < xs.length by omega), List.map_cons, List.map_cons, List.append_assoc]
    rfl
theorem lc_ob {α : Type} {w : DI} {gm : DG} {t : DT} {e : DE} {vs : List Nat} {δ : DEnv} {S S1 : Store} {o : Nat} {xs : List α} (h : α → D) (k : α → P) (hw : w δ S = .ok (.ob o) S1) (ho : S1[o]? = some (.lst (xs.map h))) (hl : xs.length ≤ 100000)
    (hh : ∀ x ∈ xs, ∃ δ1, gm (h x) (wipeD δ vs) S1 = .ok δ1 S1 ∧ t δ1 S1 = .ok true S1 ∧ e δ1 S1 = .ok (.dat (k x)) S1) : mLc w gm t e vs δ S = .ok ((xs.map k).map .dat) S1 := by
  unfold mLc
  rw [hw, R.bind_ok]
  simp only [ho]
  rw [List.length_map, lcO_map h k ho hl hh xs.length 0 [] (by omega) rfl, R.bnf_ok]
  simp
end W3
namespace W3
open PySem PySem.Spec PyProof.Rows L2 M3
/-! ### by the law: those that stay longer, till when -/
theorem spn_at {ds : List HD} {T : List TZ} (K : TOk ds T) {z : TZ} (m : z ∈ T) (S : Store) : aIx S (.dat (.lst ((spans ds).map fourP))) (.dat (nv z.1)) = some (.dat (fourP z.2)) := ix_l (atN (map_get (K.at_ z m)))
theorem ne_ov {S : Store} {o : Option Nat} {q : Nat} : aNe S (.dat (ov o)) (.dat (nv q)) = some (.dat (.bl (decide (o ≠ some q)))) := by
  cases o with
  | none => rfl
  | some p =>
    show aNe S (.dat (nv p)) (.dat (nv q)) = _
    rw [nenv]
    by_cases c : p = q
    · subst c; simp
    · rw [decide_eq_false c, decide_eq_true (by simpa using c)]; rfl
theorem map_sf {T : List TZ} : (T.map fun z => fourP z.2) = (T.map Prod.snd).map fourP := by rw [List.map_map]; rfl
theorem seq_asg {a : DE} {i : Nat} {b : DS} {δ : DEnv} {S S1 : Store} {d : D} (h : a δ S = .ok d S1) : mSeq (mAsg a (gmName i)) b δ S = b (δ.set i (some d)) S1 := by
  unfold mSeq mAsg
  rw [h]
  rfl
theorem ls_frz {a : DA} {δ : DEnv} {S S1 : Store} {l : List P} (h : a δ S = .ok (l.map .dat) S1) : mFrz a δ S = .ok (.dat (.lst l)) S1 := by
  unfold mFrz
  rw [h, R.bind_ok, datAll_map]
theorem tst_so {B A : List P} (so : ∀ S : Store, sortK false [.dat (.lst B)] S = .ok (A.map .dat) S) {m : DA} {δ : DEnv} (h : m δ [] = .ok (B.map .dat) []) : mFrz (fun δ S => (mCons (mFrz m) mNil δ S).bind (sortK false)) δ [] = .ok (.dat (.lst A)) [] := by
  dsimp! [h, so]
section
variable (g : G) {n : Nat} {ds : List HD} {T : List TZ} (K : TOk ds T) (hin : InN n (T.map Prod.snd)) (hn : n ≤ 24) (l60 : ds.length ≤ 60) (lT : T.length ≤ 32)
include K hin hn l60 lT
theorem L_longest_t (S : Store) : mPure (m_L_longest g) [.dat (.int (n : Int)), .dat (.lst ((spans ds).map fourP)), .dat (.lst (T.map fun z => nv z.1))] S = .ok (.dat (.tup (sortP false ((keptT n (ordT T)).map fun z => nv z.1)))) S := by
  have om : ∀ z, z ∈ ordT T → z ∈ T := fun z m => (ord_perm _).mem_iff.mp m
  have lO : (ordT T).length ≤ 32 := by rw [(ord_perm _).length_eq]; exact lT
  have oin : InN n ((ordT T).map Prod.snd) := fun x m => by
    obtain ⟨z, mz, rfl⟩ := List.mem_map.mp m
    exact hin z.2 (List.mem_map.mpr ⟨z, om z mz, rfl⟩)
  suffices z : ∃ d S', m_L_longest g [.dat (.int (n : Int)), .dat (.lst ((spans ds).map fourP)), .dat (.lst (T.map fun z => nv z.1))] [] = .ok d S' ∧ d = .dat (.tup (sortP false ((keptT n (ordT T)).map fun z => nv z.1))) from let ⟨d, S', e, z⟩ := z; pure_dat rfl (z ▸ e)
  have l2 : (2 : Nat) ≤ 100000 := by decide
  have lc1 : ∀ (x0 x3 x5 x6 x7 x8 : Option D) (S : Store), mLc (mWalk (mVar 2)) (gmName 4) mYes (mTup (mCons (mIf (mTst (mOp aIsN (mOp aIx (mOp aIx (mVar 1) (mVar 4)) (mC (.int 3))) (mC .non))) (mC (.int 0)) (mOp aSub (mC (.int 100)) (mOp aIx (mOp aIx (mVar 1) (mVar 4)) (mC (.int 3))))) (mCons (mVar 4) mNil))) [4] [x0, some (.dat (.lst ((spans ds).map fourP))), some (.dat (.lst (T.map fun z => nv z.1))), x3, none, x5, x6, x7, x8] S = .ok ((T.map lawP).map .dat) S := fun x0 x3 x5 x6 x7 x8 S =>
    lc_all (xs := T) (fun z => .dat (nv z.1)) lawP (by rw [walk_l (l := T.map fun z => nv z.1) (by dsimp! [] <;> rfl), List.map_map]; rfl) (by omega) fun z m => ⟨_, rfl, rfl, by
      have sa := fun S => spn_at K m S
      unfold lawP rkZ
      cases eg : z.2.gn with
      | none =>
        have i3 : ∀ S : Store, aIx S (.dat (fourP z.2)) (.dat (.int 3)) = some (.dat (ov none)) := fun S => by rw [fourP_ix3, eg]
        have nno : ∀ S : Store, aIsN S (.dat (ov none)) (.dat .non) = some (.dat (.bl true)) := fun _ => rfl
        dsimp! [sa, i3, nno, l2]
      | some q =>
        have i3 : ∀ S : Store, aIx S (.dat (fourP z.2)) (.dat (.int 3)) = some (.dat (ov (some q))) := fun S => by rw [fourP_ix3, eg]
        have nns : ∀ S : Store, aIsN S (.dat (ov (some q))) (.dat .non) = some (.dat (.bl false)) := fun _ => rfl
        have sb : ∀ S : Store, aSub S (.dat (.int 100)) (.dat (ov (some q))) = some (.dat (.int (100 - (q : Int)))) := fun _ => rfl
        dsimp! [sa, i3, nns, sb, l2]⟩
  have so : ∀ S : Store, sortK false [.dat (.lst (T.map lawP))] S = .ok (((ordT T).map lawP).map .dat) S := fun S => by
    unfold sortK
    simp only [listP_l, okSort_law, if_true]
    rw [sort_law K l60]
  unfold m_L_longest mSort
  rw [mBody_fin]
  refine fin_ends ?_
  dsimp! [lc1, so]
  rw [for_items (walk_l (l := (ordT T).map lawP) (by dsimp! [] <;> rfl))]
  refine then_ends (Q1 := fun o S => ∃ (x4 x6 x7 x8 : Option D), o = .nx [some (.dat (.int (n : Int))), some (.dat (.lst ((spans ds).map fourP))), some (.dat (.lst (T.map fun z => nv z.1))), some (.dat (.lst ((ordT T).map lawP))), x4, some (.obj 0), x6, x7, x8] ∧ S = [.lst (((keptT n (ordT T)).map fun z => nv z.1).map .dat)]) ?_ ?_
  · refine forL_ends (fun i δ S => ∃ (x4 x6 x7 : Option D), δ = [some (.dat (.int (n : Int))), some (.dat (.lst ((spans ds).map fourP))), some (.dat (.lst (T.map fun z => nv z.1))), some (.dat (.lst ((ordT T).map lawP))), x4, some (.obj 0), x6, x7, none] ∧ S = [.lst (((keptT n ((ordT T).take i)).map fun z => nv z.1).map .dat)]) (i := 0) ⟨_, _, _, rfl, rfl⟩ ?_ ?_
    · rintro i d δ S ed ⟨x4, x6, x7, rfl, rfl⟩
      rw [Nat.zero_add]
      rw [List.getElem?_map, List.getElem?_map] at ed
      cases e : (ordT T)[i]? with
      | none => rw [e] at ed; cases ed
      | some z =>
        rw [e] at ed
        cases ed
        have mz := List.mem_of_getElem? e
        obtain ⟨h1, h2⟩ := oin z.2 (List.mem_map.mpr ⟨z, mz, rfl⟩)
        have sa := fun S => spn_at K (om z mz) S
        have lp : lawP z = .tup [.int (rkZ z), nv z.1] := rfl
        have two : ([.int (rkZ z), nv z.1] : List P).length = 2 := rfl
        have kl := kept_len (n := n) ((ordT T).take i)
        rw [List.length_take] at kl
        have ks := kept_sub (n := n) ((ordT T).take i)
        rw [takeS e, kept_snoc]
        generalize keptT n ((ordT T).take i) = F at kl ks ⊢
        have fs : ∀ w ∈ F, w ∈ T := fun w m => om w (List.mem_of_mem_take (ks w m))
        have fin : InN n (F.map Prod.snd) := fun x m => by
          obtain ⟨w, mw, rfl⟩ := List.mem_map.mp m
          exact hin w.2 (List.mem_map.mpr ⟨w, fs w mw, rfl⟩)
        have lc2 : ∀ (x3 x4 x6 x7 : Option D) , mLc (mWalk (mVar 5)) (gmName 8) mYes (mOp aIx (mVar 1) (mVar 8)) [8] [some (.dat (.int (n : Int))), some (.dat (.lst ((spans ds).map fourP))), some (.dat (.lst (T.map fun z => nv z.1))), x3, x4, some (.obj 0), x6, x7, none] [M3.O.lst ((F.map fun z => nv z.1).map .dat)] = .ok ((F.map fun z => fourP z.2).map .dat) [M3.O.lst ((F.map fun z => nv z.1).map .dat)] := fun x3 x4 x6 x7 => by
          refine lc_ob (xs := F) (fun z => .dat (nv z.1)) (fun z => fourP z.2) (o := 0) (walk_o (l := (F.map fun z => nv z.1).map .dat) (by dsimp! [] <;> rfl) rfl) (by rw [List.map_map]; rfl) (by omega) fun w mw => ⟨_, rfl, rfl, ?_⟩
          have sw := fun S => spn_at K (fs w mw) S
          dsimp! [sw]
        have pt := fun S => L_parts_t g fin hn S
        rw [← map_sf] at pt
        have pl : (pars n (F.map Prod.snd)).length = n := pars_len
        have ne : ∀ S : Store, aNe S (.dat (nv ((pars n (F.map Prod.snd)).getD z.2.one 0))) (.dat (nv ((pars n (F.map Prod.snd)).getD z.2.two 0))) = some (.dat (.bl (!decide ((labs n (F.map Prod.snd)).getD z.2.one 0 = (labs n (F.map Prod.snd)).getD z.2.two 0)))) := fun S => by
          rw [nenv]
          have := (alike_of fin).eq z.2.one z.2.two h1 h2
          rw [decide_eq_decide.mpr this]
        unfold keepK
        unfold mBM
        by_cases c : (labs n (F.map Prod.snd)).getD z.2.one 0 = (labs n (F.map Prod.snd)).getD z.2.two 0
        · rw [if_pos c]
          dsimp! [lp, two, lc2, pt, sa, fourP_ix0, fourP_ix1, nvs_getD (L := pars n (F.map Prod.snd)) (i := z.2.one) (by rw [pl]; exact h1), nvs_getD (L := pars n (F.map Prod.snd)) (i := z.2.two) (by rw [pl]; exact h2), ne, decide_eq_true c]
          exact .of (tmH ⟨_, _, _, rfl, rfl⟩)
        · rw [if_neg c]
          have ki : isKind "list" [M3.O.lst ((F.map fun z => nv z.1).map .dat)] (.obj 0) = true := kind_o (S := [M3.O.lst ((F.map fun z => nv z.1).map .dat)]) rfl
          have ap : updL fAppend (.obj 0) [.dat (nv z.1)] [M3.O.lst ((F.map fun z => nv z.1).map .dat)] = .ok (.dat .non) [M3.O.lst (((F ++ [z]).map fun z => nv z.1).map .dat)] := by
            rw [app_o (S := [M3.O.lst ((F.map fun z => nv z.1).map .dat)]) rfl (by simp; omega)]
            simp
          dsimp! [lp, two, lc2, pt, sa, fourP_ix0, fourP_ix1, nvs_getD (L := pars n (F.map Prod.snd)) (i := z.2.one) (by rw [pl]; exact h1), nvs_getD (L := pars n (F.map Prod.snd)) (i := z.2.two) (by rw [pl]; exact h2), ne, decide_eq_false c, ki, ap]
          exact .of (tmH ⟨_, _, _, rfl, rfl⟩)
    · rintro δ S ⟨x4, x6, x7, rfl, rfl⟩
      refine ⟨x4, x6, x7, none, rfl, ?_⟩
      rw [List.length_map, List.length_map, Nat.zero_add, List.take_length]
  · rintro o S ⟨x4, x6, x7, x8, rfl, rfl⟩
    have so := sort_nums (T := keptT n (ordT T)) (S := [.lst (((keptT n (ordT T)).map fun z => nv z.1).map .dat)]) (d := .obj 0) (listP_o rfl)
    dsimp! [so, tuple_l]
    exact .of ⟨_, rfl, rfl⟩
theorem till_tot {a b : Nat} (ha : a < n) (hb : b < n) : tillL n a b (T.map Prod.snd) ((desT T).reverse.map gk) (.int (-1)) = if a = b then .non else ansF n a b [] ((ordT T).map Prod.snd) := by
  by_cases c : a = b
  · subst c
    rw [if_pos rfl]
    exact till_same _ _ _
  rw [if_neg c]
  have dm : ∀ z, z ∈ desT T → z ∈ T := fun z m => (mem_go.mp (mem_des.mp m)).1
  have hN : InN n ((nevT T).map Prod.snd) := fun x m => by
    obtain ⟨z, mz, rfl⟩ := List.mem_map.mp m
    exact hin z.2 (List.mem_map.mpr ⟨z, (mem_nev.mp mz).1, rfl⟩)
  have hD : InN n ((desT T).map Prod.snd) := fun x m => by
    obtain ⟨z, mz, rfl⟩ := List.mem_map.mp m
    exact hin z.2 (List.mem_map.mpr ⟨z, dm z mz, rfl⟩)
  have nd : (((desT T).map Prod.snd).map Sp.gn).Nodup := by
    have h := des_strict K
    unfold List.Nodup
    rw [List.map_map, List.pairwise_map]
    refine h.imp_of_mem fun {z w} mz mw l e => ?_
    have e : z.2.gn = w.2.gn := e
    unfold gk at l
    rw [e] at l
    omega
  have hm : ∀ x, x ∈ T.map Prod.snd ↔ x ∈ (nevT T).map Prod.snd ++ (desT T).map Prod.snd := fun x => by
    rw [← List.map_append]
    show _ ↔ x ∈ (ordT T).map Prod.snd
    exact ((ord_perm T).map Prod.snd).mem_iff.symm
  obtain ⟨t1, t2⟩ := till_all ha hb c hN (fun x m => by
    obtain ⟨z, mz, rfl⟩ := List.mem_map.mp m
    exact (mem_nev.mp mz).2) ((desT T).map Prod.snd) (T.map Prod.snd) (.int (-1)) hD hm (fun x m => by
    obtain ⟨z, mz, rfl⟩ := List.mem_map.mp m
    obtain ⟨_, q, e⟩ := mem_go.mp (mem_des.mp mz)
    rw [e]; rfl) nd
  have eg : ((desT T).map Prod.snd).reverse.map (fun x => x.gn.getD 0) = (desT T).reverse.map gk := by rw [← List.map_reverse, List.map_map]; rfl
  have eo : (nevT T).map Prod.snd ++ (desT T).map Prod.snd = (ordT T).map Prod.snd := by unfold ordT; rw [List.map_append]
  rw [eg, eo] at t1 t2
  have oin : InN n ([] ++ (ordT T).map Prod.snd) := fun x m => by
    rw [List.nil_append, ← eo] at m
    exact (List.mem_append.mp m).elim (hN x) (hD x)
  by_cases j : Jn ((ordT T).map Prod.snd) a b
  · exact t1 j
  · rw [t2 j, ansF_not ha hb oin j]
theorem L_till_t {a b : Nat} (ha : a < n) (hb : b < n) (S : Store) : mPure (m_L_till g) [.dat (.int (n : Int)), .dat (.lst ((spans ds).map fourP)), .dat (.lst (T.map fun z => nv z.1)), .dat (nv a), .dat (nv b)] S = .ok (.dat (if a = b then .non else ansF n a b [] ((ordT T).map Prod.snd))) S := by
  rw [← till_tot K hin hn l60 lT ha hb]
  have lD : (desT T).length ≤ 32 := by
    unfold desT goT
    rw [List.length_mergeSort]
    exact Nat.le_trans (List.length_filter_le ..) lT
  have sg : sortP false ((goT T).map fun z => ov z.2.gn) = ((desT T).reverse.map gk).map nv := by
    rw [← sort_goes K, ← sort_nvs, List.map_map]
    congr 1
    refine List.map_congr_left fun z m => ?_
    obtain ⟨_, q, e⟩ := mem_go.mp m
    show ov z.2.gn = nv (z.2.gn.getD 0)
    rw [e]; rfl
  have okg : okSort ((goT T).map fun z => ov z.2.gn) = true := by
    have : ((goT T).map fun z => ov z.2.gn) = ((goT T).map fun z => ((gk z : Nat) : Int)).map P.int := by
      rw [List.map_map]
      refine List.map_congr_left fun z m => ?_
      obtain ⟨_, q, e⟩ := mem_go.mp m
      show ov z.2.gn = P.int ((z.2.gn.getD 0 : Nat) : Int)
      rw [e]; rfl
    rw [this]
    exact okSort_ints _
  generalize hA : (desT T).reverse.map gk = A at sg
  have lA : A.length ≤ 32 := by rw [← hA, List.length_map, List.length_reverse]; exact lD
  suffices z : ∃ d S', m_L_till g [.dat (.int (n : Int)), .dat (.lst ((spans ds).map fourP)), .dat (.lst (T.map fun z => nv z.1)), .dat (nv a), .dat (nv b)] [] = .ok d S' ∧ d = .dat (tillL n a b (T.map Prod.snd) A (.int (-1))) from let ⟨d, S', e, z⟩ := z; pure_dat rfl (z ▸ e)
  have so : ∀ S : Store, sortK false [.dat (.lst ((goT T).map fun z => ov z.2.gn))] S = .ok ((A.map nv).map .dat) S := fun S => by
    unfold sortK
    simp only [listP_l, okg, if_true]
    rw [sg]
  have lc1 : ∀ (x0 x3 x4 x5 x6 x8 x9 x10 : Option D) (S : Store), mLc (mWalk (mVar 2)) (gmName 7) (mTst (mOp aNotN (mOp aIx (mOp aIx (mVar 1) (mVar 7)) (mC (.int 3))) (mC .non))) (mOp aIx (mOp aIx (mVar 1) (mVar 7)) (mC (.int 3))) [7] [x0, some (.dat (.lst ((spans ds).map fourP))), some (.dat (.lst (T.map fun z => nv z.1))), x3, x4, x5, x6, none, x8, x9, x10] S = .ok (((goT T).map fun z => ov z.2.gn).map .dat) S := fun x0 x3 x4 x5 x6 x8 x9 x10 S => by
    rw [lc_map (xs := T) (fun z => .dat (nv z.1)) (fun z => if (!decide (z.2.gn = none)) = true then some (ov z.2.gn) else none) (by
      rw [walk_l (l := T.map fun z => nv z.1) (by dsimp! [] <;> rfl), List.map_map]; rfl) (by omega) fun z m => ⟨_, rfl, by
      have sa := fun S => spn_at K m S
      by_cases c : z.2.gn = none
      · rw [if_neg (by rw [decide_eq_true c]; simp)]
        show mTst _ _ _ = _
        dsimp! [sa, fourP_ix3, notn_o, decide_eq_true c]
      · rw [if_pos (by rw [decide_eq_false c]; rfl)]
        exact ⟨by dsimp! [sa, fourP_ix3, notn_o, decide_eq_false c], by dsimp! [sa, fourP_ix3]⟩⟩]
    rw [fm_fil (f := fun z : TZ => ov z.2.gn)]; rfl
  have ls : mList (mCons (mVar 2) mNil) [some (.dat (.int (n : Int))), some (.dat (.lst ((spans ds).map fourP))), some (.dat (.lst (T.map fun z => nv z.1))), some (.dat (nv a)), some (.dat (nv b)), none, none, none, none, none, none] [] = .ok ((T.map fun z => nv z.1).map .dat) [] := by
    unfold mList
    dsimp! []
    rfl
  have neg1 : aNeg [] (.dat (.int 1)) = some (.dat (.int (-1))) := rfl
  obtain ⟨m, hm⟩ : ∃ m : Nat, m = A.length + 1 := ⟨_, rfl⟩
  have e1 : ((A.length : Nat) : Int) + 1 = (m : Int) := by omega
  unfold m_L_till mSort
  rw [mBody_fin]
  refine fin_ends ?_
  have sx := tst_so (δ := [some (.dat (.int (n : Int))), some (.dat (.lst ((spans ds).map fourP))), some (.dat (.lst (T.map fun z => nv z.1))), some (.dat (nv a)), some (.dat (nv b)), some (.dat (.lst (T.map fun z => nv z.1))), none, none, none, none, none]) so (lc1 _ _ _ _ _ _ _ _ [])
  refine Ends.eq ?_ (((seq_asg (i := 5) (ls_frz ls)).trans (seq_asg (i := 6) sx)).trans (seq_asg (i := 8) (d := .dat (.int (-1))) (S1 := []) rfl))
  rw [mSeq_then]
  rw [for_items (rng0_ok (n := m) (by dsimp! [len_l, List.length_map, e1] <;> rfl) (by omega))]
  refine then_ends (Q1 := fun o S => (o = .rt (.dat (tillL n a b (T.map Prod.snd) A (.int (-1))))) ∨ (∃ δ, o = .nx δ ∧ tillL n a b (T.map Prod.snd) A (.int (-1)) = .non)) ?_ ?_
  · refine forL_ends (fun i δ S => ∃ (L : List TZ) (last : P) (x7 x9 x10 : Option D), (∀ z ∈ L, z ∈ T) ∧ L.length ≤ 32 ∧ x7 = none ∧ δ = [some (.dat (.int (n : Int))), some (.dat (.lst ((spans ds).map fourP))), some (.dat (.lst (T.map fun z => nv z.1))), some (.dat (nv a)), some (.dat (nv b)), some (.dat (.lst (L.map fun z => nv z.1))), some (.dat (.lst (A.map nv))), x7, some (.dat last), x9, x10] ∧
      (i ≤ A.length → tillL n a b (T.map Prod.snd) A (.int (-1)) = tillL n a b (L.map Prod.snd) (A.drop i) last) ∧ (i = m → tillL n a b (T.map Prod.snd) A (.int (-1)) = .non)) (i := 0) ⟨T, _, _, _, _, fun z m => m, lT, rfl, rfl, fun _ => rfl, fun h => by omega⟩ ?_ ?_
    · rintro i d δ S ed ⟨L, last, x7, x9, x10, sub, lL, rfl, rfl, ea, -⟩
      rw [Nat.zero_add] at ea ⊢
      have hi := (List.getElem?_eq_some_iff.mp ed).1
      rw [List.length_map, List.length_range] at hi
      rw [List.getElem?_map, List.getElem?_range hi] at ed
      cases ed
      have ea := ea (by omega)
      have fin : InN n (L.map Prod.snd) := fun x m => by
        obtain ⟨w, mw, rfl⟩ := List.mem_map.mp m
        exact hin w.2 (List.mem_map.mpr ⟨w, sub w mw, rfl⟩)
      have lc2 : ∀ (x8 x9 x10 : Option D) (S : Store), mLc (mWalk (mVar 5)) (gmName 7) mYes (mOp aIx (mVar 1) (mVar 7)) [7] [some (.dat (.int (n : Int))), some (.dat (.lst ((spans ds).map fourP))), some (.dat (.lst (T.map fun z => nv z.1))), some (.dat (nv a)), some (.dat (nv b)), some (.dat (.lst (L.map fun z => nv z.1))), some (.dat (.lst (A.map nv))), none, x8, x9, x10] S = .ok ((L.map fun z => fourP z.2).map .dat) S := fun x8 x9 x10 S =>
        lc_all (xs := L) (fun z => .dat (nv z.1)) (fun z => fourP z.2) (by rw [walk_l (l := L.map fun z => nv z.1) (by dsimp! [] <;> rfl), List.map_map]; rfl) (by omega) fun w mw => ⟨_, rfl, rfl, by
          have sw := fun S => spn_at K (sub w mw) S
          dsimp! [sw]⟩
      have pt := fun S => L_parts_t g fin hn S
      rw [← map_sf] at pt
      have pl : (pars n (L.map Prod.snd)).length = n := pars_len
      have ix1 := fun S => nvs_getD (L := pars n (L.map Prod.snd)) (i := a) (by rw [pl]; exact ha) S
      have ix2 := fun S => nvs_getD (L := pars n (L.map Prod.snd)) (i := b) (by rw [pl]; exact hb) S
      by_cases j : (pars n (L.map Prod.snd)).getD a 0 = (pars n (L.map Prod.snd)).getD b 0
      · by_cases h : i < A.length
        · have eA : A[i]? = some A[i] := List.getElem?_eq_getElem h
          generalize A[i] = q at eA
          have ed : A.drop i = q :: A.drop (i + 1) := by
            obtain ⟨h, e⟩ := List.getElem?_eq_some_iff.mp eA
            rw [List.drop_eq_getElem_cons h, e]
          have iA : ∀ S : Store, aIx S (.dat (.lst (A.map nv))) (.dat (nv i)) = some (.dat (nv q)) := fun S => ix_l (atN (map_get eA))
          have li : ∀ S : Store, aLt S (.dat (nv i)) (.dat (.int (A.length : Int))) = some (.dat (.bl true)) := fun S => by rw [lt_nv, decide_eq_true h]
          have lc3 : ∀ (x9 x10 : Option D) (S : Store), mLc (mWalk (mVar 5)) (gmName 7) (mTst (mOp aNe (mOp aIx (mOp aIx (mVar 1) (mVar 7)) (mC (.int 3))) (mVar 8))) (mVar 7) [7] [some (.dat (.int (n : Int))), some (.dat (.lst ((spans ds).map fourP))), some (.dat (.lst (T.map fun z => nv z.1))), some (.dat (nv a)), some (.dat (nv b)), some (.dat (.lst (L.map fun z => nv z.1))), some (.dat (.lst (A.map nv))), none, some (.dat (nv q)), x9, x10] S = .ok (((L.filter fun z => decide (z.2.gn ≠ some q)).map fun z => nv z.1).map .dat) S := fun x9 x10 S => by
            rw [lc_map (xs := L) (fun z => .dat (nv z.1)) (fun z => if decide (z.2.gn ≠ some q) = true then some (nv z.1) else none) (by
              rw [walk_l (l := L.map fun z => nv z.1) (by dsimp! [] <;> rfl), List.map_map]; rfl) (by omega) fun z m => ⟨_, rfl, by
              have sa := fun S => spn_at K (sub z m) S
              by_cases c : z.2.gn ≠ some q
              · rw [if_pos (decide_eq_true c)]
                exact ⟨by dsimp! [sa, fourP_ix3, ne_ov, decide_eq_true c], by dsimp! []⟩
              · rw [if_neg (by rw [decide_eq_false c]; simp)]
                show mTst _ _ _ = _
                dsimp! [sa, fourP_ix3, ne_ov, decide_eq_false c]⟩]
            rw [fm_fil (f := fun z : TZ => nv z.1)]
          rw [ed, tillL, if_pos j] at ea
          have ef : (L.map Prod.snd).filter (fun x => decide (x.gn ≠ some q)) = (L.filter fun z => decide (z.2.gn ≠ some q)).map Prod.snd := by rw [List.filter_map]; rfl
          rw [ef] at ea
          dsimp! [lc2, pt, ix1, ix2, nenv, decide_eq_true j, len_l, List.length_map, li, iA, lc3]
          refine .of (tmH ⟨L.filter fun z => decide (z.2.gn ≠ some q), nv q, none, _, _, fun z m => sub z (List.mem_filter.mp m).1, Nat.le_trans (List.length_filter_le ..) lL, rfl, rfl, fun _ => ea, fun h' => by omega⟩)
        · have hi' : i = A.length := by omega
          subst hi'
          have li : ∀ S : Store, aLt S (.dat (nv A.length)) (.dat (.int (A.length : Int))) = some (.dat (.bl false)) := fun S => by rw [lt_nv, decide_eq_false h]
          rw [List.drop_length, tillL, if_pos j] at ea
          dsimp! [lc2, pt, ix1, ix2, nenv, decide_eq_true j, len_l, List.length_map, li]
          exact .of (tmH ⟨L, last, none, _, _, sub, lL, rfl, rfl, fun h' => by omega, fun _ => ea⟩)
      · have el : tillL n a b (L.map Prod.snd) (A.drop i) last = last := by
          cases A.drop i with
          | nil => exact if_neg j
          | cons q r => exact if_neg j
        rw [el] at ea
        dsimp! [lc2, pt, ix1, ix2, nenv, decide_eq_false j]
        refine .of ?_
        exact .inl (by rw [ea])
    · rintro δ S ⟨L, last, x7, x9, x10, sub, lL, rfl, rfl, ea, eb⟩
      exact .inr ⟨_, rfl, eb (by rw [List.length_map, List.length_range]; omega)⟩
  · rintro o S (rfl | ⟨δ, rfl, ea⟩)
    · dsimp! []
      exact .of ⟨_, rfl, rfl⟩
    · rw [ea]
      dsimp! []
      exact .of ⟨_, rfl, rfl⟩
end
end W3
namespace W3
open PySem PySem.Spec PyProof.Rows L2 M3
/-! ### the hand of the laws that draw with cells as they are, none below 0 -/
theorem scope_g {f : List D → Store → R D} {ds : List D} {S S' t : Store} {p : P} (e : f ds S = .ok (.dat p) (S' ++ t)) (hl : S'.length = S.length) (hc : ∀ (j : Nat) (w : O), S'[j]? = some w → O.lt S'.length w = true) : mScope f ds S = .ok (.dat p) S' := by
  have e1 : (S' ++ t).take S.length = S' := by rw [← hl, List.take_left]
  unfold mScope
  rw [e]
  simp only []
  rw [e1, if_pos]
  refine List.all_eq_true.mpr fun w m => ?_
  obtain ⟨j, ej⟩ := List.getElem?_of_mem m
  rw [← hl]
  exact hc j w ej
def hdO (ns : List Int) (i b s c : Int) : O := .lst [.dat (.lst (ns.map .int)), .dat (.int i), .dat (.int b), .dat (.int s), .dat (.int c)]
def Hd (o : O) : Prop := ∃ ns i b s c, o = hdO ns i b s c ∧ 0 ≤ i ∧ 0 ≤ b ∧ 0 ≤ s ∧ s < 2147483647
theorem hd_lt {h : O} (H : Hd h) (n : Nat) : O.lt n h = true := by
  obtain ⟨ns, i, b, s, c, rfl, _⟩ := H
  rfl
theorem draw_h (g : G) {h : O} {rest : Store} {n : Int} (H : Hd h) (n0 : 0 < n) (n1 : n < 2 ^ 60) : ∃ (r : Nat) (h' : O), (r : Int) < n ∧ Hd h' ∧ m_L_draw g [.obj 0, .dat (.int n)] (h :: rest) = .ok (.dat (.int (r : Int))) (h' :: rest) := by
  obtain ⟨ns, i, b, s, c, rfl, i0, b0, s0, s1⟩ := H
  have ix : ∀ (a b c d e : D) (r : Store) (k : Int), aIx (.lst [a, b, c, d, e] :: r) (.obj 0) (.dat (.int k)) = atI [a, b, c, d, e] k := fun _ _ _ _ _ _ _ => rfl
  have a0 : ∀ (a b c d e : D), atI [a, b, c, d, e] 0 = some a := fun _ _ _ _ _ => rfl
  have a1 : ∀ (a b c d e : D), atI [a, b, c, d, e] 1 = some b := fun _ _ _ _ _ => rfl
  have a2 : ∀ (a b c d e : D), atI [a, b, c, d, e] 2 = some c := fun _ _ _ _ _ => rfl
  have a3 : ∀ (a b c d e : D), atI [a, b, c, d, e] 3 = some d := fun _ _ _ _ _ => rfl
  have a4 : ∀ (a b c d e : D), atI [a, b, c, d, e] 4 = some e := fun _ _ _ _ _ => rfl
  have t1 : ∀ (a b c d e v : D) (r : Store), setD (.obj 0) (.dat (.int 1)) v (.lst [a, b, c, d, e] :: r) = some (.lst [a, v, c, d, e] :: r) := fun _ _ _ _ _ _ _ => rfl
  have t2 : ∀ (a b c d e v : D) (r : Store), setD (.obj 0) (.dat (.int 2)) v (.lst [a, b, c, d, e] :: r) = some (.lst [a, b, v, d, e] :: r) := fun _ _ _ _ _ _ _ => rfl
  have t3 : ∀ (a b c d e v : D) (r : Store), setD (.obj 0) (.dat (.int 3)) v (.lst [a, b, c, d, e] :: r) = some (.lst [a, b, c, v, e] :: r) := fun _ _ _ _ _ _ _ => rfl
  have t4 : ∀ (a b c d e v : D) (r : Store), setD (.obj 0) (.dat (.int 4)) v (.lst [a, b, c, d, e] :: r) = some (.lst [a, b, c, d, v] :: r) := fun _ _ _ _ _ _ _ => rfl
  have nn : ∀ x : Int, ∃ r : Nat, x % n = (r : Int) ∧ (r : Int) < n := fun x => ⟨(x % n).toNat, (Int.toNat_of_nonneg (Int.emod_nonneg x (by omega))).symm, by rw [Int.toNat_of_nonneg (Int.emod_nonneg x (by omega))]; exact Int.emod_lt_of_pos x n0⟩
  have pw : ∀ S : Store, aPow S (.dat (.int 10)) (.dat (.int 18)) = some (.dat (.int 1000000000000000000)) := fun S => pow_ii (by decide) (by decide) (by decide)
  suffices z : ∃ (x : Int) (h' : O), Hd h' ∧ m_L_draw g [.obj 0, .dat (.int n)] (hdO ns i b s c :: rest) = .ok (.dat (.int (x % n))) (h' :: rest) by
    obtain ⟨x, h', H, e⟩ := z
    obtain ⟨r, er, r1⟩ := nn x
    exact ⟨r, h', r1, H, er ▸ e⟩
  have mr0 : ∀ (S : Store) (x : Int), aMul S (.dat (.int x)) (.dat (.int 16)) = some (.dat (.int (x * 16))) := fun _ _ => mul_r (by decide)
  have mr1 : ∀ (S : Store) (x : Int), aMul S (.dat (.int x)) (.dat (.int 48271)) = some (.dat (.int (x * 48271))) := fun _ _ => mul_r (by decide)
  have mr2 : ∀ (S : Store) (x : Int), aMul S (.dat (.int x)) (.dat (.int 69621)) = some (.dat (.int (x * 69621))) := fun _ _ => mul_r (by decide)
  have ml1 : ∀ (S : Store) (x : Int), aMul S (.dat (.int 7919)) (.dat (.int x)) = some (.dat (.int (7919 * x))) := fun _ _ => mul_l (by decide)
  have mm : ∀ (S : Store) (x y : Int), aMul S (.dat (.int (x % 2147483647))) (.dat (.int y)) = some (.dat (.int (x % 2147483647 * y))) := fun _ _ _ => mul_l (by omega)
  have dv1 : ∀ (S : Store) (x : Int), aDiv S (.dat (.int x)) (.dat (.int 1009)) = some (.dat (.int (x / 1009))) := fun _ _ => div_ii (by decide) (by decide)
  have dv2 : ∀ (S : Store) (x : Int), aDiv S (.dat (.int x)) (.dat (.int 2003)) = some (.dat (.int (x / 2003))) := fun _ _ => div_ii (by decide) (by decide)
  have dv3 : ∀ (S : Store) (x : Int), aDiv S (.dat (.int x)) (.dat (.int 16)) = some (.dat (.int (x / 16))) := fun _ _ => div_ii (by decide) (by decide)
  have md0 : ∀ (S : Store) (x : Int), aMod S (.dat (.int x)) (.dat (.int 2147483629)) = some (.dat (.int (x % 2147483629))) := fun _ _ => mod_ii (by decide)
  have md1 : ∀ (S : Store) (x : Int), aMod S (.dat (.int x)) (.dat (.int 2147483647)) = some (.dat (.int (x % 2147483647))) := fun _ _ => mod_ii (by decide)
  have md2 : ∀ (S : Store) (x : Int), aMod S (.dat (.int x)) (.dat (.int 2147483399)) = some (.dat (.int (x % 2147483399))) := fun _ _ => mod_ii (by decide)
  unfold m_L_draw hdO
  by_cases hb : b = 0
  · subst hb
    by_cases hi : i < (ns.length : Int)
    · have dh : decide (i < (ns.length : Int)) = true := decide_eq_true hi
      obtain ⟨cell, ec⟩ : ∃ cell, ns[i.toNat]? = some cell := ⟨_, List.getElem?_eq_getElem (by omega)⟩
      have ec2 : ∀ S, aIx S (.dat (.lst (ns.map .int))) (.dat (.int i)) = some (.dat (.int cell)) := fun S => ix_l (atI_of i0 (map_get ec))
      by_cases hc : 1000000000000000000 ≤ cell
      · have d2 : decide (0 < cell) = true := decide_eq_true (by omega)
        refine ⟨?x1, hdO ns ?a1 ?b1 ?c1 ?d1, ?h1, ?run1⟩
        case run1 =>
          dsimp! [ix, a0, a1, a2, a3, a4, t1, t2, t3, t4, mod_ii n0, div_ii n0 (show n < 2 ^ 64 by omega), List.length_map, dh, ec2, pw, mr0, mr2, md0, decide_eq_true hc, d2]
          rfl
        case h1 => exact ⟨_, _, _, _, _, rfl, by omega, Int.ediv_nonneg (by omega) (by omega), by omega, by omega⟩
      · refine ⟨?x2, hdO ns ?a2 ?b2 ?c2 ?d2, ?h2, ?run2⟩
        case run2 =>
          dsimp! [ix, a0, a1, a2, a3, a4, t1, t2, t3, t4, mod_ii n0, List.length_map, dh, ec2, pw, decide_eq_false hc, mr0, mr1, mr2, ml1, mm, dv1, dv2, dv3, md0, md1, md2]
          rfl
        case h2 => exact ⟨_, _, _, _, _, rfl, by omega, by omega, by omega, by omega⟩
    · have dh : decide (i < (ns.length : Int)) = false := decide_eq_false hi
      refine ⟨?x3, hdO ns ?a3 ?b3 ?c3 ?d3, ?h3, ?run3⟩
      case run3 =>
        dsimp! [ix, a0, a1, a2, a3, a4, t1, t2, t3, t4, mod_ii n0, List.length_map, dh, pw, mr1, mr2, ml1, mm, dv1, dv2, dv3, md1, md2]
        rfl
      case h3 => exact ⟨_, _, _, _, _, rfl, by omega, by omega, by omega, by omega⟩
  · have d1 : decide (b = 0) = false := decide_eq_false hb
    have d2 : decide (0 < b) = true := decide_eq_true (by omega)
    refine ⟨b, hdO ns i (b / n) s c, ⟨_, _, _, _, _, rfl, i0, Int.ediv_nonneg b0 (by omega), s0, s1⟩, ?_⟩
    unfold hdO
    dsimp! [ix, a0, a1, a2, a3, a4, t1, t2, t3, t4, d1, d2, mod_ii n0, div_ii n0 (show n < 2 ^ 64 by omega)]
/-- closed stores behind the hand -/
def Cs (rest : Store) : Prop := ∀ (j : Nat) (w : O), rest[j]? = some w → O.lt (rest.length + 1) w = true
theorem cs_nil : Cs [] := fun j w e => by simp at e
theorem cs_hand {h : O} {rest : Store} (H : Hd h) (hc : Cs rest) : ∀ (j : Nat) (w : O), (h :: rest)[j]? = some w → O.lt (h :: rest).length w = true := fun j w e => by
  cases j with
  | zero => cases e; exact hd_lt H _
  | succ j => exact hc j w e
theorem draw_s (g : G) {h : O} {rest : Store} {n : Int} (H : Hd h) (n0 : 0 < n) (n1 : n < 2 ^ 60) (hc : Cs rest) : ∃ (r : Nat) (h' : O), (r : Int) < n ∧ Hd h' ∧ mScope (m_L_draw g) [.obj 0, .dat (.int n)] (h :: rest) = .ok (.dat (.int (r : Int))) (h' :: rest) := by
  obtain ⟨r, h', a, b, e⟩ := draw_h g H n0 n1 (rest := rest)
  exact ⟨r, h', a, b, scope_g (t := []) (by rw [List.append_nil]; exact e) rfl (cs_hand b hc)⟩
theorem hand_a (g : G) (ns : List Int) : ∃ h, Hd h ∧ m_L_hand g [.dat (.scr ns)] [] = .ok (.obj 0) [h] := by
  have lx : (ns.take 63).length ≤ 63 := by rw [List.length_take]; omega
  have sl : ∀ S : Store, aSl S (.dat (.scr ns)) none (some 63) = some (.dat (.lst ((ns.take 63).map .int))) := fun S => by
    show some (D.dat (.lst ((cutL ns none (some ((63 : Nat) : Int))).map .int))) = _
    rw [cut_take]
  obtain ⟨ms', hms⟩ : ∃ ms' : List Int, ms' = (ns.take 63).map fun i => (i.natAbs : Int) := ⟨_, rfl⟩
  refine ⟨hdO ms' 0 0 (1 + (ms'.length : Int)) 0, ⟨_, _, _, _, _, rfl, by omega, by omega, by omega, by rw [hms, List.length_map]; omega⟩, ?_⟩
  have ab : ∀ (S : Store) (i : Int), aAbs S [.dat (.int i)] = some (.dat (.int (i.natAbs : Int))) := fun _ i => by
    show some (D.dat (.int (if i < 0 then -i else i))) = _
    have : (if i < 0 then -i else i) = (i.natAbs : Int) := by split <;> omega
    rw [this]
  have lc : mLc (mWalk (mSl (mVar 0) moN (moS (mC (.int 63))))) (gmName 2) mYes (mCall aAbs (mCons (mCall aInt (mCons (mVar 2) mNil)) mNil)) [2] [some (.dat (.scr ns)), none, none] [] = .ok ((ms'.map P.int).map .dat) [] := by
    rw [lc_all (xs := ns.take 63) (fun i => .dat (.int i)) (fun i => .int (i.natAbs : Int)) (by rw [walk_l (l := (ns.take 63).map .int) (S1 := []) (by unfold mSl moN moS; dsimp! [sl]), List.map_map]; rfl) (by omega) fun i m => ⟨_, rfl, rfl, by dsimp! [ab]⟩]
    rw [hms, List.map_map (f := fun i : Int => (i.natAbs : Int))]
    rfl
  unfold m_L_hand
  dsimp! [lc, List.length_map]
  rfl
end W3
namespace W3
open PySem PySem.Spec PyProof.Rows L2 M3
/-! ### a drawn history -/
def HS (h : O) (ds : List HD) (th : List Nat) : Store := [h, .lst ((ds.map HD.p).map .dat), .lst ((th.map nv).map .dat)]
theorem hs_cs (ds : List HD) (th : List Nat) : Cs [.lst ((ds.map HD.p).map .dat), .lst ((th.map nv).map .dat)] := fun j w e => by
  have al : ∀ (n : Nat) (l : List P), O.lt n (.lst (l.map .dat)) = true := fun n l => by
    show List.all _ _ = true
    rw [List.all_map]
    exact List.all_eq_true.mpr fun _ _ => rfl
  rcases j with _ | _ | j
  · cases e; exact al _ _
  · cases e; exact al _ _
  · simp at e
theorem er_map {α β : Type} (f : α → β) : ∀ (l : List α) (i : Nat), (l.map f).eraseIdx i = (l.eraseIdx i).map f
  | [], _ => rfl
  | _ :: _, 0 => rfl
  | a :: l, i + 1 => by rw [List.map_cons, List.eraseIdx_cons_succ, List.eraseIdx_cons_succ, List.map_cons, er_map f l i]
theorem erase_at {th : List Nat} (nd : th.Nodup) {j : Nat} (hj : j < th.length) : th.eraseIdx j = th.erase th[j] := by
  rw [List.erase_eq_eraseIdx_of_idxOf (i := j) (nd.idxOf_getElem j hj)]
theorem hist_s (g : G) {h : O} (H : Hd h) : ∃ (n : Nat) (ds : List HD) (h' : O), OkH n ds ∧ 1 ≤ n ∧ n ≤ 24 ∧ ds.length ≤ 60 ∧ Hd h' ∧ mScope (m_L_history g) [.obj 0] [h] = .ok (.dat (.tup [.int (n : Int), .tup (ds.map HD.p)])) [h'] := by
  suffices z : ∃ d S', m_L_history g [.obj 0] [h] = .ok d S' ∧ ∃ (n : Nat) (ds : List HD) (h' : O) (t : Store), OkH n ds ∧ 1 ≤ n ∧ n ≤ 24 ∧ ds.length ≤ 60 ∧ Hd h' ∧ d = .dat (.tup [.int (n : Int), .tup (ds.map HD.p)]) ∧ S' = [h'] ++ t by
    obtain ⟨d, S', e, n, ds, h', t, ok, n1, n24, l60, H', rfl, rfl⟩ := z
    exact ⟨n, ds, h', ok, n1, n24, l60, H', scope_g e rfl (cs_hand H' cs_nil)⟩
  obtain ⟨k, h1, hk, H1, e1⟩ := draw_s g H (n := 7) (by omega) (by omega) cs_nil
  obtain ⟨n, en, n1, n24⟩ : ∃ n : Nat, ([.int 1, .int 2, .int 3, .int 4, .int 5, .int 7, .int 24] : List P)[k]? = some (.int (n : Int)) ∧ 1 ≤ n ∧ n ≤ 24 := by
    rcases k with _ | _ | _ | _ | _ | _ | _ | k
    · exact ⟨1, rfl, by omega, by omega⟩
    · exact ⟨2, rfl, by omega, by omega⟩
    · exact ⟨3, rfl, by omega, by omega⟩
    · exact ⟨4, rfl, by omega, by omega⟩
    · exact ⟨5, rfl, by omega, by omega⟩
    · exact ⟨7, rfl, by omega, by omega⟩
    · exact ⟨24, rfl, by omega, by omega⟩
    · omega
  have ix1 : ∀ S : Store, aIx S (.dat (.lst [.int 1, .int 2, .int 3, .int 4, .int 5, .int 7, .int 24])) (.dat (.int (k : Int))) = some (.dat (.int (n : Int))) := fun S => ix_l (atN en)
  have c0 := hs_cs [] []
  obtain ⟨j, h2, hj, H2, e2⟩ := draw_s g H1 (n := 4) (by omega) (by omega) c0
  obtain ⟨m, em, m1, m61⟩ : ∃ m : Nat, ([.int 9, .int 20, .int 30, .int 61] : List P)[j]? = some (.int (m : Int)) ∧ 1 ≤ m ∧ m ≤ 61 := by
    rcases j with _ | _ | _ | _ | j
    · exact ⟨9, rfl, by omega, by omega⟩
    · exact ⟨20, rfl, by omega, by omega⟩
    · exact ⟨30, rfl, by omega, by omega⟩
    · exact ⟨61, rfl, by omega, by omega⟩
    · omega
  have ix2 : ∀ S : Store, aIx S (.dat (.lst [.int 9, .int 20, .int 30, .int 61])) (.dat (.int (j : Int))) = some (.dat (.int (m : Int))) := fun S => ix_l (atN em)
  obtain ⟨r, h3, hr, H3, e3⟩ := draw_s g H2 (n := (m : Int)) (by omega) (by omega) c0
  have e2' : mScope (m_L_draw g) [.obj 0, .dat (.int 4)] [h1, .lst [], .lst []] = .ok (.dat (.int (j : Int))) [h2, .lst [], .lst []] := e2
  have e3' : mScope (m_L_draw g) [.obj 0, .dat (.int (m : Int))] [h2, .lst [], .lst []] = .ok (.dat (.int (r : Int))) [h3, .lst [], .lst []] := e3
  have l7 : (7 : Nat) ≤ 100000 := by decide
  have l4 : (4 : Nat) ≤ 100000 := by decide
  have l3 : (3 : Nat) ≤ 100000 := by decide
  have l2 : (2 : Nat) ≤ 100000 := by decide
  unfold m_L_history
  rw [mBody_fin]
  refine fin_ends ?_
  dsimp! [l7, e1, ix1]
  rw [for_items (rng1_ok (n := r) (S1 := [h3, .lst [], .lst []]) (by dsimp! [l4, e2', ix2, e3'] <;> rfl) (by omega))]
  refine then_ends (Q1 := fun o S => ∃ (ds : List HD) (h : O) (x5 x6 x7 x8 : Option D), o = .nx [some (.obj 0), some (.dat (.int (n : Int))), some (.obj 1), some (.obj 2), some (.dat (.int ((tst ds).c : Int))), x5, x6, x7, x8] ∧ S = HS h ds (tst ds).th ∧ Hd h ∧ OkH n ds ∧ ds.length = r) ?_ ?_
  · refine forL_ends (fun i δ S => ∃ (ds : List HD) (h : O) (x5 x6 x7 x8 : Option D), δ = [some (.obj 0), some (.dat (.int (n : Int))), some (.obj 1), some (.obj 2), some (.dat (.int ((tst ds).c : Int))), x5, x6, x7, x8] ∧ S = HS h ds (tst ds).th ∧ Hd h ∧ OkH n ds ∧ ds.length = i) (i := 0) ⟨[], h3, _, _, _, _, rfl, rfl, H3, OkH.nil, rfl⟩ ?_ ?_
    · clear e1 e2 e3 e2' e3' H H1 H2 H3
      rintro i d δ S hd ⟨ds, h, x5, x6, x7, x8, rfl, rfl, H, ok, ld⟩
      obtain ⟨hi, rfl⟩ := rngD_get hd
      rw [Nat.zero_add] at ld ⊢
      have rn := ok.rn
      have nd := rn.nd
      have tl := W2.nodup_len nd rn.th
      have c32 := rn.c32
      have cs := hs_cs ds (tst ds).th
      obtain ⟨q, h1, hq, H1, e1⟩ := draw_s g H (n := 7) (by omega) (by omega) cs
      obtain ⟨a, h2, ha, H2, e2⟩ := draw_s g H1 (n := (n : Int)) (by omega) (by omega) cs
      obtain ⟨b, h3, hb, H3, e3⟩ := draw_s g H2 (n := (n : Int)) (by omega) (by omega) cs
      have e1 : mScope (m_L_draw g) [.obj 0, .dat (.int 7)] (HS h ds (tst ds).th) = .ok (.dat (.int (q : Int))) (HS h1 ds (tst ds).th) := e1
      have e2 : mScope (m_L_draw g) [.obj 0, .dat (.int (n : Int))] (HS h1 ds (tst ds).th) = .ok (.dat (.int (a : Int))) (HS h2 ds (tst ds).th) := e2
      have e3 : mScope (m_L_draw g) [.obj 0, .dat (.int (n : Int))] (HS h2 ds (tst ds).th) = .ok (.dat (.int (b : Int))) (HS h3 ds (tst ds).th) := e3
      have k1 : ∀ h ds th, isKind "list" (HS h ds th) (.obj 1) = true := fun h ds th => kind_o (S := HS h ds th) rfl
      have k2 : ∀ h ds th, isKind "list" (HS h ds th) (.obj 2) = true := fun h ds th => kind_o (S := HS h ds th) rfl
      have ap1 : ∀ h th (d : HD), updL fAppend (.obj 1) [.dat d.p] (HS h ds th) = .ok (.dat .non) (HS h (ds ++ [d]) th) := fun h th d => by
        rw [app_o (S := HS h ds th) (l := (ds.map HD.p).map .dat) rfl (by simp; omega)]
        unfold HS
        rw [List.map_append, List.map_append]
        rfl
      have step : ∀ (d : HD) (h : O) (x5 x6 x7 x8 : Option D), Hd h → okH n (tst ds) d → ∃ (ds' : List HD) (h' : O) (y5 y6 y7 y8 : Option D), [some (.obj 0), some (.dat (.int (n : Int))), some (.obj 1), some (.obj 2), some (.dat (.int ((stepT (tst ds) d).c : Int))), x5, x6, x7, x8] = [some (D.obj 0), some (.dat (.int (n : Int))), some (.obj 1), some (.obj 2), some (.dat (.int ((tst ds').c : Int))), y5, y6, y7, y8] ∧ HS h (ds ++ [d]) (stepT (tst ds) d).th = HS h' ds' (tst ds').th ∧ Hd h' ∧ OkH n ds' ∧ ds'.length = i + 1 := fun d h x5 x6 x7 x8 H o =>
        ⟨ds ++ [d], h, x5, x6, x7, x8, by rw [tst_snoc], by rw [tst_snoc], H, ok.snoc o, by rw [List.length_append, ld]; rfl⟩
      have ask : ∀ x5 x6 x7 x8, ∃ (ds' : List HD) (h' : O) (y5 y6 y7 y8 : Option D), [some (D.obj 0), some (.dat (.int (n : Int))), some (.obj 1), some (.obj 2), some (.dat (.int ((tst ds).c : Int))), x5, x6, x7, x8] = [some (D.obj 0), some (.dat (.int (n : Int))), some (.obj 1), some (.obj 2), some (.dat (.int ((tst ds').c : Int))), y5, y6, y7, y8] ∧ HS h3 (ds ++ [.ask a b]) (tst ds).th = HS h' ds' (tst ds').th ∧ Hd h' ∧ OkH n ds' ∧ ds'.length = i + 1 := fun x5 x6 x7 x8 => step (.ask a b) h3 x5 x6 x7 x8 H3 ⟨by omega, by omega⟩
      have apA : ∀ h th, updL fAppend (.obj 1) [.dat (.tup [.str "ask", .int (a : Int), .int (b : Int)])] (HS h ds th) = .ok (.dat .non) (HS h (ds ++ [.ask a b]) th) := fun h th => ap1 h th (.ask a b)
      have ln : ∀ h, aLen (HS h ds (tst ds).th) [.obj 2] = some (.dat (.int ((tst ds).th.length : Int))) := fun h => by
        rw [len_o (S := HS h ds (tst ds).th) rfl, List.length_map, List.length_map]
      have ap2 : ∀ h ds', updL fAppend (.obj 2) [.dat (.int ((tst ds).c : Int))] (HS h ds' (tst ds).th) = .ok (.dat .non) (HS h ds' ((tst ds).th ++ [(tst ds).c])) := fun h ds' => by
        rw [app_o (S := HS h ds' (tst ds).th) (l := ((tst ds).th.map nv).map .dat) rfl (by simp; omega)]
        unfold HS
        rw [List.map_append, List.map_append]
        rfl
      have apC : ∀ h th, updL fAppend (.obj 1) [.dat (.tup [.str "come", .int (a : Int), .int (b : Int)])] (HS h ds th) = .ok (.dat .non) (HS h (ds ++ [.come a b]) th) := fun h th => ap1 h th (.come a b)
      have ec : ((tst ds).c : Int) + 1 = (((tst ds).c + 1 : Nat) : Int) := by omega
      have nab : ∀ S : Store, aNe S (.dat (.int (a : Int))) (.dat (.int (b : Int))) = some (.dat (.bl (!decide ((a : Int) = (b : Int))))) := fun _ => rfl
      have goF : 0 < (tst ds).th.length → ∃ (j : Nat) (h4 : O), Hd h4 ∧ okH n (tst ds) (.go j) ∧ ∃ v : Nat, mScope (m_L_draw g) [.obj 0, .dat (.int ((tst ds).th.length : Int))] (HS h3 ds (tst ds).th) = .ok (.dat (.int (v : Int))) (HS h4 ds (tst ds).th) ∧ updL fPopAt (.obj 2) [.dat (.int (v : Int))] (HS h4 ds (tst ds).th) = .ok (.dat (nv j)) (HS h4 ds ((tst ds).th.erase j)) ∧ (∀ th, updL fAppend (.obj 1) [.dat (.tup [.str "go", nv j])] (HS h4 ds th) = .ok (.dat .non) (HS h4 (ds ++ [.go j]) th)) := fun lp => by
        obtain ⟨v, h4, hv, H4, e4⟩ := draw_s g H3 (n := ((tst ds).th.length : Int)) (by omega) (by omega) cs
        have hv' : v < (tst ds).th.length := by omega
        refine ⟨(tst ds).th[v], h4, H4, List.getElem_mem hv', v, e4, ?_, fun th => ap1 h4 th (.go (tst ds).th[v])⟩
        have fp : fPopAt (((tst ds).th.map nv).map .dat) [.dat (.int (v : Int))] = some (.dat (nv (tst ds).th[v]), (((tst ds).th.erase (tst ds).th[v]).map nv).map .dat) := by
          have e1 : ixN (((tst ds).th.map nv).map D.dat).length (v : Int) = some v := ixN_nat (by rw [List.length_map, List.length_map]; exact hv')
          show (match ixN (((tst ds).th.map nv).map D.dat).length (v : Int) with
            | some k => if -100000 ≤ (v : Int) ∧ (v : Int) ≤ 100000 then ((((tst ds).th.map nv).map D.dat)[k]?).map fun d => (d, (((tst ds).th.map nv).map D.dat).eraseIdx k) else none
            | none => none) = _
          rw [e1]
          simp only
          rw [if_pos (by omega), List.getElem?_map, List.getElem?_map, List.getElem?_eq_getElem hv', er_map, er_map, erase_at nd hv']
          rfl
        show (match fPopAt (((tst ds).th.map nv).map .dat) [.dat (.int (v : Int))] with
          | some (d, l') => R.ok d ((HS h4 ds (tst ds).th).set 2 (.lst l'))
          | none => .fail) = _
        rw [fp]
        rfl
      unfold mBM
      by_cases c1 : (q : Int) < 3
      · have c5 : (q : Int) < 5 := by omega
        by_cases c2 : (a : Int) = (b : Int)
        · by_cases c4 : ((tst ds).th.length : Int) > 0
          · obtain ⟨w, h4, H4, o4, v, e4, pp, ag⟩ := goF (by omega)
            dsimp! [e1, e2, e3, nab, decide_eq_true c1, decide_eq_true c2, decide_eq_true c5, decide_eq_true c4, ln, k1, k2, e4, pp, l2, ag]
            exact .of (tmH (step (.go w) h4 _ _ _ _ H4 o4))
          · dsimp! [e1, e2, e3, nab, decide_eq_true c1, decide_eq_true c2, decide_eq_true c5, decide_eq_false c4, ln, k1, k2, l3, apA]
            exact .of (tmH (ask _ _ _ _))
        · by_cases c3 : ((tst ds).c : Int) < 32
          · dsimp! [e1, e2, e3, nab, decide_eq_true c1, decide_eq_false c2, decide_eq_true c3, k1, k2, l3, apC, ap2, ec]
            exact .of (tmH (step (.come a b) h3 _ _ _ _ H3 ⟨by omega, by omega, by omega, by omega⟩))
          · by_cases c4 : ((tst ds).th.length : Int) > 0
            · obtain ⟨w, h4, H4, o4, v, e4, pp, ag⟩ := goF (by omega)
              dsimp! [e1, e2, e3, nab, decide_eq_true c1, decide_eq_false c2, decide_eq_false c3, decide_eq_true c5, decide_eq_true c4, ln, k1, k2, e4, pp, l2, ag]
              exact .of (tmH (step (.go w) h4 _ _ _ _ H4 o4))
            · dsimp! [e1, e2, e3, nab, decide_eq_true c1, decide_eq_false c2, decide_eq_false c3, decide_eq_true c5, decide_eq_false c4, ln, k1, k2, l3, apA]
              exact .of (tmH (ask _ _ _ _))
      · by_cases c5 : (q : Int) < 5
        · by_cases c4 : ((tst ds).th.length : Int) > 0
          · obtain ⟨w, h4, H4, o4, v, e4, pp, ag⟩ := goF (by omega)
            dsimp! [e1, e2, e3, nab, decide_eq_false c1, decide_eq_true c5, decide_eq_true c4, ln, k1, k2, e4, pp, l2, ag]
            exact .of (tmH (step (.go w) h4 _ _ _ _ H4 o4))
          · dsimp! [e1, e2, e3, nab, decide_eq_false c1, decide_eq_true c5, decide_eq_false c4, ln, k1, k2, l3, apA]
            exact .of (tmH (ask _ _ _ _))
        · dsimp! [e1, e2, e3, nab, decide_eq_false c1, decide_eq_false c5, ln, k1, k2, l3, apA]
          exact .of (tmH (ask _ _ _ _))
    · rintro δ S ⟨ds, h, x5, x6, x7, x8, rfl, rfl, H, ok, ld⟩
      rw [rngD_len, Nat.zero_add] at ld
      exact ⟨ds, h, x5, x6, x7, x8, rfl, rfl, H, ok, ld⟩
  · rintro o S ⟨ds, h, x5, x6, x7, x8, rfl, rfl, H, ok, ld⟩
    have tp : aTuple (HS h ds (tst ds).th) [.obj 1] = some (.dat (.tup (ds.map HD.p))) := by
      show (listP _ (.obj 1)).map _ = _
      rw [listP_o (S := HS h ds (tst ds).th) (l := ds.map HD.p) rfl]; rfl
    dsimp! [tp, l2]
    exact .of ⟨_, rfl, n, ds, h, _, ok, n1, n24, by omega, H, rfl, rfl⟩
end W3
namespace W3
open PySem PySem.Spec PyProof.Rows L2 M3
/-! ### alike, by the law -/
theorem isiT_of {K : PySem.W.Frag} {CS : List Addr} {S : Store} {x : D} {t : Value} {a b : Bool} (ht : tyD CS S x = some t) (h1 : PySem.W.kitOne K t (.type "tuple") = some a) (h2 : PySem.W.kitOne K t (.type "list") = some b) :
    aIsiT K CS S [x, .dat (.tup [.con (.ty "tuple"), .con (.ty "list")])] = some (.dat (.bl (a || b))) := by
  show (match tyD CS S x, clssD [.con (.ty "tuple"), .con (.ty "list")] with | some t, some us => (PySem.W.kitAny K t us).map dBl | _, _ => none) = _
  rw [ht]
  show (PySem.W.kitAny K t [.type "tuple", .type "list"]).map dBl = _
  unfold PySem.W.kitAny
  rw [h1]
  cases a with
  | true => rfl
  | false =>
    unfold PySem.W.kitAny
    simp only [h2]
    cases b <;> rfl
section
variable {K : PySem.W.Frag} {CS : List Addr} {S : Store}
theorem isiT_non : aIsiT K CS S [.dat .non, .dat (.tup [.con (.ty "tuple"), .con (.ty "list")])] = some (.dat (.bl false)) := isiT_of rfl (kit_ty (r := false) (by decide +kernel)) (kit_ty (r := false) (by decide +kernel))
theorem isiT_int {i : Int} : aIsiT K CS S [.dat (.int i), .dat (.tup [.con (.ty "tuple"), .con (.ty "list")])] = some (.dat (.bl false)) := isiT_of rfl (kit_ty (r := false) (by decide +kernel)) (kit_ty (r := false) (by decide +kernel))
theorem isiT_bl {i : Bool} : aIsiT K CS S [.dat (.bl i), .dat (.tup [.con (.ty "tuple"), .con (.ty "list")])] = some (.dat (.bl false)) := isiT_of rfl (kit_ty (r := false) (by decide +kernel)) (kit_ty (r := false) (by decide +kernel))
theorem isiT_str {i : Str} : aIsiT K CS S [.dat (.str i), .dat (.tup [.con (.ty "tuple"), .con (.ty "list")])] = some (.dat (.bl false)) := isiT_of rfl (kit_ty (r := false) (by decide +kernel)) (kit_ty (r := false) (by decide +kernel))
theorem isiT_tup {i : List P} : aIsiT K CS S [.dat (.tup i), .dat (.tup [.con (.ty "tuple"), .con (.ty "list")])] = some (.dat (.bl true)) := isiT_of rfl (kit_ty (r := true) (by decide +kernel)) (kit_ty (r := false) (by decide +kernel))
theorem isiT_lst {i : List P} : aIsiT K CS S [.dat (.lst i), .dat (.tup [.con (.ty "tuple"), .con (.ty "list")])] = some (.dat (.bl true)) := isiT_of rfl (kit_ty (r := false) (by decide +kernel)) (kit_ty (r := true) (by decide +kernel))
theorem eq_non {S : Store} : aEq S (.dat .non) (.dat .non) = some (.dat (.bl true)) := rfl
end
inductive OkI : Nat → P → Prop
  | non {d : Nat} : OkI (d + 1) .non
  | int {d : Nat} {i : Int} : OkI (d + 1) (.int i)
  | bl {d : Nat} {b : Bool} : OkI (d + 1) (.bl b)
  | str {d : Nat} {z : Str} : OkI (d + 1) (.str z)
  | tup {d : Nat} {l : List P} : l.length ≤ 100000 → (∀ p ∈ l, OkI d p) → OkI (d + 1) (.tup l)
  | lst {d : Nat} {l : List P} : l.length ≤ 100000 → (∀ p ∈ l, OkI d p) → OkI (d + 1) (.lst l)
theorem is_t (g : G) : ∀ (d : Nat) (p : P) (S : Store), OkI d p → mPure (m_L_is g d) [.dat p, .dat p] S = .ok (.dat (.bl true)) S := by
  intro d
  induction d with
  | zero => intro p S h; cases h
  | succ d ih =>
    intro p S h
    refine pure_dat rfl (S' := []) ?_
    have o2 : (2 : Nat) ≤ 100000 := by decide
    have dt : ∀ b : Bool, decide (b = b) = true := fun b => decide_eq_true rfl
    unfold m_L_is
    cases h with
    | non => dsimp! [o2, isiT_non, dt, eq_non]
    | @int _ i =>
      have ei : decide (i = i) = true := decide_eq_true rfl
      dsimp! [o2, isiT_int, dt, ei]
    | @bl _ b => dsimp! [o2, isiT_bl, dt]
    | @str _ z =>
      have ez : decide (z = z) = true := decide_eq_true rfl
      dsimp! [o2, isiT_str, dt, ez]
    | @tup _ l hl ho =>
      have ez : mZip (mCons (mVar 0) (mCons (mVar 1) mNil)) [some (.dat (.tup l)), some (.dat (.tup l)), none, none] [] = .ok (.items ((l.zip l).map fun z => .dat (.tup [z.1, z.2]))) [] := by
        unfold mZip
        dsimp! []
        rfl
      have lc : mLc (mZip (mCons (mVar 0) (mCons (mVar 1) mNil))) (gmTup 2 (gmCons (gmName 2) (gmCons (gmName 3) gmNil))) mYes (mDef 2 (mPure (m_L_is g d)) (mCons (mVar 2) (mCons (mVar 3) mNil))) [2, 3] [some (.dat (.tup l)), some (.dat (.tup l)), none, none] [] = .ok (((l.zip l).map fun _ => P.bl true).map .dat) [] :=
        lc_all (xs := l.zip l) (fun z => .dat (.tup [z.1, z.2])) (fun _ => .bl true) ez (by rw [List.length_zip]; omega) fun z m => ⟨_, by dsimp! [] <;> rfl, rfl, by
          obtain ⟨i, hi⟩ := List.getElem?_of_mem m
          obtain ⟨a, b⟩ := List.getElem?_zip_eq_some.mp hi
          rw [a] at b
          have : z.1 = z.2 := Option.some.inj b
          rw [← this]
          dsimp! [ih z.1 [] (ho z.1 (List.mem_of_getElem? a))]⟩
      have aw : aAll ([] : Store) [.dat (.lst ((l.zip l).map fun _ => P.bl true))] = some (.dat (.bl true)) := by
        rw [show (l.zip l).map (fun _ => P.bl true) = ((l.zip l).map fun _ => true).map .bl by rw [List.map_map]; rfl, all_lst]; simp
      have el : decide ((l.length : Int) = (l.length : Int)) = true := decide_eq_true rfl
      dsimp! [o2, isiT_tup, dt, lc, aw, el]
    | @lst _ l hl ho =>
      have ez : mZip (mCons (mVar 0) (mCons (mVar 1) mNil)) [some (.dat (.lst l)), some (.dat (.lst l)), none, none] [] = .ok (.items ((l.zip l).map fun z => .dat (.tup [z.1, z.2]))) [] := by
        unfold mZip
        dsimp! []
        rfl
      have lc : mLc (mZip (mCons (mVar 0) (mCons (mVar 1) mNil))) (gmTup 2 (gmCons (gmName 2) (gmCons (gmName 3) gmNil))) mYes (mDef 2 (mPure (m_L_is g d)) (mCons (mVar 2) (mCons (mVar 3) mNil))) [2, 3] [some (.dat (.lst l)), some (.dat (.lst l)), none, none] [] = .ok (((l.zip l).map fun _ => P.bl true).map .dat) [] :=
        lc_all (xs := l.zip l) (fun z => .dat (.tup [z.1, z.2])) (fun _ => .bl true) ez (by rw [List.length_zip]; omega) fun z m => ⟨_, by dsimp! [] <;> rfl, rfl, by
          obtain ⟨i, hi⟩ := List.getElem?_of_mem m
          obtain ⟨a, b⟩ := List.getElem?_zip_eq_some.mp hi
          rw [a] at b
          have : z.1 = z.2 := Option.some.inj b
          rw [← this]
          dsimp! [ih z.1 [] (ho z.1 (List.mem_of_getElem? a))]⟩
      have aw : aAll ([] : Store) [.dat (.lst ((l.zip l).map fun _ => P.bl true))] = some (.dat (.bl true)) := by
        rw [show (l.zip l).map (fun _ => P.bl true) = ((l.zip l).map fun _ => true).map .bl by rw [List.map_map]; rfl, all_lst]; simp
      have el : decide ((l.length : Int) = (l.length : Int)) = true := decide_eq_true rfl
      dsimp! [o2, isiT_lst, dt, lc, aw, el]
end W3
namespace W3
open PySem PySem.Spec PyProof.Rows L2 M3
theorem ok_ansF {n a b d : Nat} : ∀ (l pre : List Sp), OkI (d + 1) (ansF n a b pre l)
  | [], _ => .int
  | x :: l, pre => by
    unfold ansF
    split
    · cases x.gn with
      | none => exact .non
      | some k => exact .int
    · exact ok_ansF l _
theorem ix_four {ds : List HD} {k r1 r2 r3 : Nat} (hk : k < 2) (h1 : r1 ≤ ds.length) (h2 : r2 ≤ ds.length) (h3 : r3 < 2) : ∃ t : Nat, t ≤ ds.length ∧ ∀ S : Store, aIx S (.dat (.lst [.int (ds.length : Int), .int 0, .int (r1 : Int), .int (r2 : Int)])) (.dat (.int (2 * (k : Int) + (r3 : Int)))) = some (.dat (.int (t : Int))) := by
  match k, r3, hk, h3 with
  | 0, 0, _, _ => exact ⟨ds.length, Nat.le_refl _, fun S => rfl⟩
  | 0, 1, _, _ => exact ⟨0, Nat.zero_le _, fun S => rfl⟩
  | 1, 0, _, _ => exact ⟨r1, h1, fun S => rfl⟩
  | 1, 1, _, _ => exact ⟨r2, h2, fun S => rfl⟩
theorem law_true (g : G) (X : Gx g) : ∀ ns : List Int, ns.length ≤ 63 → ∃ S, m_law g [.dat (.scr ns)] [] = .ok (.dat (.bl true)) S := by
  intro ns _
  obtain ⟨h0, H0, e0⟩ := hand_a g ns
  obtain ⟨n, ds, h1, ok, n1, n24, l60, H1, e1⟩ := hist_s g H0
  have rn := ok.rn
  have l32 : (spans ds).length ≤ 32 := by rw [rn.len]; exact rn.c32
  have mk := fun S => made_h X ok n1 n24 l60 S
  have ll := fun S => L_lives_t (g := g) ok S
  have two : ([.int (n : Int), .tup (ds.map HD.p)] : List P).length = 2 := rfl
  have l4 : (4 : Nat) ≤ 100000 := by decide
  have l1 : (1 : Nat) ≤ 100000 := by decide
  have e1' : ((ds.length : Nat) : Int) + 1 = ((ds.length + 1 : Nat) : Int) := by omega
  suffices z : ∃ d S', m_law g [.dat (.scr ns)] [] = .ok d S' ∧ d = .dat (.bl true) by
    obtain ⟨d, S', e, rfl⟩ := z
    exact ⟨S', e⟩
  unfold m_law
  rw [mBody_fin]
  refine fin_ends ?_
  dsimp! [e0, e1, two, mk, ll]
  rw [for_items (rng0_ok (n := 2) (by dsimp! [] <;> rfl) (by decide))]
  refine then_ends (Q1 := fun o S => ∃ δ, o = .nx δ) ?_ ?_
  · refine forL_ends (fun i δ S => ∃ (h : O) (x6 x7 x8 x9 x10 x11 : Option D), Hd h ∧ S = [h] ∧ δ = [some (.dat (.scr ns)), some (.obj 0), some (.dat (.int (n : Int))), some (.dat (.tup (ds.map HD.p))), some (.dat (histP g n ds)), some (.dat (.lst ((spans ds).map fourP))), x6, x7, x8, x9, x10, x11]) (i := 0) ⟨h1, _, _, _, _, _, _, H1, rfl, rfl⟩ ?_ ?_
    · rintro i d δ S ed ⟨h, x6, x7, x8, x9, x10, x11, H, rfl, rfl⟩
      have hi := (List.getElem?_eq_some_iff.mp ed).1
      rw [List.length_map, List.length_range] at hi
      rw [List.getElem?_map, List.getElem?_range hi] at ed
      cases ed
      have lb : ((ds.length + 1 : Nat) : Int) < 2 ^ 60 := by
        have : (2 : Int) ^ 60 = 1152921504606846976 := by decide
        omega
      obtain ⟨r1, h2, q1, H2, d1⟩ := draw_s g (rest := []) (n := ((ds.length + 1 : Nat) : Int)) H (by omega) lb cs_nil
      obtain ⟨r2, h3, q2, H3, d2⟩ := draw_s g (rest := []) (n := ((ds.length + 1 : Nat) : Int)) H2 (by omega) lb cs_nil
      obtain ⟨r3, h4, q3, H4, d3⟩ := draw_s g (rest := []) (n := 2) H3 (by omega) (by decide) cs_nil
      obtain ⟨t, ht, it⟩ := ix_four (ds := ds) (k := i) (r1 := r1) (r2 := r2) (r3 := r3) hi (by omega) (by omega) (by omega)
      have lt := fun S => L_there_t g l32 t S
      have kp := fun S => kept_t X ok n24 ht S
      have K : TOk ds (trN (spans ds) t (spans ds).length) := tok_tr
      have lT : (trN (spans ds) t (spans ds).length).length ≤ 32 := Nat.le_trans trN_len l32
      have hin : InN n ((trN (spans ds) t (spans ds).length).map Prod.snd) := fun x m => by
        obtain ⟨z, mz, rfl⟩ := List.mem_map.mp m
        have := rn.sp z.2 (trN_mem mz).1
        exact ⟨this.1, this.2.1⟩
      have lo := fun S => L_longest_t g K hin n24 l60 lT S
      have tl := fun {a b : Nat} (ha : a < n) (hb : b < n) S => till_t X ok n24 ht ha hb S
      have ltl := fun {a b : Nat} (ha : a < n) (hb : b < n) S => L_till_t g K hin n24 l60 lT ha hb S
      have lk : (keptT n (ordT (trN (spans ds) t (spans ds).length))).length ≤ 32 := Nat.le_trans (kept_len _) (by rw [(ord_perm _).length_eq]; exact lT)
      generalize trN (spans ds) t (spans ds).length = T at lt kp K lT hin lo tl ltl lk
      generalize keptT n (ordT T) = F at kp lo lk
      have is1 := fun S => is_t g 60 (.tup (sortP false (F.map fun z => nv z.1))) S (.tup (by
        rw [(sort_perm false _).length_eq, List.length_map]; omega) fun p m => by
        obtain ⟨z, _, rfl⟩ := List.mem_map.mp ((sort_perm false _).mem_iff.mp m)
        exact .int)
      have mu : ∀ S : Store, aMul S (.dat (.int 2)) (.dat (nv i)) = some (.dat (.int (2 * (i : Int)))) := fun S => by
        match i, hi with
        | 0, _ => rfl
        | 1, _ => rfl
      have ad : ∀ S : Store, aAdd S (.dat (.int (2 * (i : Int)))) (.dat (.int (r3 : Int))) = some (.dat (.int (2 * (i : Int) + (r3 : Int)))) := fun _ => rfl
      dsimp! [len_t, List.length_map, e1', d1, d2, d3, l4, mu, ad, it, lt, kp, lo, is1]
      rw [for_items (rng0_ok (n := 2) (by dsimp! [] <;> rfl) (by decide))]
      refine Ends.mono (Q := fun o S => ∃ (h : O) (δ : DEnv) (x6 x7 x8 x9 x10 x11 : Option D), o = .nx δ ∧ Hd h ∧ S = [h] ∧ δ = [some (.dat (.scr ns)), some (.obj 0), some (.dat (.int (n : Int))), some (.dat (.tup (ds.map HD.p))), some (.dat (histP g n ds)), some (.dat (.lst ((spans ds).map fourP))), x6, x7, x8, x9, x10, x11]) ?_ (fun o S hq => by
        obtain ⟨h, δ, x6, x7, x8, x9, x10, x11, rfl, a, b, c⟩ := hq
        exact tmH ⟨h, x6, x7, x8, x9, x10, x11, a, b, c⟩)
      refine forL_ends (fun j δ S => ∃ (h : O) (x9 x10 x11 : Option D), Hd h ∧ S = [h] ∧ δ = [some (.dat (.scr ns)), some (.obj 0), some (.dat (.int (n : Int))), some (.dat (.tup (ds.map HD.p))), some (.dat (histP g n ds)), some (.dat (.lst ((spans ds).map fourP))), some (.dat (nv i)), some (.dat (.int (t : Int))), some (.dat (.lst (T.map fun z => nv z.1))), x9, x10, x11]) (i := 0) ⟨h4, _, _, _, H4, rfl, rfl⟩ ?_ ?_
      · rintro j d δ S ed ⟨h, x9, x10, x11, H, rfl, rfl⟩
        have nb : (n : Int) < 2 ^ 60 := by
          have : (2 : Int) ^ 60 = 1152921504606846976 := by decide
          omega
        obtain ⟨a, h5, qa, H5, da⟩ := draw_s g (rest := []) (n := (n : Int)) H (by omega) nb cs_nil
        obtain ⟨b, h6, qb, H6, db⟩ := draw_s g (rest := []) (n := (n : Int)) H5 (by omega) nb cs_nil
        have ha : a < n := by omega
        have hb : b < n := by omega
        have t1 := fun S => tl ha hb S
        have t2 := fun S => ltl ha hb S
        have okv : OkI 59 (if a = b then P.non else ansF n a b [] ((ordT T).map Prod.snd)) := by
          split
          · exact .non
          · exact ok_ansF _ _
        generalize (if a = b then P.non else ansF n a b [] ((ordT T).map Prod.snd)) = v at t1 t2 okv
        have t1 : ∀ S, mPure (m_joined_till g) [.dat (histP g n ds), .dat (.int (t : Int)), .dat (.int (a : Int)), .dat (.int (b : Int))] S = .ok (.dat v) S := t1
        have t2 : ∀ S, mPure (m_L_till g) [.dat (.int (n : Int)), .dat (.lst ((spans ds).map fourP)), .dat (.lst (T.map fun z => nv z.1)), .dat (.int (a : Int)), .dat (.int (b : Int))] S = .ok (.dat v) S := t2
        have is2 := fun S => is_t g 60 (.lst [v]) S (.lst (by simp) fun p m => by
          rw [List.mem_singleton.mp m]; exact okv)
        dsimp! [da, db, t1, t2, l1, is2]
        exact .of (tmH ⟨h6, _, _, _, H6, rfl, rfl⟩)
      · rintro δ S ⟨h, x9, x10, x11, H, rfl, rfl⟩
        exact ⟨h, _, _, _, _, _, _, _, rfl, H, rfl, rfl⟩
    · rintro δ S ⟨h, x6, x7, x8, x9, x10, x11, H, rfl, rfl⟩
      exact ⟨_, rfl⟩
  · rintro o S ⟨δ, rfl⟩
    dsimp! []
    exact .of ⟨_, rfl, rfl⟩
end W3
namespace W3
open PySem PySem.Spec PyProof.Rows L2 M3
theorem def_mk {K : PySem.W.Frag} {h : Heap} {mg : Str → Option Value} (X : K.In h) (G : h.Ns mainGlobals mg) {x : Str} {st : Stmt} {ps : List Str} {f : Addr} {oc : Value} {od an : Option Addr} {osl : Array (Option Value)} {kV doc pm cdv ct : Value}
    (a : PySem.W.nsIn K mainGlobals x = some (some (.ref f))) (l : K.lookup f = some ⟨oc, od, .func (PySem.W.fnOf x x (defArgs st) (defBody st) (defScope st) .none kV doc pm an cdv ct), osl⟩) (c : PySem.W.codeIn K cdv x = true) (k : PySem.W.keepIn K (.ref f) = true)
    (b : ∀ (kV doc pm : Value) (an : Option Addr) (cdv ct : Value) (us : List Value), us.length = ps.length → bindArgs (PySem.W.fnOf x x (defArgs st) (defBody st) (defScope st) .none kV doc pm an cdv ct) ⟨us, []⟩ = pure (ps.zip us)) : M3.Def K mg x st ps :=
  ⟨f, _, fun_mk (st := st) l c k, PySem.W.mg_of X G a, (fun_mk (st := st) l c k).binds b⟩
section
variable {P : Program} {w : World} {g : G} {mg : Str → Option Value} {base : Heap} {f_eNoHouse f_eNoNumber f_eNoMoment f_eBadHistory f_iHistory : Addr}

theorem ok_all (T : Txt mg) (Z : Fx g w mg f_eNoHouse f_eNoNumber f_eNoMoment f_eBadHistory f_iHistory) (GX : Gx g) {fd_History_init : FuncData} (FN_History_init : Fun g.K "__init__" "History.__init__" s_History_init f_iHistory fd_History_init) (B_History_init : Binds g.K fd_History_init ["self", "many", "deeds"] []) {f0 : Addr} {fd0 : FuncData} (FL : Fun g.K "law" "law" s_law f0 fd0) (D_is_integer : M3.Def g.K mg "is_integer" s_is_integer ["thing"]) (D_word_of : M3.Def g.K mg "word_of" s_word_of ["thing"]) (D_lives : M3.Def g.K mg "lives" s_lives ["history"]) (D_with_tie : M3.Def g.K mg "_with_tie" s_with_tie ["labels", "one", "other"]) (D_L_parts_by : M3.Def g.K mg "_law_parts_by" s_L_parts_by ["_law_many", "_law_ties"]) (D_L_hand : M3.Def g.K mg "_law_hand" s_L_hand ["_law_script"]) (D_L_draw : M3.Def g.K mg "_law_draw" s_L_draw ["_law_hand_here", "_law_many"]) (D_L_lives : M3.Def g.K mg "_law_lives" s_L_lives ["_law_deeds"]) (D_L_there : M3.Def g.K mg "_law_there" s_L_there ["_law_spans", "_law_at"]) (D_is_between : M3.Def g.K mg "is_between" s_is_between ["least", "most", "thing"]) (D_is_number : M3.Def g.K mg "is_number" s_is_number ["thing"]) (D_there : M3.Def g.K mg "_there" s_there ["history", "at"]) (D_L_history : M3.Def g.K mg "_law_history" s_L_history ["_law_hand_here"]) (D_L_longest : M3.Def g.K mg "_law_longest" s_L_longest ["_law_many", "_law_spans", "_law_there_here"]) (D_L_till : M3.Def g.K mg "_law_till" s_L_till ["_law_many", "_law_spans", "_law_there_here", "_law_one", "_law_other"]) (D_is_house : M3.Def g.K mg "is_house" s_is_house ["many", "thing"]) (D_need_moment : M3.Def g.K mg "_need_moment" s_need_moment ["history", "thing"]) (D_longest_first : M3.Def g.K mg "_longest_first" s_longest_first ["history", "at"]) (D_is_of : M3.Def g.K mg "_is_of" s_is_of ["many", "part", "kind"]) (D_kept_then : M3.Def g.K mg "kept_then" s_kept_then ["history", "at"]) (D_joined_till : M3.Def g.K mg "joined_till" s_joined_till ["history", "at", "one", "other"]) (D_fit : M3.Def g.K mg "fit" s_fit ["many", "parts", "form"]) (D_can_be_next : M3.Def g.K mg "_can_be_next" s_can_be_next ["many", "came", "there", "thing"]) (D_L_is : M3.Def g.K mg "_law_is" s_L_is ["_law_told", "_law_due"]) : FnOk P w g.K mg base (L2.CX P w) 62 f0 fd0 ["_law_script"] (spLaw g.K) := by
  have C_is_integer := ok_is_integer (P := P) (w := w) (base := base) D_is_integer T Z
  have C_word_of := ok_word_of (P := P) (w := w) (base := base) D_word_of T Z
  have C_lives := ok_lives (P := P) (w := w) (base := base) D_lives T Z
  have C_with_tie := ok_with_tie (P := P) (w := w) (base := base) D_with_tie T Z
  have C_L_parts_by := ok_L_parts_by (P := P) (w := w) (base := base) D_L_parts_by T Z
  have C_L_hand := ok_L_hand (P := P) (w := w) (base := base) D_L_hand T Z
  have C_L_draw := ok_L_draw (P := P) (w := w) (base := base) D_L_draw T Z
  have C_L_lives := ok_L_lives (P := P) (w := w) (base := base) D_L_lives T Z
  have C_L_there := ok_L_there (P := P) (w := w) (base := base) D_L_there T Z
  have C_is_between := ok_is_between (P := P) (w := w) (base := base) D_is_between T Z C_is_integer
  have C_is_number := ok_is_number (P := P) (w := w) (base := base) D_is_number T Z C_is_integer
  have C_there := ok_there (P := P) (w := w) (base := base) D_there T Z C_lives
  have C_L_history := ok_L_history (P := P) (w := w) (base := base) D_L_history T Z C_L_draw
  have C_L_longest := ok_L_longest (P := P) (w := w) (base := base) D_L_longest T Z C_L_parts_by
  have C_L_till := ok_L_till (P := P) (w := w) (base := base) D_L_till T Z C_L_parts_by
  have C_is_house := ok_is_house (P := P) (w := w) (base := base) D_is_house T Z C_is_between
  have C_need_moment := ok_need_moment (P := P) (w := w) (base := base) D_need_moment T Z C_is_between
  have C_longest_first := ok_longest_first (P := P) (w := w) (base := base) D_longest_first T Z C_there C_lives
  have C_is_of := ok_is_of (P := P) (w := w) (base := base) D_is_of T Z C_is_integer C_is_number C_is_house
  have C_kept_then := ok_kept_then (P := P) (w := w) (base := base) D_kept_then T Z C_longest_first C_with_tie C_need_moment
  have C_joined_till := ok_joined_till (P := P) (w := w) (base := base) D_joined_till T Z C_longest_first C_lives C_with_tie C_is_house C_need_moment
  have C_fit := ok_fit (P := P) (w := w) (base := base) D_fit T Z C_is_of
  have C_can_be_next := ok_can_be_next (P := P) (w := w) (base := base) D_can_be_next T Z C_fit C_word_of
  have F_History_init := (ok_History_init (P := P) (w := w) (base := base) FN_History_init T Z C_can_be_next C_is_between)
  have C_L_is := ok_L_is (P := P) (w := w) (base := base) D_L_is T Z 60
  exact (ok_law FL T Z C_L_is C_L_till C_joined_till C_L_draw C_L_longest C_kept_then C_L_there C_L_lives F_History_init B_History_init C_L_history C_L_hand).imp fun vs H Q E h => law_sp (law_true g GX) vs H Q E h
end
theorem walk {l : PySem.W.OpenLaw} {q : Program} {loose : List Str} {XP : (Str → Option Value) → Heap → Prop} {YP : World → Heap → Prop} {d : DefRec} {K : Params → PySem.W.Frag} (hn : l.most = some 63) (hdf : d.params.defaults = [])
    (hY : ∀ (w : World) (h : Heap), YP w h → (K w.params).In h)
    (F : ∀ (w : World) (mg : Str → Option Value) (fa : Addr) (h : Heap), (K w.params).In h → h.Ns mainGlobals mg → mg d.name = some (.ref fa) →
      ∃ fd : FuncData, (∀ (s : Shared) (u : Value), BindsTo s fd ⟨[u], []⟩ [("_law_script", u)]) ∧ ∀ base : Heap, (K w.params).In base → base.Ns mainGlobals mg → FnOk l.prog w (K w.params) mg base (L2.CX l.prog w) 62 fa fd ["_law_script"] (spLaw (K w.params))) :
    PySem.W.WalkO q loose XP YP l.row.toRowW d [] (fun f vs => PySem.call f vs) :=
  L2.walk_of (n := 63) (k := 62) (x := "_law_script") (CX := fun w => L2.CX l.prog w) (sp := fun w => spLaw (K w.params)) hn (by decide) hdf ⟨rfl, by decide, by decide⟩ hY F (fun _ _ a ns hl _ hS => ⟨a, ns, rfl, hS, hl, fun _ => rfl⟩) fun _ _ _ _ _ ⟨_, _, _, _, _, _, _, _, _, _, _, _, z⟩ => z.elim
def mkG (K : PySem.W.Frag) (A_History A_NoHouse A_NoNumber A_NoMoment A_BadHistory A_FORMS : Addr) : G := { K := K, CS := [A_History], FL := [(A_History, ("many" : Str)), (A_History, ("deeds" : Str))], ForestError := 0, BadForest := 0, NoHouse := A_NoHouse, NoDeed := 0, BadDeeds := 0, NoNumber := A_NoNumber, NoAsk := 0, NoShape := 0, NoTurn := 0, BadAccount := 0, NoMoment := A_NoMoment, NoWeight := 0, Full := 0, BadHistory := A_BadHistory, NoParcel := 0, NoRow := 0, BadRow := 0, NoCut := 0, NoBlocks := 0, NoDisk := 0, OtherForest := 0, NoThing := 0, BadThing := 0, BadText := 0, NothingDone := 0, NoLine := 0, NoName := 0, Forest := 0, Stand := 0, Kept := 0, Account := 0, Roads := 0, History := A_History, Disk := 0, SavedKept := 0, Reel := 0, Work := 0, Desk := 0, FORMS := A_FORMS, FLAGS := 0, OF_FORESTS := 0, OF_ACCOUNTS := 0 }
theorem all_mk {P : Program} {w : World} {K : PySem.W.Frag} {h : Heap} {mg : Str → Option Value} {fa A_History A_NoHouse A_NoNumber A_NoMoment A_BadHistory A_FORMS f_eNoHouse f_eNoNumber f_eNoMoment f_eBadHistory f_iHistory f_is_integer f_word_of f_lives f_with_tie f_L_parts_by f_L_hand f_L_draw f_L_lives f_L_there f_is_between f_is_number f_there f_L_history f_L_longest f_L_till f_is_house f_need_moment f_longest_first f_is_of f_kept_then f_joined_till f_fit f_can_be_next f_L_is f_law : Addr} (X : K.In h) (G : h.Ns mainGlobals mg) (hfa : mg "law" = some (.ref fa))
        {od_History_init an_History_init : Option Addr} {sl_History_init : Array (Option Value)} {oc_History_init kV_History_init dc_History_init pm_History_init cd_History_init ct_History_init : Value}
    {od_is_integer an_is_integer : Option Addr} {sl_is_integer : Array (Option Value)} {oc_is_integer kV_is_integer dc_is_integer pm_is_integer cd_is_integer ct_is_integer : Value}
    {od_word_of an_word_of : Option Addr} {sl_word_of : Array (Option Value)} {oc_word_of kV_word_of dc_word_of pm_word_of cd_word_of ct_word_of : Value}
    {od_lives an_lives : Option Addr} {sl_lives : Array (Option Value)} {oc_lives kV_lives dc_lives pm_lives cd_lives ct_lives : Value}
    {od_with_tie an_with_tie : Option Addr} {sl_with_tie : Array (Option Value)} {oc_with_tie kV_with_tie dc_with_tie pm_with_tie cd_with_tie ct_with_tie : Value}
    {od_L_parts_by an_L_parts_by : Option Addr} {sl_L_parts_by : Array (Option Value)} {oc_L_parts_by kV_L_parts_by dc_L_parts_by pm_L_parts_by cd_L_parts_by ct_L_parts_by : Value}
    {od_L_hand an_L_hand : Option Addr} {sl_L_hand : Array (Option Value)} {oc_L_hand kV_L_hand dc_L_hand pm_L_hand cd_L_hand ct_L_hand : Value}
    {od_L_draw an_L_draw : Option Addr} {sl_L_draw : Array (Option Value)} {oc_L_draw kV_L_draw dc_L_draw pm_L_draw cd_L_draw ct_L_draw : Value}
    {od_L_lives an_L_lives : Option Addr} {sl_L_lives : Array (Option Value)} {oc_L_lives kV_L_lives dc_L_lives pm_L_lives cd_L_lives ct_L_lives : Value}
    {od_L_there an_L_there : Option Addr} {sl_L_there : Array (Option Value)} {oc_L_there kV_L_there dc_L_there pm_L_there cd_L_there ct_L_there : Value}
    {od_is_between an_is_between : Option Addr} {sl_is_between : Array (Option Value)} {oc_is_between kV_is_between dc_is_between pm_is_between cd_is_between ct_is_between : Value}
    {od_is_number an_is_number : Option Addr} {sl_is_number : Array (Option Value)} {oc_is_number kV_is_number dc_is_number pm_is_number cd_is_number ct_is_number : Value}
    {od_there an_there : Option Addr} {sl_there : Array (Option Value)} {oc_there kV_there dc_there pm_there cd_there ct_there : Value}
    {od_L_history an_L_history : Option Addr} {sl_L_history : Array (Option Value)} {oc_L_history kV_L_history dc_L_history pm_L_history cd_L_history ct_L_history : Value}
    {od_L_longest an_L_longest : Option Addr} {sl_L_longest : Array (Option Value)} {oc_L_longest kV_L_longest dc_L_longest pm_L_longest cd_L_longest ct_L_longest : Value}
    {od_L_till an_L_till : Option Addr} {sl_L_till : Array (Option Value)} {oc_L_till kV_L_till dc_L_till pm_L_till cd_L_till ct_L_till : Value}
    {od_is_house an_is_house : Option Addr} {sl_is_house : Array (Option Value)} {oc_is_house kV_is_house dc_is_house pm_is_house cd_is_house ct_is_house : Value}
    {od_need_moment an_need_moment : Option Addr} {sl_need_moment : Array (Option Value)} {oc_need_moment kV_need_moment dc_need_moment pm_need_moment cd_need_moment ct_need_moment : Value}
    {od_longest_first an_longest_first : Option Addr} {sl_longest_first : Array (Option Value)} {oc_longest_first kV_longest_first dc_longest_first pm_longest_first cd_longest_first ct_longest_first : Value}
    {od_is_of an_is_of : Option Addr} {sl_is_of : Array (Option Value)} {oc_is_of kV_is_of dc_is_of pm_is_of cd_is_of ct_is_of : Value}
    {od_kept_then an_kept_then : Option Addr} {sl_kept_then : Array (Option Value)} {oc_kept_then kV_kept_then dc_kept_then pm_kept_then cd_kept_then ct_kept_then : Value}
    {od_joined_till an_joined_till : Option Addr} {sl_joined_till : Array (Option Value)} {oc_joined_till kV_joined_till dc_joined_till pm_joined_till cd_joined_till ct_joined_till : Value}
    {od_fit an_fit : Option Addr} {sl_fit : Array (Option Value)} {oc_fit kV_fit dc_fit pm_fit cd_fit ct_fit : Value}
    {od_can_be_next an_can_be_next : Option Addr} {sl_can_be_next : Array (Option Value)} {oc_can_be_next kV_can_be_next dc_can_be_next pm_can_be_next cd_can_be_next ct_can_be_next : Value}
    {od_L_is an_L_is : Option Addr} {sl_L_is : Array (Option Value)} {oc_L_is kV_L_is dc_L_is pm_L_is cd_L_is ct_L_is : Value}
    {od_law an_law : Option Addr} {sl_law : Array (Option Value)} {oc_law kV_law dc_law pm_law cd_law ct_law : Value}
    {nm_NoHouse qn_NoHouse : Str} {N_NoHouse B_NoHouse : Addr} {bs_NoHouse : List Value} {sn_NoHouse : List Str} {su_NoHouse : List Value} {ab_NoHouse : Bool} {co_NoHouse : Option Bool} {dd_NoHouse : Option Addr} {m0_NoHouse m1_NoHouse m2_NoHouse m3_NoHouse m5_NoHouse : Option Value} {odx_NoHouse anx_NoHouse : Option Addr} {slx_NoHouse : Array (Option Value)} {ocx_NoHouse dcx_NoHouse pmx_NoHouse cdx_NoHouse ctx_NoHouse : Value}
    {nm_NoNumber qn_NoNumber : Str} {N_NoNumber B_NoNumber : Addr} {bs_NoNumber : List Value} {sn_NoNumber : List Str} {su_NoNumber : List Value} {ab_NoNumber : Bool} {co_NoNumber : Option Bool} {dd_NoNumber : Option Addr} {m0_NoNumber m1_NoNumber m2_NoNumber m3_NoNumber m5_NoNumber : Option Value} {odx_NoNumber anx_NoNumber : Option Addr} {slx_NoNumber : Array (Option Value)} {ocx_NoNumber dcx_NoNumber pmx_NoNumber cdx_NoNumber ctx_NoNumber : Value}
    {nm_NoMoment qn_NoMoment : Str} {N_NoMoment B_NoMoment : Addr} {bs_NoMoment : List Value} {sn_NoMoment : List Str} {su_NoMoment : List Value} {ab_NoMoment : Bool} {co_NoMoment : Option Bool} {dd_NoMoment : Option Addr} {m0_NoMoment m1_NoMoment m2_NoMoment m3_NoMoment m5_NoMoment : Option Value} {odx_NoMoment anx_NoMoment : Option Addr} {slx_NoMoment : Array (Option Value)} {ocx_NoMoment dcx_NoMoment pmx_NoMoment cdx_NoMoment ctx_NoMoment : Value}
    {nm_BadHistory qn_BadHistory : Str} {N_BadHistory B_BadHistory : Addr} {bs_BadHistory : List Value} {sn_BadHistory : List Str} {su_BadHistory : List Value} {ab_BadHistory : Bool} {co_BadHistory : Option Bool} {dd_BadHistory : Option Addr} {m0_BadHistory m1_BadHistory m2_BadHistory m3_BadHistory m5_BadHistory : Option Value} {odx_BadHistory anx_BadHistory : Option Addr} {slx_BadHistory : Array (Option Value)} {ocx_BadHistory dcx_BadHistory pmx_BadHistory cdx_BadHistory ctx_BadHistory : Value}
    {en0_FORMS en1_FORMS en2_FORMS : DictEntry} {tv0_FORMS tv1_FORMS tv2_FORMS : Addr} {ep_FORMS tn0_FORMS tn1_FORMS tn2_FORMS : Nat} {td0_FORMS td1_FORMS td2_FORMS : Option Addr} {ts0_FORMS ts1_FORMS ts2_FORMS : Array (Option Value)}
    {tt0_0_FORMS tt0_1_FORMS : Tok}
    {tt1_0_FORMS : Tok}
    {tt2_0_FORMS tt2_1_FORMS : Tok}
    {t_MOST_ENDS t_MOST_DEEDS t_MOST_TIES : Tok}
    (aC_History : PySem.W.nsIn K mainGlobals "History" = some (some (.ref A_History)))
    (aE_NoHouse : PySem.W.nsIn K mainGlobals "NoHouse" = some (some (.ref A_NoHouse)))
    (aE_NoNumber : PySem.W.nsIn K mainGlobals "NoNumber" = some (some (.ref A_NoNumber)))
    (aE_NoMoment : PySem.W.nsIn K mainGlobals "NoMoment" = some (some (.ref A_NoMoment)))
    (aE_BadHistory : PySem.W.nsIn K mainGlobals "BadHistory" = some (some (.ref A_BadHistory)))
    (a_History_init : PySem.W.findIn K (.ref A_History) "__init__" = some (some (.ref f_iHistory)))
    (l_History_init : K.lookup f_iHistory = some ⟨oc_History_init, od_History_init, .func (PySem.W.fnOf "__init__" "History.__init__" (defArgs s_History_init) (defBody s_History_init) (defScope s_History_init) .none kV_History_init dc_History_init pm_History_init an_History_init cd_History_init ct_History_init), sl_History_init⟩)
    (c_History_init : PySem.W.codeIn K cd_History_init "History.__init__" = true)
    (k_History_init : PySem.W.keepIn K (.ref f_iHistory) = true)
    (a_is_integer : PySem.W.nsIn K mainGlobals "is_integer" = some (some (.ref f_is_integer)))
    (l_is_integer : K.lookup f_is_integer = some ⟨oc_is_integer, od_is_integer, .func (PySem.W.fnOf "is_integer" "is_integer" (defArgs s_is_integer) (defBody s_is_integer) (defScope s_is_integer) .none kV_is_integer dc_is_integer pm_is_integer an_is_integer cd_is_integer ct_is_integer), sl_is_integer⟩)
    (c_is_integer : PySem.W.codeIn K cd_is_integer "is_integer" = true)
    (k_is_integer : PySem.W.keepIn K (.ref f_is_integer) = true)
    (a_word_of : PySem.W.nsIn K mainGlobals "word_of" = some (some (.ref f_word_of)))
    (l_word_of : K.lookup f_word_of = some ⟨oc_word_of, od_word_of, .func (PySem.W.fnOf "word_of" "word_of" (defArgs s_word_of) (defBody s_word_of) (defScope s_word_of) .none kV_word_of dc_word_of pm_word_of an_word_of cd_word_of ct_word_of), sl_word_of⟩)
    (c_word_of : PySem.W.codeIn K cd_word_of "word_of" = true)
    (k_word_of : PySem.W.keepIn K (.ref f_word_of) = true)
    (a_lives : PySem.W.nsIn K mainGlobals "lives" = some (some (.ref f_lives)))
    (l_lives : K.lookup f_lives = some ⟨oc_lives, od_lives, .func (PySem.W.fnOf "lives" "lives" (defArgs s_lives) (defBody s_lives) (defScope s_lives) .none kV_lives dc_lives pm_lives an_lives cd_lives ct_lives), sl_lives⟩)
    (c_lives : PySem.W.codeIn K cd_lives "lives" = true)
    (k_lives : PySem.W.keepIn K (.ref f_lives) = true)
    (a_with_tie : PySem.W.nsIn K mainGlobals "_with_tie" = some (some (.ref f_with_tie)))
    (l_with_tie : K.lookup f_with_tie = some ⟨oc_with_tie, od_with_tie, .func (PySem.W.fnOf "_with_tie" "_with_tie" (defArgs s_with_tie) (defBody s_with_tie) (defScope s_with_tie) .none kV_with_tie dc_with_tie pm_with_tie an_with_tie cd_with_tie ct_with_tie), sl_with_tie⟩)
    (c_with_tie : PySem.W.codeIn K cd_with_tie "_with_tie" = true)
    (k_with_tie : PySem.W.keepIn K (.ref f_with_tie) = true)
    (a_L_parts_by : PySem.W.nsIn K mainGlobals "_law_parts_by" = some (some (.ref f_L_parts_by)))
    (l_L_parts_by : K.lookup f_L_parts_by = some ⟨oc_L_parts_by, od_L_parts_by, .func (PySem.W.fnOf "_law_parts_by" "_law_parts_by" (defArgs s_L_parts_by) (defBody s_L_parts_by) (defScope s_L_parts_by) .none kV_L_parts_by dc_L_parts_by pm_L_parts_by an_L_parts_by cd_L_parts_by ct_L_parts_by), sl_L_parts_by⟩)
    (c_L_parts_by : PySem.W.codeIn K cd_L_parts_by "_law_parts_by" = true)
    (k_L_parts_by : PySem.W.keepIn K (.ref f_L_parts_by) = true)
    (a_L_hand : PySem.W.nsIn K mainGlobals "_law_hand" = some (some (.ref f_L_hand)))
    (l_L_hand : K.lookup f_L_hand = some ⟨oc_L_hand, od_L_hand, .func (PySem.W.fnOf "_law_hand" "_law_hand" (defArgs s_L_hand) (defBody s_L_hand) (defScope s_L_hand) .none kV_L_hand dc_L_hand pm_L_hand an_L_hand cd_L_hand ct_L_hand), sl_L_hand⟩)
    (c_L_hand : PySem.W.codeIn K cd_L_hand "_law_hand" = true)
    (k_L_hand : PySem.W.keepIn K (.ref f_L_hand) = true)
    (a_L_draw : PySem.W.nsIn K mainGlobals "_law_draw" = some (some (.ref f_L_draw)))
    (l_L_draw : K.lookup f_L_draw = some ⟨oc_L_draw, od_L_draw, .func (PySem.W.fnOf "_law_draw" "_law_draw" (defArgs s_L_draw) (defBody s_L_draw) (defScope s_L_draw) .none kV_L_draw dc_L_draw pm_L_draw an_L_draw cd_L_draw ct_L_draw), sl_L_draw⟩)
    (c_L_draw : PySem.W.codeIn K cd_L_draw "_law_draw" = true)
    (k_L_draw : PySem.W.keepIn K (.ref f_L_draw) = true)
    (a_L_lives : PySem.W.nsIn K mainGlobals "_law_lives" = some (some (.ref f_L_lives)))
    (l_L_lives : K.lookup f_L_lives = some ⟨oc_L_lives, od_L_lives, .func (PySem.W.fnOf "_law_lives" "_law_lives" (defArgs s_L_lives) (defBody s_L_lives) (defScope s_L_lives) .none kV_L_lives dc_L_lives pm_L_lives an_L_lives cd_L_lives ct_L_lives), sl_L_lives⟩)
    (c_L_lives : PySem.W.codeIn K cd_L_lives "_law_lives" = true)
    (k_L_lives : PySem.W.keepIn K (.ref f_L_lives) = true)
    (a_L_there : PySem.W.nsIn K mainGlobals "_law_there" = some (some (.ref f_L_there)))
    (l_L_there : K.lookup f_L_there = some ⟨oc_L_there, od_L_there, .func (PySem.W.fnOf "_law_there" "_law_there" (defArgs s_L_there) (defBody s_L_there) (defScope s_L_there) .none kV_L_there dc_L_there pm_L_there an_L_there cd_L_there ct_L_there), sl_L_there⟩)
    (c_L_there : PySem.W.codeIn K cd_L_there "_law_there" = true)
    (k_L_there : PySem.W.keepIn K (.ref f_L_there) = true)
    (a_is_between : PySem.W.nsIn K mainGlobals "is_between" = some (some (.ref f_is_between)))
    (l_is_between : K.lookup f_is_between = some ⟨oc_is_between, od_is_between, .func (PySem.W.fnOf "is_between" "is_between" (defArgs s_is_between) (defBody s_is_between) (defScope s_is_between) .none kV_is_between dc_is_between pm_is_between an_is_between cd_is_between ct_is_between), sl_is_between⟩)
    (c_is_between : PySem.W.codeIn K cd_is_between "is_between" = true)
    (k_is_between : PySem.W.keepIn K (.ref f_is_between) = true)
    (a_is_number : PySem.W.nsIn K mainGlobals "is_number" = some (some (.ref f_is_number)))
    (l_is_number : K.lookup f_is_number = some ⟨oc_is_number, od_is_number, .func (PySem.W.fnOf "is_number" "is_number" (defArgs s_is_number) (defBody s_is_number) (defScope s_is_number) .none kV_is_number dc_is_number pm_is_number an_is_number cd_is_number ct_is_number), sl_is_number⟩)
    (c_is_number : PySem.W.codeIn K cd_is_number "is_number" = true)
    (k_is_number : PySem.W.keepIn K (.ref f_is_number) = true)
    (a_there : PySem.W.nsIn K mainGlobals "_there" = some (some (.ref f_there)))
    (l_there : K.lookup f_there = some ⟨oc_there, od_there, .func (PySem.W.fnOf "_there" "_there" (defArgs s_there) (defBody s_there) (defScope s_there) .none kV_there dc_there pm_there an_there cd_there ct_there), sl_there⟩)
    (c_there : PySem.W.codeIn K cd_there "_there" = true)
    (k_there : PySem.W.keepIn K (.ref f_there) = true)
    (a_L_history : PySem.W.nsIn K mainGlobals "_law_history" = some (some (.ref f_L_history)))
    (l_L_history : K.lookup f_L_history = some ⟨oc_L_history, od_L_history, .func (PySem.W.fnOf "_law_history" "_law_history" (defArgs s_L_history) (defBody s_L_history) (defScope s_L_history) .none kV_L_history dc_L_history pm_L_history an_L_history cd_L_history ct_L_history), sl_L_history⟩)
    (c_L_history : PySem.W.codeIn K cd_L_history "_law_history" = true)
    (k_L_history : PySem.W.keepIn K (.ref f_L_history) = true)
    (a_L_longest : PySem.W.nsIn K mainGlobals "_law_longest" = some (some (.ref f_L_longest)))
    (l_L_longest : K.lookup f_L_longest = some ⟨oc_L_longest, od_L_longest, .func (PySem.W.fnOf "_law_longest" "_law_longest" (defArgs s_L_longest) (defBody s_L_longest) (defScope s_L_longest) .none kV_L_longest dc_L_longest pm_L_longest an_L_longest cd_L_longest ct_L_longest), sl_L_longest⟩)
    (c_L_longest : PySem.W.codeIn K cd_L_longest "_law_longest" = true)
    (k_L_longest : PySem.W.keepIn K (.ref f_L_longest) = true)
    (a_L_till : PySem.W.nsIn K mainGlobals "_law_till" = some (some (.ref f_L_till)))
    (l_L_till : K.lookup f_L_till = some ⟨oc_L_till, od_L_till, .func (PySem.W.fnOf "_law_till" "_law_till" (defArgs s_L_till) (defBody s_L_till) (defScope s_L_till) .none kV_L_till dc_L_till pm_L_till an_L_till cd_L_till ct_L_till), sl_L_till⟩)
    (c_L_till : PySem.W.codeIn K cd_L_till "_law_till" = true)
    (k_L_till : PySem.W.keepIn K (.ref f_L_till) = true)
    (a_is_house : PySem.W.nsIn K mainGlobals "is_house" = some (some (.ref f_is_house)))
    (l_is_house : K.lookup f_is_house = some ⟨oc_is_house, od_is_house, .func (PySem.W.fnOf "is_house" "is_house" (defArgs s_is_house) (defBody s_is_house) (defScope s_is_house) .none kV_is_house dc_is_house pm_is_house an_is_house cd_is_house ct_is_house), sl_is_house⟩)
    (c_is_house : PySem.W.codeIn K cd_is_house "is_house" = true)
    (k_is_house : PySem.W.keepIn K (.ref f_is_house) = true)
    (a_need_moment : PySem.W.nsIn K mainGlobals "_need_moment" = some (some (.ref f_need_moment)))
    (l_need_moment : K.lookup f_need_moment = some ⟨oc_need_moment, od_need_moment, .func (PySem.W.fnOf "_need_moment" "_need_moment" (defArgs s_need_moment) (defBody s_need_moment) (defScope s_need_moment) .none kV_need_moment dc_need_moment pm_need_moment an_need_moment cd_need_moment ct_need_moment), sl_need_moment⟩)
    (c_need_moment : PySem.W.codeIn K cd_need_moment "_need_moment" = true)
    (k_need_moment : PySem.W.keepIn K (.ref f_need_moment) = true)
    (a_longest_first : PySem.W.nsIn K mainGlobals "_longest_first" = some (some (.ref f_longest_first)))
    (l_longest_first : K.lookup f_longest_first = some ⟨oc_longest_first, od_longest_first, .func (PySem.W.fnOf "_longest_first" "_longest_first" (defArgs s_longest_first) (defBody s_longest_first) (defScope s_longest_first) .none kV_longest_first dc_longest_first pm_longest_first an_longest_first cd_longest_first ct_longest_first), sl_longest_first⟩)
    (c_longest_first : PySem.W.codeIn K cd_longest_first "_longest_first" = true)
    (k_longest_first : PySem.W.keepIn K (.ref f_longest_first) = true)
    (a_is_of : PySem.W.nsIn K mainGlobals "_is_of" = some (some (.ref f_is_of)))
    (l_is_of : K.lookup f_is_of = some ⟨oc_is_of, od_is_of, .func (PySem.W.fnOf "_is_of" "_is_of" (defArgs s_is_of) (defBody s_is_of) (defScope s_is_of) .none kV_is_of dc_is_of pm_is_of an_is_of cd_is_of ct_is_of), sl_is_of⟩)
    (c_is_of : PySem.W.codeIn K cd_is_of "_is_of" = true)
    (k_is_of : PySem.W.keepIn K (.ref f_is_of) = true)
    (a_kept_then : PySem.W.nsIn K mainGlobals "kept_then" = some (some (.ref f_kept_then)))
    (l_kept_then : K.lookup f_kept_then = some ⟨oc_kept_then, od_kept_then, .func (PySem.W.fnOf "kept_then" "kept_then" (defArgs s_kept_then) (defBody s_kept_then) (defScope s_kept_then) .none kV_kept_then dc_kept_then pm_kept_then an_kept_then cd_kept_then ct_kept_then), sl_kept_then⟩)
    (c_kept_then : PySem.W.codeIn K cd_kept_then "kept_then" = true)
    (k_kept_then : PySem.W.keepIn K (.ref f_kept_then) = true)
    (a_joined_till : PySem.W.nsIn K mainGlobals "joined_till" = some (some (.ref f_joined_till)))
    (l_joined_till : K.lookup f_joined_till = some ⟨oc_joined_till, od_joined_till, .func (PySem.W.fnOf "joined_till" "joined_till" (defArgs s_joined_till) (defBody s_joined_till) (defScope s_joined_till) .none kV_joined_till dc_joined_till pm_joined_till an_joined_till cd_joined_till ct_joined_till), sl_joined_till⟩)
    (c_joined_till : PySem.W.codeIn K cd_joined_till "joined_till" = true)
    (k_joined_till : PySem.W.keepIn K (.ref f_joined_till) = true)
    (a_fit : PySem.W.nsIn K mainGlobals "fit" = some (some (.ref f_fit)))
    (l_fit : K.lookup f_fit = some ⟨oc_fit, od_fit, .func (PySem.W.fnOf "fit" "fit" (defArgs s_fit) (defBody s_fit) (defScope s_fit) .none kV_fit dc_fit pm_fit an_fit cd_fit ct_fit), sl_fit⟩)
    (c_fit : PySem.W.codeIn K cd_fit "fit" = true)
    (k_fit : PySem.W.keepIn K (.ref f_fit) = true)
    (a_can_be_next : PySem.W.nsIn K mainGlobals "_can_be_next" = some (some (.ref f_can_be_next)))
    (l_can_be_next : K.lookup f_can_be_next = some ⟨oc_can_be_next, od_can_be_next, .func (PySem.W.fnOf "_can_be_next" "_can_be_next" (defArgs s_can_be_next) (defBody s_can_be_next) (defScope s_can_be_next) .none kV_can_be_next dc_can_be_next pm_can_be_next an_can_be_next cd_can_be_next ct_can_be_next), sl_can_be_next⟩)
    (c_can_be_next : PySem.W.codeIn K cd_can_be_next "_can_be_next" = true)
    (k_can_be_next : PySem.W.keepIn K (.ref f_can_be_next) = true)
    (a_L_is : PySem.W.nsIn K mainGlobals "_law_is" = some (some (.ref f_L_is)))
    (l_L_is : K.lookup f_L_is = some ⟨oc_L_is, od_L_is, .func (PySem.W.fnOf "_law_is" "_law_is" (defArgs s_L_is) (defBody s_L_is) (defScope s_L_is) .none kV_L_is dc_L_is pm_L_is an_L_is cd_L_is ct_L_is), sl_L_is⟩)
    (c_L_is : PySem.W.codeIn K cd_L_is "_law_is" = true)
    (k_L_is : PySem.W.keepIn K (.ref f_L_is) = true)
    (a_law : PySem.W.nsIn K mainGlobals "law" = some (some (.ref f_law)))
    (l_law : K.lookup f_law = some ⟨oc_law, od_law, .func (PySem.W.fnOf "law" "law" (defArgs s_law) (defBody s_law) (defScope s_law) .none kV_law dc_law pm_law an_law cd_law ct_law), sl_law⟩)
    (c_law : PySem.W.codeIn K cd_law "law" = true)
    (k_law : PySem.W.keepIn K (.ref f_law) = true)
    (pg_History : PySem.W.plainGet K A_History Str.empty = true)
    (hd_History : PySem.W.hasDictIn K A_History = true)
    (po_History : PySem.W.plainOver K A_History = true)
    (sa_History : PySem.W.findIn K (.ref A_History) "__setattr__" = some (some (.builtin "object.__setattr__")))
    (mk_History : PySem.W.makesIn K A_History = true)
    (kc_History : PySem.W.keepIn K (.ref A_History) = true)
    (iI_History : PySem.W.isFn K (.ref f_iHistory) = true)
    (ha_History : PySem.W.findIn K (.ref A_History) "__class__" = some (some (.builtin "object.__class__")))
    (hn_History : PySem.W.specialIn K (.builtin "object.__class__") "__get__" = some (some (.builtin "getset_descriptor.__get__")))
    (htk_History : PySem.W.takesIn K (.builtin "object.__class__") = some true)
    (hm_History : PySem.W.mroIn K A_History (.type "object") = some true)
    (n_History_many : PySem.W.findIn K (.ref A_History) "many" = some none)
    (n_History_deeds : PySem.W.findIn K (.ref A_History) "deeds" = some none)
    (xl_NoHouse : K.lookup A_NoHouse = some (excClassObj nm_NoHouse qn_NoHouse A_NoHouse N_NoHouse bs_NoHouse [.ref B_NoHouse, .type "ValueError", .type "Exception", .type "BaseException", .type "object"] true sn_NoHouse su_NoHouse ab_NoHouse co_NoHouse dd_NoHouse m0_NoHouse m1_NoHouse m2_NoHouse m3_NoHouse m5_NoHouse "ValueError.__new__"))
    (xi_NoHouse : PySem.W.findIn K (.ref A_NoHouse) "__init__" = some (some (.ref f_eNoHouse)))
    (xt_NoHouse : PySem.W.typeIn K (.ref f_eNoHouse) = some (.type "function"))
    (xf_NoHouse : K.lookup f_eNoHouse = some ⟨ocx_NoHouse, odx_NoHouse, .func (PySem.W.fnOf "__init__" "NoHouse.__init__" (PySem.XNoHouse.iA ⟨6, 17, 6, 21⟩) (PySem.XNoHouse.iB ⟨7, 8, 7, 12⟩) PySem.XNoHouse.iS .none .none dcx_NoHouse pmx_NoHouse anx_NoHouse cdx_NoHouse ctx_NoHouse), slx_NoHouse⟩)
    (xc_NoHouse : PySem.W.codeIn K cdx_NoHouse "NoHouse.__init__" = true)
    (xk_NoHouse : PySem.W.keepIn K (.ref A_NoHouse) = true)
    (xe_NoHouse : PySem.W.subIn K (.ref A_NoHouse) (.type "BaseException") = some true)
    (xy_NoHouse : PySem.W.typeIn K (.ref A_NoHouse) = some (.type "type"))
    (xo_NoHouse : PySem.W.isClsIn K A_NoHouse = true)
    (xs_NoHouse : PySem.W.subIn K (.ref A_NoHouse) (.ref A_NoHouse) = some true)
    (xl_NoNumber : K.lookup A_NoNumber = some (excClassObj nm_NoNumber qn_NoNumber A_NoNumber N_NoNumber bs_NoNumber [.ref B_NoNumber, .type "ValueError", .type "Exception", .type "BaseException", .type "object"] true sn_NoNumber su_NoNumber ab_NoNumber co_NoNumber dd_NoNumber m0_NoNumber m1_NoNumber m2_NoNumber m3_NoNumber m5_NoNumber "ValueError.__new__"))
    (xi_NoNumber : PySem.W.findIn K (.ref A_NoNumber) "__init__" = some (some (.ref f_eNoNumber)))
    (xt_NoNumber : PySem.W.typeIn K (.ref f_eNoNumber) = some (.type "function"))
    (xf_NoNumber : K.lookup f_eNoNumber = some ⟨ocx_NoNumber, odx_NoNumber, .func (PySem.W.fnOf "__init__" "NoNumber.__init__" (PySem.XNoNumber.iA ⟨10, 17, 10, 21⟩) (PySem.XNoNumber.iB ⟨11, 8, 11, 12⟩) PySem.XNoNumber.iS .none .none dcx_NoNumber pmx_NoNumber anx_NoNumber cdx_NoNumber ctx_NoNumber), slx_NoNumber⟩)
    (xc_NoNumber : PySem.W.codeIn K cdx_NoNumber "NoNumber.__init__" = true)
    (xk_NoNumber : PySem.W.keepIn K (.ref A_NoNumber) = true)
    (xe_NoNumber : PySem.W.subIn K (.ref A_NoNumber) (.type "BaseException") = some true)
    (xy_NoNumber : PySem.W.typeIn K (.ref A_NoNumber) = some (.type "type"))
    (xo_NoNumber : PySem.W.isClsIn K A_NoNumber = true)
    (xs_NoNumber : PySem.W.subIn K (.ref A_NoNumber) (.ref A_NoNumber) = some true)
    (xl_NoMoment : K.lookup A_NoMoment = some (excClassObj nm_NoMoment qn_NoMoment A_NoMoment N_NoMoment bs_NoMoment [.ref B_NoMoment, .type "ValueError", .type "Exception", .type "BaseException", .type "object"] true sn_NoMoment su_NoMoment ab_NoMoment co_NoMoment dd_NoMoment m0_NoMoment m1_NoMoment m2_NoMoment m3_NoMoment m5_NoMoment "ValueError.__new__"))
    (xi_NoMoment : PySem.W.findIn K (.ref A_NoMoment) "__init__" = some (some (.ref f_eNoMoment)))
    (xt_NoMoment : PySem.W.typeIn K (.ref f_eNoMoment) = some (.type "function"))
    (xf_NoMoment : K.lookup f_eNoMoment = some ⟨ocx_NoMoment, odx_NoMoment, .func (PySem.W.fnOf "__init__" "NoMoment.__init__" (PySem.XNoMoment.iA ⟨14, 17, 14, 21⟩) (PySem.XNoMoment.iB ⟨15, 8, 15, 12⟩) PySem.XNoMoment.iS .none .none dcx_NoMoment pmx_NoMoment anx_NoMoment cdx_NoMoment ctx_NoMoment), slx_NoMoment⟩)
    (xc_NoMoment : PySem.W.codeIn K cdx_NoMoment "NoMoment.__init__" = true)
    (xk_NoMoment : PySem.W.keepIn K (.ref A_NoMoment) = true)
    (xe_NoMoment : PySem.W.subIn K (.ref A_NoMoment) (.type "BaseException") = some true)
    (xy_NoMoment : PySem.W.typeIn K (.ref A_NoMoment) = some (.type "type"))
    (xo_NoMoment : PySem.W.isClsIn K A_NoMoment = true)
    (xs_NoMoment : PySem.W.subIn K (.ref A_NoMoment) (.ref A_NoMoment) = some true)
    (xl_BadHistory : K.lookup A_BadHistory = some (excClassObj nm_BadHistory qn_BadHistory A_BadHistory N_BadHistory bs_BadHistory [.ref B_BadHistory, .type "ValueError", .type "Exception", .type "BaseException", .type "object"] true sn_BadHistory su_BadHistory ab_BadHistory co_BadHistory dd_BadHistory m0_BadHistory m1_BadHistory m2_BadHistory m3_BadHistory m5_BadHistory "ValueError.__new__"))
    (xi_BadHistory : PySem.W.findIn K (.ref A_BadHistory) "__init__" = some (some (.ref f_eBadHistory)))
    (xt_BadHistory : PySem.W.typeIn K (.ref f_eBadHistory) = some (.type "function"))
    (xf_BadHistory : K.lookup f_eBadHistory = some ⟨ocx_BadHistory, odx_BadHistory, .func (PySem.W.fnOf "__init__" "BadHistory.__init__" (PySem.XBadHistory.iA ⟨18, 17, 18, 21⟩ ⟨18, 23, 18, 28⟩) (PySem.XBadHistory.iB ⟨19, 8, 19, 12⟩ ⟨19, 8, 19, 18⟩ ⟨19, 21, 19, 26⟩ ⟨19, 8, 19, 26⟩) PySem.XBadHistory.iS .none .none dcx_BadHistory pmx_BadHistory anx_BadHistory cdx_BadHistory ctx_BadHistory), slx_BadHistory⟩)
    (xc_BadHistory : PySem.W.codeIn K cdx_BadHistory "BadHistory.__init__" = true)
    (xk_BadHistory : PySem.W.keepIn K (.ref A_BadHistory) = true)
    (xe_BadHistory : PySem.W.subIn K (.ref A_BadHistory) (.type "BaseException") = some true)
    (xy_BadHistory : PySem.W.typeIn K (.ref A_BadHistory) = some (.type "type"))
    (xo_BadHistory : PySem.W.isClsIn K A_BadHistory = true)
    (xs_BadHistory : PySem.W.subIn K (.ref A_BadHistory) (.ref A_BadHistory) = some true)
    (xsa_BadHistory : PySem.W.findIn K (.ref A_BadHistory) "__setattr__" = some (some (.builtin "object.__setattr__")))
    (xga_BadHistory : PySem.W.findIn K (.ref A_BadHistory) "__getattribute__" = some (some (.builtin "BaseException.__getattribute__")))
    (xgg_BadHistory : PySem.W.findIn K (.ref A_BadHistory) "__getattr__" = some none)
    (xnb_BadHistory : PySem.W.findIn K (.ref A_BadHistory) "index" = some none)
    (xhc_BadHistory : PySem.W.hasDictIn K A_BadHistory = true)
    (gx_k_History_int : PySem.W.kitOne K (.ref A_History) (.type "int") = some false)
    (gx_k_History_bool : PySem.W.kitOne K (.ref A_History) (.type "bool") = some false)
    (gx_k_History_tuple : PySem.W.kitOne K (.ref A_History) (.type "tuple") = some false)
    (gx_k_History_list : PySem.W.kitOne K (.ref A_History) (.type "list") = some false)
    (gx_k_History_str : PySem.W.kitOne K (.ref A_History) (.type "str") = some false)
    (gx_kk_History_History : PySem.W.kitOne K (.ref A_History) (.ref A_History) = some true)
    (gx_t_NoneType_History : PySem.W.kitOne K (.type "NoneType") (.ref A_History) = some false)
    (gx_t_int_History : PySem.W.kitOne K (.type "int") (.ref A_History) = some false)
    (gx_t_bool_History : PySem.W.kitOne K (.type "bool") (.ref A_History) = some false)
    (gx_t_tuple_History : PySem.W.kitOne K (.type "tuple") (.ref A_History) = some false)
    (gx_t_list_History : PySem.W.kitOne K (.type "list") (.ref A_History) = some false)
    (gx_t_str_History : PySem.W.kitOne K (.type "str") (.ref A_History) = some false)
    (gx_t_dict_History : PySem.W.kitOne K (.type "dict") (.ref A_History) = some false)
    (ta_FORMS : PySem.W.nsIn K mainGlobals "FORMS" = some (some (.ref A_FORMS)))
    (tl_FORMS : K.lookup A_FORMS = some ⟨.type "dict", none, .dict #[en0_FORMS, en1_FORMS, en2_FORMS] ep_FORMS, #[]⟩)
    (tw_FORMS : (A_FORMS == sysModules) = false)
    (tk0_FORMS : (∃ τ, en0_FORMS.key = .str "come" τ) ∧ en0_FORMS.hash = PyData.keyHash w.params "come" ∧ en0_FORMS.val = .ref tv0_FORMS)
    (tm0_FORMS : K.lookup tv0_FORMS = some ⟨.type "tuple", td0_FORMS, .seq #[.str "house" tt0_0_FORMS, .str "house" tt0_1_FORMS] tn0_FORMS, ts0_FORMS⟩)
    (tk1_FORMS : (∃ τ, en1_FORMS.key = .str "go" τ) ∧ en1_FORMS.hash = PyData.keyHash w.params "go" ∧ en1_FORMS.val = .ref tv1_FORMS)
    (tm1_FORMS : K.lookup tv1_FORMS = some ⟨.type "tuple", td1_FORMS, .seq #[.str "number" tt1_0_FORMS] tn1_FORMS, ts1_FORMS⟩)
    (tk2_FORMS : (∃ τ, en2_FORMS.key = .str "ask" τ) ∧ en2_FORMS.hash = PyData.keyHash w.params "ask" ∧ en2_FORMS.val = .ref tv2_FORMS)
    (tm2_FORMS : K.lookup tv2_FORMS = some ⟨.type "tuple", td2_FORMS, .seq #[.str "house" tt2_0_FORMS, .str "house" tt2_1_FORMS] tn2_FORMS, ts2_FORMS⟩)
    (nb_all : PySem.W.nsIn K mainGlobals "all" = some none)
    (nb_enumerate : PySem.W.nsIn K mainGlobals "enumerate" = some none)
    (nb_tuple : PySem.W.nsIn K mainGlobals "tuple" = some none)
    (nb_list : PySem.W.nsIn K mainGlobals "list" = some none)
    (nb_range : PySem.W.nsIn K mainGlobals "range" = some none)
    (nb_isinstance : PySem.W.nsIn K mainGlobals "isinstance" = some none)
    (nb_sorted : PySem.W.nsIn K mainGlobals "sorted" = some none)
    (nb_int : PySem.W.nsIn K mainGlobals "int" = some none)
    (nb_len : PySem.W.nsIn K mainGlobals "len" = some none)
    (nb_str : PySem.W.nsIn K mainGlobals "str" = some none)
    (nb_abs : PySem.W.nsIn K mainGlobals "abs" = some none)
    (nb_bool : PySem.W.nsIn K mainGlobals "bool" = some none)
    (nb_zip : PySem.W.nsIn K mainGlobals "zip" = some none)
    (nb_min : PySem.W.nsIn K mainGlobals "min" = some none)
    (gc_MOST_ENDS : PySem.W.nsIn K mainGlobals "MOST_ENDS" = some (some (.int 24 t_MOST_ENDS)))
    (gc_MOST_DEEDS : PySem.W.nsIn K mainGlobals "MOST_DEEDS" = some (some (.int 60 t_MOST_DEEDS)))
    (gc_MOST_TIES : PySem.W.nsIn K mainGlobals "MOST_TIES" = some (some (.int 32 t_MOST_TIES))) :
    ∃ fd : FuncData, (∀ (s : Shared) (v : Value), BindsTo s fd ⟨[v], []⟩ [("_law_script", v)]) ∧ ∀ base : Heap, K.In base → base.Ns mainGlobals mg → FnOk P w K mg base (L2.CX P w) 62 fa fd ["_law_script"] (spLaw K) := by
  have FN_History_init := fun_mk (st := s_History_init) l_History_init c_History_init k_History_init
  have B_History_init := FN_History_init.binds (ps := ["self", "many", "deeds"]) fun _ _ _ _ _ _ us hl => match us, hl with | [_, _, _], _ => rfl
  have D_is_integer := def_mk (st := s_is_integer) (ps := ["thing"]) X G a_is_integer l_is_integer c_is_integer k_is_integer fun _ _ _ _ _ _ us hl => match us, hl with | [_], _ => rfl
  have D_word_of := def_mk (st := s_word_of) (ps := ["thing"]) X G a_word_of l_word_of c_word_of k_word_of fun _ _ _ _ _ _ us hl => match us, hl with | [_], _ => rfl
  have D_lives := def_mk (st := s_lives) (ps := ["history"]) X G a_lives l_lives c_lives k_lives fun _ _ _ _ _ _ us hl => match us, hl with | [_], _ => rfl
  have D_with_tie := def_mk (st := s_with_tie) (ps := ["labels", "one", "other"]) X G a_with_tie l_with_tie c_with_tie k_with_tie fun _ _ _ _ _ _ us hl => match us, hl with | [_, _, _], _ => rfl
  have D_L_parts_by := def_mk (st := s_L_parts_by) (ps := ["_law_many", "_law_ties"]) X G a_L_parts_by l_L_parts_by c_L_parts_by k_L_parts_by fun _ _ _ _ _ _ us hl => match us, hl with | [_, _], _ => rfl
  have D_L_hand := def_mk (st := s_L_hand) (ps := ["_law_script"]) X G a_L_hand l_L_hand c_L_hand k_L_hand fun _ _ _ _ _ _ us hl => match us, hl with | [_], _ => rfl
  have D_L_draw := def_mk (st := s_L_draw) (ps := ["_law_hand_here", "_law_many"]) X G a_L_draw l_L_draw c_L_draw k_L_draw fun _ _ _ _ _ _ us hl => match us, hl with | [_, _], _ => rfl
  have D_L_lives := def_mk (st := s_L_lives) (ps := ["_law_deeds"]) X G a_L_lives l_L_lives c_L_lives k_L_lives fun _ _ _ _ _ _ us hl => match us, hl with | [_], _ => rfl
  have D_L_there := def_mk (st := s_L_there) (ps := ["_law_spans", "_law_at"]) X G a_L_there l_L_there c_L_there k_L_there fun _ _ _ _ _ _ us hl => match us, hl with | [_, _], _ => rfl
  have D_is_between := def_mk (st := s_is_between) (ps := ["least", "most", "thing"]) X G a_is_between l_is_between c_is_between k_is_between fun _ _ _ _ _ _ us hl => match us, hl with | [_, _, _], _ => rfl
  have D_is_number := def_mk (st := s_is_number) (ps := ["thing"]) X G a_is_number l_is_number c_is_number k_is_number fun _ _ _ _ _ _ us hl => match us, hl with | [_], _ => rfl
  have D_there := def_mk (st := s_there) (ps := ["history", "at"]) X G a_there l_there c_there k_there fun _ _ _ _ _ _ us hl => match us, hl with | [_, _], _ => rfl
  have D_L_history := def_mk (st := s_L_history) (ps := ["_law_hand_here"]) X G a_L_history l_L_history c_L_history k_L_history fun _ _ _ _ _ _ us hl => match us, hl with | [_], _ => rfl
  have D_L_longest := def_mk (st := s_L_longest) (ps := ["_law_many", "_law_spans", "_law_there_here"]) X G a_L_longest l_L_longest c_L_longest k_L_longest fun _ _ _ _ _ _ us hl => match us, hl with | [_, _, _], _ => rfl
  have D_L_till := def_mk (st := s_L_till) (ps := ["_law_many", "_law_spans", "_law_there_here", "_law_one", "_law_other"]) X G a_L_till l_L_till c_L_till k_L_till fun _ _ _ _ _ _ us hl => match us, hl with | [_, _, _, _, _], _ => rfl
  have D_is_house := def_mk (st := s_is_house) (ps := ["many", "thing"]) X G a_is_house l_is_house c_is_house k_is_house fun _ _ _ _ _ _ us hl => match us, hl with | [_, _], _ => rfl
  have D_need_moment := def_mk (st := s_need_moment) (ps := ["history", "thing"]) X G a_need_moment l_need_moment c_need_moment k_need_moment fun _ _ _ _ _ _ us hl => match us, hl with | [_, _], _ => rfl
  have D_longest_first := def_mk (st := s_longest_first) (ps := ["history", "at"]) X G a_longest_first l_longest_first c_longest_first k_longest_first fun _ _ _ _ _ _ us hl => match us, hl with | [_, _], _ => rfl
  have D_is_of := def_mk (st := s_is_of) (ps := ["many", "part", "kind"]) X G a_is_of l_is_of c_is_of k_is_of fun _ _ _ _ _ _ us hl => match us, hl with | [_, _, _], _ => rfl
  have D_kept_then := def_mk (st := s_kept_then) (ps := ["history", "at"]) X G a_kept_then l_kept_then c_kept_then k_kept_then fun _ _ _ _ _ _ us hl => match us, hl with | [_, _], _ => rfl
  have D_joined_till := def_mk (st := s_joined_till) (ps := ["history", "at", "one", "other"]) X G a_joined_till l_joined_till c_joined_till k_joined_till fun _ _ _ _ _ _ us hl => match us, hl with | [_, _, _, _], _ => rfl
  have D_fit := def_mk (st := s_fit) (ps := ["many", "parts", "form"]) X G a_fit l_fit c_fit k_fit fun _ _ _ _ _ _ us hl => match us, hl with | [_, _, _], _ => rfl
  have D_can_be_next := def_mk (st := s_can_be_next) (ps := ["many", "came", "there", "thing"]) X G a_can_be_next l_can_be_next c_can_be_next k_can_be_next fun _ _ _ _ _ _ us hl => match us, hl with | [_, _, _, _], _ => rfl
  have D_L_is := def_mk (st := s_L_is) (ps := ["_law_told", "_law_due"]) X G a_L_is l_L_is c_L_is k_L_is fun _ _ _ _ _ _ us hl => match us, hl with | [_, _], _ => rfl
  have CL_History : Cls K A_History := ⟨pg_History, hd_History, po_History, sa_History⟩
  have X_NoHouse : PySem.XNoHouse.TxtNoHouse K mg A_NoHouse f_eNoHouse := { gC := PySem.W.mg_of X G aE_NoHouse, cls := ⟨nm_NoHouse, qn_NoHouse, N_NoHouse, bs_NoHouse, _, sn_NoHouse, su_NoHouse, ab_NoHouse, co_NoHouse, dd_NoHouse, m0_NoHouse, m1_NoHouse, m2_NoHouse, m3_NoHouse, m5_NoHouse, xl_NoHouse, rfl⟩, iC := xi_NoHouse, tC := xt_NoHouse, kC := xk_NoHouse, exC := xe_NoHouse, tyC := xy_NoHouse, te := exm_ab true xe_NoHouse xo_NoHouse xy_NoHouse xs_NoHouse, fn := ⟨_, _, _, _, _, _, _, _, _, _, xf_NoHouse, xc_NoHouse⟩ }
  have X_NoNumber : PySem.XNoNumber.TxtNoNumber K mg A_NoNumber f_eNoNumber := { gC := PySem.W.mg_of X G aE_NoNumber, cls := ⟨nm_NoNumber, qn_NoNumber, N_NoNumber, bs_NoNumber, _, sn_NoNumber, su_NoNumber, ab_NoNumber, co_NoNumber, dd_NoNumber, m0_NoNumber, m1_NoNumber, m2_NoNumber, m3_NoNumber, m5_NoNumber, xl_NoNumber, rfl⟩, iC := xi_NoNumber, tC := xt_NoNumber, kC := xk_NoNumber, exC := xe_NoNumber, tyC := xy_NoNumber, te := exm_ab true xe_NoNumber xo_NoNumber xy_NoNumber xs_NoNumber, fn := ⟨_, _, _, _, _, _, _, _, _, _, xf_NoNumber, xc_NoNumber⟩ }
  have X_NoMoment : PySem.XNoMoment.TxtNoMoment K mg A_NoMoment f_eNoMoment := { gC := PySem.W.mg_of X G aE_NoMoment, cls := ⟨nm_NoMoment, qn_NoMoment, N_NoMoment, bs_NoMoment, _, sn_NoMoment, su_NoMoment, ab_NoMoment, co_NoMoment, dd_NoMoment, m0_NoMoment, m1_NoMoment, m2_NoMoment, m3_NoMoment, m5_NoMoment, xl_NoMoment, rfl⟩, iC := xi_NoMoment, tC := xt_NoMoment, kC := xk_NoMoment, exC := xe_NoMoment, tyC := xy_NoMoment, te := exm_ab true xe_NoMoment xo_NoMoment xy_NoMoment xs_NoMoment, fn := ⟨_, _, _, _, _, _, _, _, _, _, xf_NoMoment, xc_NoMoment⟩ }
  have X_BadHistory : PySem.XBadHistory.TxtBadHistory K mg A_BadHistory f_eBadHistory := { gC := PySem.W.mg_of X G aE_BadHistory, cls := ⟨nm_BadHistory, qn_BadHistory, N_BadHistory, bs_BadHistory, _, sn_BadHistory, su_BadHistory, ab_BadHistory, co_BadHistory, dd_BadHistory, m0_BadHistory, m1_BadHistory, m2_BadHistory, m3_BadHistory, m5_BadHistory, xl_BadHistory, rfl⟩, sa := xsa_BadHistory, ga := xga_BadHistory, gg := xgg_BadHistory, noN := xnb_BadHistory, iC := xi_BadHistory, tC := xt_BadHistory, kC := xk_BadHistory, exC := xe_BadHistory, tyC := xy_BadHistory, hdC := xhc_BadHistory, te := exm_ab true xe_BadHistory xo_BadHistory xy_BadHistory xs_BadHistory, fn := ⟨_, _, _, _, _, _, _, _, _, _, _, _, _, _, xf_BadHistory, xc_BadHistory⟩ }
  have KT_FORMS : W2.KD K w A_FORMS [("come", .ref tv0_FORMS), ("go", .ref tv1_FORMS), ("ask", .ref tv2_FORMS)] := kd_of (es := [en0_FORMS, en1_FORMS, en2_FORMS]) tl_FORMS tw_FORMS (.cons tk0_FORMS.1 tk0_FORMS.2.1 (show RelV (.ref tv0_FORMS) _ from tk0_FORMS.2.2) (.cons tk1_FORMS.1 tk1_FORMS.2.1 (show RelV (.ref tv1_FORMS) _ from tk1_FORMS.2.2) (.cons tk2_FORMS.1 tk2_FORMS.2.1 (show RelV (.ref tv2_FORMS) _ from tk2_FORMS.2.2) .nil)))
  have TB_FORMS : TabOk K w A_FORMS tab_FORMS := ⟨_, KT_FORMS, tab_mk (.cons ⟨rfl, rep_txt ["house", "house"] tm0_FORMS (by simp) (.cons ⟨_, rfl⟩ (.cons ⟨_, rfl⟩ (.nil)))⟩ (.cons ⟨rfl, rep_txt ["number"] tm1_FORMS (by simp) (.cons ⟨_, rfl⟩ (.nil))⟩ (.cons ⟨rfl, rep_txt ["house", "house"] tm2_FORMS (by simp) (.cons ⟨_, rfl⟩ (.cons ⟨_, rfl⟩ (.nil)))⟩ (.nil))))⟩
  have T : Txt mg := ⟨PySem.W.mg_none_of X G nb_all, PySem.W.mg_none_of X G nb_enumerate, PySem.W.mg_none_of X G nb_tuple, PySem.W.mg_none_of X G nb_list, PySem.W.mg_none_of X G nb_range, PySem.W.mg_none_of X G nb_isinstance, PySem.W.mg_none_of X G nb_sorted, PySem.W.mg_none_of X G nb_int, PySem.W.mg_none_of X G nb_len, PySem.W.mg_none_of X G nb_str, PySem.W.mg_none_of X G nb_abs, PySem.W.mg_none_of X G nb_bool, PySem.W.mg_none_of X G nb_zip, PySem.W.mg_none_of X G nb_min, ⟨t_MOST_ENDS, PySem.W.mg_of X G gc_MOST_ENDS⟩, ⟨t_MOST_DEEDS, PySem.W.mg_of X G gc_MOST_DEEDS⟩, ⟨t_MOST_TIES, PySem.W.mg_of X G gc_MOST_TIES⟩⟩
  have GX : Gx (mkG K A_History A_NoHouse A_NoNumber A_NoMoment A_BadHistory A_FORMS) := { CS := rfl, FL := rfl, k_History_int := gx_k_History_int, k_History_bool := gx_k_History_bool, k_History_tuple := gx_k_History_tuple, k_History_list := gx_k_History_list, k_History_str := gx_k_History_str, kk_History_History := gx_kk_History_History, t_NoneType_History := gx_t_NoneType_History, t_int_History := gx_t_int_History, t_bool_History := gx_t_bool_History, t_tuple_History := gx_t_tuple_History, t_list_History := gx_t_list_History, t_str_History := gx_t_str_History, t_dict_History := gx_t_dict_History }
  have Z : Fx (mkG K A_History A_NoHouse A_NoNumber A_NoMoment A_BadHistory A_FORMS) w mg f_eNoHouse f_eNoNumber f_eNoMoment f_eBadHistory f_iHistory := { CSO := (ownCs_mk (.cons ⟨CL_History, ha_History, hn_History, htk_History, hm_History⟩ (.nil))), FO := (flOk_mk (.cons ⟨CL_History, n_History_many⟩ (.cons ⟨CL_History, n_History_deeds⟩ (.nil)))), History := PySem.W.mg_of X G aC_History, mk_History := ⟨mk_History, a_History_init, iI_History, kc_History⟩, NoHouse := X_NoHouse, NoNumber := X_NoNumber, NoMoment := X_NoMoment, BadHistory := X_BadHistory, FORMS := ⟨PySem.W.mg_of X G ta_FORMS, TB_FORMS⟩ }
  have e := hfa.symm.trans (PySem.W.mg_of X G a_law)
  cases e
  refine ⟨PySem.W.fnOf "law" "law" (defArgs s_law) (defBody s_law) (defScope s_law) .none kV_law dc_law pm_law an_law cd_law ct_law, fun s v => .of_eq rfl, fun base _ _ => ?_⟩
  exact ok_all (P := P) (w := w) (base := base) T Z GX FN_History_init B_History_init (fun_mk (st := s_law) l_law c_law k_law) D_is_integer D_word_of D_lives D_with_tie D_L_parts_by D_L_hand D_L_draw D_L_lives D_L_there D_is_between D_is_number D_there D_L_history D_L_longest D_L_till D_is_house D_need_moment D_longest_first D_is_of D_kept_then D_joined_till D_fit D_can_be_next D_L_is
end W3
open PySem PySem.W PyProof.Rows in
set_option maxRecDepth 100000 in
set_option maxHeartbeats 0 in
theorem PySem.Challenge.cw_cutlinked_k27_whole_longer_staying_ties_holds : PySem.Challenge.rw_cutlinked_k27_whole_longer_staying_ties.Holds := by
  w_on; o_law; k_head; (case hw => w_witness2)
  k_fill
  refine W3.walk (l := PySem.Challenge.rw_cutlinked_k27_whole_longer_staying_ties) rfl rfl (fun w h Y => PySem.W.kIn_of Y) ?F
  case F =>
    intro w mg fa h KX G hmg
    refine' W3.all_mk KX G hmg ?aC_History ?aE_NoHouse ?aE_NoNumber ?aE_NoMoment ?aE_BadHistory ?a_History_init ?l_History_init ?c_History_init ?k_History_init ?a_is_integer ?l_is_integer ?c_is_integer ?k_is_integer ?a_word_of ?l_word_of ?c_word_of ?k_word_of ?a_lives ?l_lives ?c_lives ?k_lives ?a_with_tie ?l_with_tie ?c_with_tie ?k_with_tie ?a_L_parts_by ?l_L_parts_by ?c_L_parts_by ?k_L_parts_by ?a_L_hand ?l_L_hand ?c_L_hand ?k_L_hand ?a_L_draw ?l_L_draw ?c_L_draw ?k_L_draw ?a_L_lives ?l_L_lives ?c_L_lives ?k_L_lives ?a_L_there ?l_L_there ?c_L_there ?k_L_there ?a_is_between ?l_is_between ?c_is_between ?k_is_between ?a_is_number ?l_is_number ?c_is_number ?k_is_number ?a_there ?l_there ?c_there ?k_there ?a_L_history ?l_L_history ?c_L_history ?k_L_history ?a_L_longest ?l_L_longest ?c_L_longest ?k_L_longest ?a_L_till ?l_L_till ?c_L_till ?k_L_till ?a_is_house ?l_is_house ?c_is_house ?k_is_house ?a_need_moment ?l_need_moment ?c_need_moment ?k_need_moment ?a_longest_first ?l_longest_first ?c_longest_first ?k_longest_first ?a_is_of ?l_is_of ?c_is_of ?k_is_of ?a_kept_then ?l_kept_then ?c_kept_then ?k_kept_then ?a_joined_till ?l_joined_till ?c_joined_till ?k_joined_till ?a_fit ?l_fit ?c_fit ?k_fit ?a_can_be_next ?l_can_be_next ?c_can_be_next ?k_can_be_next ?a_L_is ?l_L_is ?c_L_is ?k_L_is ?a_law ?l_law ?c_law ?k_law ?pg_History ?hd_History ?po_History ?sa_History ?mk_History ?kc_History ?iI_History ?ha_History ?hn_History ?htk_History ?hm_History ?n_History_many ?n_History_deeds ?xl_NoHouse ?xi_NoHouse ?xt_NoHouse ?xf_NoHouse ?xc_NoHouse ?xk_NoHouse ?xe_NoHouse ?xy_NoHouse ?xo_NoHouse ?xs_NoHouse ?xl_NoNumber ?xi_NoNumber ?xt_NoNumber ?xf_NoNumber ?xc_NoNumber ?xk_NoNumber ?xe_NoNumber ?xy_NoNumber ?xo_NoNumber ?xs_NoNumber ?xl_NoMoment ?xi_NoMoment ?xt_NoMoment ?xf_NoMoment ?xc_NoMoment ?xk_NoMoment ?xe_NoMoment ?xy_NoMoment ?xo_NoMoment ?xs_NoMoment ?xl_BadHistory ?xi_BadHistory ?xt_BadHistory ?xf_BadHistory ?xc_BadHistory ?xk_BadHistory ?xe_BadHistory ?xy_BadHistory ?xo_BadHistory ?xs_BadHistory ?xsa_BadHistory ?xga_BadHistory ?xgg_BadHistory ?xnb_BadHistory ?xhc_BadHistory ?gx_k_History_int ?gx_k_History_bool ?gx_k_History_tuple ?gx_k_History_list ?gx_k_History_str ?gx_kk_History_History ?gx_t_NoneType_History ?gx_t_int_History ?gx_t_bool_History ?gx_t_tuple_History ?gx_t_list_History ?gx_t_str_History ?gx_t_dict_History ?ta_FORMS ?tl_FORMS ?tw_FORMS ?tk0_FORMS ?tm0_FORMS ?tk1_FORMS ?tm1_FORMS ?tk2_FORMS ?tm2_FORMS ?nb_all ?nb_enumerate ?nb_tuple ?nb_list ?nb_range ?nb_isinstance ?nb_sorted ?nb_int ?nb_len ?nb_str ?nb_abs ?nb_bool ?nb_zip ?nb_min ?gc_MOST_ENDS ?gc_MOST_DEEDS ?gc_MOST_TIES
    (case aC_History => k_is)
    (case aE_NoHouse => k_is)
    (case aE_NoNumber => k_is)
    (case aE_NoMoment => k_is)
    (case aE_BadHistory => k_is)
    (case a_History_init => k_is)
    (case a_is_integer => k_is)
    (case a_word_of => k_is)
    (case a_lives => k_is)
    (case a_with_tie => k_is)
    (case a_L_parts_by => k_is)
    (case a_L_hand => k_is)
    (case a_L_draw => k_is)
    (case a_L_lives => k_is)
    (case a_L_there => k_is)
    (case a_is_between => k_is)
    (case a_is_number => k_is)
    (case a_there => k_is)
    (case a_L_history => k_is)
    (case a_L_longest => k_is)
    (case a_L_till => k_is)
    (case a_is_house => k_is)
    (case a_need_moment => k_is)
    (case a_longest_first => k_is)
    (case a_is_of => k_is)
    (case a_kept_then => k_is)
    (case a_joined_till => k_is)
    (case a_fit => k_is)
    (case a_can_be_next => k_is)
    (case a_L_is => k_is)
    (case a_law => k_is)
    (case ta_FORMS => k_is)
    (case tl_FORMS => k_is)
    (case l_History_init => k_is)
    (case c_History_init => k_is)
    (case k_History_init => k_is)
    (case l_is_integer => k_is)
    (case c_is_integer => k_is)
    (case k_is_integer => k_is)
    (case l_word_of => k_is)
    (case c_word_of => k_is)
    (case k_word_of => k_is)
    (case l_lives => k_is)
    (case c_lives => k_is)
    (case k_lives => k_is)
    (case l_with_tie => k_is)
    (case c_with_tie => k_is)
    (case k_with_tie => k_is)
    (case l_L_parts_by => k_is)
    (case c_L_parts_by => k_is)
    (case k_L_parts_by => k_is)
    (case l_L_hand => k_is)
    (case c_L_hand => k_is)
    (case k_L_hand => k_is)
    (case l_L_draw => k_is)
    (case c_L_draw => k_is)
    (case k_L_draw => k_is)
    (case l_L_lives => k_is)
    (case c_L_lives => k_is)
    (case k_L_lives => k_is)
    (case l_L_there => k_is)
    (case c_L_there => k_is)
    (case k_L_there => k_is)
    (case l_is_between => k_is)
    (case c_is_between => k_is)
    (case k_is_between => k_is)
    (case l_is_number => k_is)
    (case c_is_number => k_is)
    (case k_is_number => k_is)
    (case l_there => k_is)
    (case c_there => k_is)
    (case k_there => k_is)
    (case l_L_history => k_is)
    (case c_L_history => k_is)
    (case k_L_history => k_is)
    (case l_L_longest => k_is)
    (case c_L_longest => k_is)
    (case k_L_longest => k_is)
    (case l_L_till => k_is)
    (case c_L_till => k_is)
    (case k_L_till => k_is)
    (case l_is_house => k_is)
    (case c_is_house => k_is)
    (case k_is_house => k_is)
    (case l_need_moment => k_is)
    (case c_need_moment => k_is)
    (case k_need_moment => k_is)
    (case l_longest_first => k_is)
    (case c_longest_first => k_is)
    (case k_longest_first => k_is)
    (case l_is_of => k_is)
    (case c_is_of => k_is)
    (case k_is_of => k_is)
    (case l_kept_then => k_is)
    (case c_kept_then => k_is)
    (case k_kept_then => k_is)
    (case l_joined_till => k_is)
    (case c_joined_till => k_is)
    (case k_joined_till => k_is)
    (case l_fit => k_is)
    (case c_fit => k_is)
    (case k_fit => k_is)
    (case l_can_be_next => k_is)
    (case c_can_be_next => k_is)
    (case k_can_be_next => k_is)
    (case l_L_is => k_is)
    (case c_L_is => k_is)
    (case k_L_is => k_is)
    (case l_law => k_is)
    (case c_law => k_is)
    (case k_law => k_is)
    (case pg_History => k_is)
    (case hd_History => k_is)
    (case po_History => k_is)
    (case sa_History => k_is)
    (case mk_History => k_is)
    (case kc_History => k_is)
    (case iI_History => k_is)
    (case ha_History => k_is)
    (case hn_History => k_is)
    (case htk_History => k_is)
    (case hm_History => k_is)
    (case n_History_many => k_is)
    (case n_History_deeds => k_is)
    (case xl_NoHouse => k_is)
    (case xi_NoHouse => k_is)
    (case xt_NoHouse => k_is)
    (case xf_NoHouse => k_is)
    (case xc_NoHouse => k_is)
    (case xk_NoHouse => k_is)
    (case xe_NoHouse => k_is)
    (case xy_NoHouse => k_is)
    (case xo_NoHouse => k_is)
    (case xs_NoHouse => first | rfl | k_is)
    (case xl_NoNumber => k_is)
    (case xi_NoNumber => k_is)
    (case xt_NoNumber => k_is)
    (case xf_NoNumber => k_is)
    (case xc_NoNumber => k_is)
    (case xk_NoNumber => k_is)
    (case xe_NoNumber => k_is)
    (case xy_NoNumber => k_is)
    (case xo_NoNumber => k_is)
    (case xs_NoNumber => first | rfl | k_is)
    (case xl_NoMoment => k_is)
    (case xi_NoMoment => k_is)
    (case xt_NoMoment => k_is)
    (case xf_NoMoment => k_is)
    (case xc_NoMoment => k_is)
    (case xk_NoMoment => k_is)
    (case xe_NoMoment => k_is)
    (case xy_NoMoment => k_is)
    (case xo_NoMoment => k_is)
    (case xs_NoMoment => first | rfl | k_is)
    (case xl_BadHistory => k_is)
    (case xi_BadHistory => k_is)
    (case xt_BadHistory => k_is)
    (case xf_BadHistory => k_is)
    (case xc_BadHistory => k_is)
    (case xk_BadHistory => k_is)
    (case xe_BadHistory => k_is)
    (case xy_BadHistory => k_is)
    (case xo_BadHistory => k_is)
    (case xs_BadHistory => first | rfl | k_is)
    (case xsa_BadHistory => k_is)
    (case xga_BadHistory => k_is)
    (case xgg_BadHistory => k_is)
    (case xnb_BadHistory => k_is)
    (case xhc_BadHistory => k_is)
    (case gx_k_History_int => kit_is)
    (case gx_k_History_bool => kit_is)
    (case gx_k_History_tuple => kit_is)
    (case gx_k_History_list => kit_is)
    (case gx_k_History_str => kit_is)
    (case gx_kk_History_History => kit_is)
    (case gx_t_NoneType_History => kit_is)
    (case gx_t_int_History => kit_is)
    (case gx_t_bool_History => kit_is)
    (case gx_t_tuple_History => kit_is)
    (case gx_t_list_History => kit_is)
    (case gx_t_str_History => kit_is)
    (case gx_t_dict_History => kit_is)
    (case tw_FORMS => rfl)
    (case tk0_FORMS => exact ⟨⟨_, rfl⟩, rfl, rfl⟩)
    (case tm0_FORMS => k_is)
    (case tk1_FORMS => exact ⟨⟨_, rfl⟩, rfl, rfl⟩)
    (case tm1_FORMS => k_is)
    (case tk2_FORMS => exact ⟨⟨_, rfl⟩, rfl, rfl⟩)
    (case tm2_FORMS => k_is)
    (case nb_all => k_is)
    (case nb_enumerate => k_is)
    (case nb_tuple => k_is)
    (case nb_list => k_is)
    (case nb_range => k_is)
    (case nb_isinstance => k_is)
    (case nb_sorted => k_is)
    (case nb_int => k_is)
    (case nb_len => k_is)
    (case nb_str => k_is)
    (case nb_abs => k_is)
    (case nb_bool => k_is)
    (case nb_zip => k_is)
    (case nb_min => k_is)
    (case gc_MOST_ENDS => k_is)
    (case gc_MOST_DEEDS => k_is)
    (case gc_MOST_TIES => k_is)
