import PyProof.Rows.All
import Wide.All
import OpenK.AllK
import Wide.FinOn
import HandS.ForMost
import HandS.IsInst
import HandS.Conv
import HandS.Zip
import HandS.Style
import HandS.Wide
import HandS.Codes
import HandS.TupAny
import HandS.TupMul
import HandS.SlotsOwn
import HandS.ForExc
import PyProof.EqLayable
import HandS.WideBits
import HandS.Walk
import HandS.TryOnly
import KE.GoesMore
import HandS.SetFor
import HandS.SortInts
import HandS.StrMore
import HandS.StrSplit
import HandS.RaiseMore
import KE.KDictCopyH
import PySem.Challenge.RW_cutlinked_k09_whole_handing_on_and_turns
set_option Elab.async false
set_option linter.all false
set_option maxRecDepth 100000
set_option maxHeartbeats 4000000
namespace M3
open PySem PySem.Spec PyProof.Rows L2
/-! ### data that never changes -/
inductive P
  | non | bl (b : Bool) | int (i : Int) | str (s : Str)
  | tup (l : List P) | lst (l : List P) | dic (l : List (P × P)) | ins (C : Addr) (l : List (Str × P))
  | con (v : V) | scr (l : List Int)
/-- data, or an object by its number -/
inductive D
  | dat (p : P) | obj (i : Nat)
/-- what stands at a number -/
inductive O
  | lst (l : List D) | ins (C : Addr) (l : List (Str × D)) | dic (l : List (Key × D))
/-- a tuple, a list to be read, that never changes -/
def TupAt (K : PySem.W.Frag) (ι X : List Addr) (H : Hp) (a : Addr) (xs : List V) : Prop := (a ∉ ι ∧ a ∉ X ∧ Rd H a (.tup xs)) ∨
    ∃ (o : Obj) (its : Array Value) (n : Nat), K.lookup a = some o ∧ o.cls = .type "tuple" ∧ o.data = .seq its n ∧ its.size ≤ sizeLine ∧ Vals xs its.toList
def LstAt (K : PySem.W.Frag) (ι X : List Addr) (H : Hp) (a : Addr) (xs : List V) : Prop := (a ∉ ι ∧ a ∉ X ∧ Rd H a (.lst xs)) ∨
    ∃ (o : Obj) (its : Array Value) (n : Nat), K.lookup a = some o ∧ o.cls = .type "list" ∧ o.dict = none ∧ o.data = .seq its n ∧ its.size ≤ sizeLine ∧ Vals xs its.toList
theorem TupAt.sq {K : PySem.W.Frag} {ι X : List Addr} {H : Hp} {a : Addr} {xs : List V} (t : TupAt K ι X H a xs) : SqT K H a xs := t.imp (fun x => x.2.2) id
theorem LstAt.sq {K : PySem.W.Frag} {ι X : List Addr} {H : Hp} {a : Addr} {xs : List V} (t : LstAt K ι X H a xs) : SqL K H a xs := t.imp (fun x => x.2.2) id
section
variable (K : PySem.W.Frag) (ι X : List Addr) (H : Hp)
mutual
def RepP : P → V → Prop
  | .non, v => v = .non
  | .bl b, v => v = .bl b
  | .int i, v => v = .int i
  | .str s, v => v = .str s
  | .tup l, v => ∃ a xs, v = .ref a ∧ TupAt K ι X H a xs ∧ RepPs l xs
  | .lst l, v => ∃ a xs, v = .ref a ∧ a ∉ ι ∧ a ∉ X ∧ H a = some (.lst xs) ∧ RepPs l xs
  | .dic l, v => ∃ a xs, v = .ref a ∧ a ∉ ι ∧ a ∉ X ∧ H a = some (.dK xs) ∧ RepKs l xs
  | .ins C l, v => ∃ a dx xs, v = .ref a ∧ a ∉ ι ∧ a ∉ X ∧ H a = some (.ins C dx xs) ∧ RepFs l xs
  | .con w, v => v = w
  | .scr l, v => ∃ a, v = .ref a ∧ LstAt K ι X H a (l.map V.int)
def RepPs : List P → List V → Prop
  | [], xs => xs = []
  | p :: ps, xs => ∃ y ys, xs = y :: ys ∧ RepP p y ∧ RepPs ps ys
def RepKs : List (P × P) → List (Key × V) → Prop
  | [], xs => xs = []
  | (k, p) :: ps, xs => ∃ c y ys, xs = (c, y) :: ys ∧ RepP k (kV c) ∧ RepP p y ∧ RepKs ps ys
def RepFs : List (Str × P) → List (Str × V) → Prop
  | [], xs => xs = []
  | (f, p) :: ps, xs => ∃ y ys, xs = (f, y) :: ys ∧ RepP p y ∧ RepFs ps ys
end
def RepD : D → V → Prop
  | .dat p, v => RepP K ι X H p v
  | .obj i, v => ∃ a, ι[i]? = some a ∧ v = .ref a
def RepDs : List D → List V → Prop
  | [], xs => xs = []
  | p :: ps, xs => ∃ y ys, xs = y :: ys ∧ RepD K ι X H p y ∧ RepDs ps ys
def RepDF : List (Str × D) → List (Str × V) → Prop
  | [], xs => xs = []
  | (f, p) :: ps, xs => ∃ y ys, xs = (f, y) :: ys ∧ RepD K ι X H p y ∧ RepDF ps ys
def RepDK : List (Key × D) → List (Key × V) → Prop
  | [], xs => xs = []
  | (f, p) :: ps, xs => ∃ y ys, xs = (f, y) :: ys ∧ RepD K ι X H p y ∧ RepDK ps ys
def RepO : O → Addr → Prop
  | .lst l, a => ∃ xs, H a = some (.lst xs) ∧ RepDs K ι X H l xs
  | .ins C l, a => ∃ dx xs, H a = some (.ins C dx xs) ∧ RepDF K ι X H l xs
  | .dic l, a => ∃ xs, H a = some (.dK xs) ∧ RepDK K ι X H l xs
end
abbrev Store := List O
/-- the store lies in the heap; X: lists that are being made -/
structure Rel (K : PySem.W.Frag) (ι X : List Addr) (S : Store) (H : Hp) : Prop where
  len : ι.length = S.length
  nd : ι.Nodup
  at_ : ∀ (i : Nat) o a, S[i]? = some o → ι[i]? = some a → RepO K ι X H o a
  ex : ∀ a ∈ X, a ∉ ι ∧ ∃ o, H a = some o
/-- what stays -/
structure Ext (ι : List Addr) (H : Hp) (ι' : List Addr) (H' : Hp) : Prop where
  pre : ∃ t, ι' = ι ++ t
  old : ∀ b o, b ∉ ι → H b = some o → H' b = some o
  new : ∀ b, b ∈ ι' → b ∉ ι → H b = none
theorem Ext.refl {ι : List Addr} {H : Hp} : Ext ι H ι H := ⟨⟨[], by simp⟩, fun _ _ _ e => e, fun b h n => absurd h n⟩
theorem Ext.nin {ι ι' : List Addr} {H H' : Hp} (x : Ext ι H ι' H') {a : Addr} {o : HO} (n : a ∉ ι) (e : H a = some o) : a ∉ ι' := fun m => by
  rw [x.new a m n] at e
  cases e
theorem Ext.trans {ι ι1 ι2 : List Addr} {H H1 H2 : Hp} (x : Ext ι H ι1 H1) (y : Ext ι1 H1 ι2 H2) : Ext ι H ι2 H2 := by
  obtain ⟨t, et⟩ := x.pre
  obtain ⟨u, eu⟩ := y.pre
  refine ⟨⟨t ++ u, by rw [eu, et, List.append_assoc]⟩, fun b o n e => y.old b o (x.nin n e) (x.old b o n e), fun b m n => ?_⟩
  by_cases q : b ∈ ι1
  · exact x.new b q n
  · have h1 := y.new b m q
    cases e : H b with
    | none => rfl
    | some o => rw [x.old b o n e] at h1; cases h1
theorem Ext.at {ι ι' : List Addr} {H H' : Hp} (x : Ext ι H ι' H') {i : Nat} {a : Addr} (e : ι[i]? = some a) : ι'[i]? = some a := by
  obtain ⟨t, rfl⟩ := x.pre
  rw [List.getElem?_append_left (List.getElem?_eq_some_iff.mp e).1]
  exact e
theorem rd_ext {ι ι' : List Addr} {H H' : Hp} {a : Addr} {u : HO} (x : Ext ι H ι' H') (n : a ∉ ι) (r : Rd H a u) : Rd H' a u ∧ a ∉ ι' := by
  rcases r with r | ⟨o, r⟩
  · exact ⟨.inl (x.old _ _ n r), x.nin n r⟩
  · exact ⟨.inr ⟨o, x.old _ _ n r⟩, x.nin n r⟩
theorem TupAt.ext {K : PySem.W.Frag} {ι ι' X : List Addr} {H H' : Hp} {a : Addr} {xs : List V} (x : Ext ι H ι' H') (r : TupAt K ι X H a xs) : TupAt K ι' X H' a xs :=
  r.imp (fun ⟨n, m, r⟩ => let ⟨r, n⟩ := rd_ext x n r; ⟨n, m, r⟩) id
theorem LstAt.ext {K : PySem.W.Frag} {ι ι' X : List Addr} {H H' : Hp} {a : Addr} {xs : List V} (x : Ext ι H ι' H') (r : LstAt K ι X H a xs) : LstAt K ι' X H' a xs :=
  r.imp (fun ⟨n, m, r⟩ => let ⟨r, n⟩ := rd_ext x n r; ⟨n, m, r⟩) id
mutual
theorem RepP.ext {K : PySem.W.Frag} {ι ι' X : List Addr} {H H' : Hp} (x : Ext ι H ι' H') : ∀ {p : P} {v : V}, RepP K ι X H p v → RepP K ι' X H' p v
  | .non, _, r => by rw [RepP] at r ⊢; exact r
  | .bl _, _, r => by rw [RepP] at r ⊢; exact r
  | .int _, _, r => by rw [RepP] at r ⊢; exact r
  | .str _, _, r => by rw [RepP] at r ⊢; exact r
  | .con _, _, r => by rw [RepP] at r ⊢; exact r
  | .tup _, _, r => by
    rw [RepP] at r ⊢
    obtain ⟨a, xs, e, f, g⟩ := r
    exact ⟨a, xs, e, f.ext x, RepPs.ext x g⟩
  | .lst _, _, r => by
    rw [RepP] at r ⊢
    obtain ⟨a, xs, e, n, m, f, g⟩ := r
    exact ⟨a, xs, e, x.nin n f, m, x.old _ _ n f, RepPs.ext x g⟩
  | .dic _, _, r => by
    rw [RepP] at r ⊢
    obtain ⟨a, xs, e, n, m, f, g⟩ := r
    exact ⟨a, xs, e, x.nin n f, m, x.old _ _ n f, RepKs.ext x g⟩
  | .ins _ _, _, r => by
    rw [RepP] at r ⊢
    obtain ⟨a, dx, xs, e, n, m, f, g⟩ := r
    exact ⟨a, dx, xs, e, x.nin n f, m, x.old _ _ n f, RepFs.ext x g⟩
  | .scr _, _, r => by
    rw [RepP] at r ⊢
    obtain ⟨a, e, f⟩ := r
    exact ⟨a, e, f.ext x⟩
theorem RepPs.ext {K : PySem.W.Frag} {ι ι' X : List Addr} {H H' : Hp} (x : Ext ι H ι' H') : ∀ {p : List P} {v : List V}, RepPs K ι X H p v → RepPs K ι' X H' p v
  | [], _, r => by rw [RepPs] at r ⊢; exact r
  | _ :: _, _, r => by
    rw [RepPs] at r ⊢
    obtain ⟨y, ys, e, f, g⟩ := r
    exact ⟨y, ys, e, RepP.ext x f, RepPs.ext x g⟩
theorem RepKs.ext {K : PySem.W.Frag} {ι ι' X : List Addr} {H H' : Hp} (x : Ext ι H ι' H') : ∀ {p : List (P × P)} {v : List (Key × V)}, RepKs K ι X H p v → RepKs K ι' X H' p v
  | [], _, r => by rw [RepKs] at r ⊢; exact r
  | (_, _) :: _, _, r => by
    rw [RepKs] at r ⊢
    obtain ⟨c, y, ys, e, f, g, h⟩ := r
    exact ⟨c, y, ys, e, RepP.ext x f, RepP.ext x g, RepKs.ext x h⟩
theorem RepFs.ext {K : PySem.W.Frag} {ι ι' X : List Addr} {H H' : Hp} (x : Ext ι H ι' H') : ∀ {p : List (Str × P)} {v : List (Str × V)}, RepFs K ι X H p v → RepFs K ι' X H' p v
  | [], _, r => by rw [RepFs] at r ⊢; exact r
  | (_, _) :: _, _, r => by
    rw [RepFs] at r ⊢
    obtain ⟨y, ys, e, f, g⟩ := r
    exact ⟨y, ys, e, RepP.ext x f, RepFs.ext x g⟩
end
theorem RepD.ext {K : PySem.W.Frag} {ι ι' X : List Addr} {H H' : Hp} (x : Ext ι H ι' H') : ∀ {p : D} {v : V}, RepD K ι X H p v → RepD K ι' X H' p v
  | .dat _, _, r => RepP.ext x r
  | .obj _, _, ⟨a, e, h⟩ => ⟨a, x.at e, h⟩
theorem RepDs.ext {K : PySem.W.Frag} {ι ι' X : List Addr} {H H' : Hp} (x : Ext ι H ι' H') : ∀ {p : List D} {v : List V}, RepDs K ι X H p v → RepDs K ι' X H' p v
  | [], _, r => r
  | _ :: _, _, ⟨y, ys, e, f, g⟩ => ⟨y, ys, e, f.ext x, RepDs.ext x g⟩
theorem RepDF.ext {K : PySem.W.Frag} {ι ι' X : List Addr} {H H' : Hp} (x : Ext ι H ι' H') : ∀ {p : List (Str × D)} {v : List (Str × V)}, RepDF K ι X H p v → RepDF K ι' X H' p v
  | [], _, r => r
  | (_, _) :: _, _, ⟨y, ys, e, f, g⟩ => ⟨y, ys, e, f.ext x, RepDF.ext x g⟩
theorem RepDK.ext {K : PySem.W.Frag} {ι ι' X : List Addr} {H H' : Hp} (x : Ext ι H ι' H') : ∀ {p : List (Key × D)} {v : List (Key × V)}, RepDK K ι X H p v → RepDK K ι' X H' p v
  | [], _, r => r
  | (_, _) :: _, _, ⟨y, ys, e, f, g⟩ => ⟨y, ys, e, f.ext x, RepDK.ext x g⟩
/-! ### a change that no data sees: at tracked places, at places in X, at places that were free -/
structure OutP (ι X : List Addr) (H : Hp) (ι' X' : List Addr) (H' : Hp) : Prop where
  ok : ∀ a o, a ∉ ι → a ∉ X → H a = some o → H' a = some o ∧ a ∉ ι' ∧ a ∉ X'
structure Out1 (ι X : List Addr) (H : Hp) (ι' X' : List Addr) (H' : Hp) : Prop where
  at_ : ∀ {i : Nat} {a : Addr}, ι[i]? = some a → ι'[i]? = some a
  ok : ∀ a o, a ∉ ι → a ∉ X → H a = some o → H' a = some o ∧ a ∉ ι' ∧ a ∉ X'
theorem TupAt.out {K : PySem.W.Frag} {ι X ι' X' : List Addr} {H H' : Hp} {a : Addr} {xs : List V} (x : OutP ι X H ι' X' H') (r : TupAt K ι X H a xs) : TupAt K ι' X' H' a xs :=
  r.imp (fun ⟨n, m, r⟩ => by
    rcases r with r | ⟨o, r⟩
    · obtain ⟨p, q, s⟩ := x.ok _ _ n m r
      exact ⟨q, s, .inl p⟩
    · obtain ⟨p, q, s⟩ := x.ok _ _ n m r
      exact ⟨q, s, .inr ⟨o, p⟩⟩) id
theorem LstAt.out {K : PySem.W.Frag} {ι X ι' X' : List Addr} {H H' : Hp} {a : Addr} {xs : List V} (x : OutP ι X H ι' X' H') (r : LstAt K ι X H a xs) : LstAt K ι' X' H' a xs :=
  r.imp (fun ⟨n, m, r⟩ => by
    rcases r with r | ⟨o, r⟩
    · obtain ⟨p, q, s⟩ := x.ok _ _ n m r
      exact ⟨q, s, .inl p⟩
    · obtain ⟨p, q, s⟩ := x.ok _ _ n m r
      exact ⟨q, s, .inr ⟨o, p⟩⟩) id
mutual
theorem RepP.out {K : PySem.W.Frag} {ι X ι' X' : List Addr} {H H' : Hp} (x : OutP ι X H ι' X' H') : ∀ {p : P} {v : V}, RepP K ι X H p v → RepP K ι' X' H' p v
  | .non, _, r => by rw [RepP] at r ⊢; exact r
  | .bl _, _, r => by rw [RepP] at r ⊢; exact r
  | .int _, _, r => by rw [RepP] at r ⊢; exact r
  | .str _, _, r => by rw [RepP] at r ⊢; exact r
  | .con _, _, r => by rw [RepP] at r ⊢; exact r
  | .tup _, _, r => by
    rw [RepP] at r ⊢
    obtain ⟨a, xs, e, f, g⟩ := r
    exact ⟨a, xs, e, f.out x, RepPs.out x g⟩
  | .lst _, _, r => by
    rw [RepP] at r ⊢
    obtain ⟨a, xs, e, n, m, f, g⟩ := r
    obtain ⟨p, q, s⟩ := x.ok _ _ n m f
    exact ⟨a, xs, e, q, s, p, RepPs.out x g⟩
  | .dic _, _, r => by
    rw [RepP] at r ⊢
    obtain ⟨a, xs, e, n, m, f, g⟩ := r
    obtain ⟨p, q, s⟩ := x.ok _ _ n m f
    exact ⟨a, xs, e, q, s, p, RepKs.out x g⟩
  | .ins _ _, _, r => by
    rw [RepP] at r ⊢
    obtain ⟨a, dx, xs, e, n, m, f, g⟩ := r
    obtain ⟨p, q, s⟩ := x.ok _ _ n m f
    exact ⟨a, dx, xs, e, q, s, p, RepFs.out x g⟩
  | .scr _, _, r => by
    rw [RepP] at r ⊢
    obtain ⟨a, e, f⟩ := r
    exact ⟨a, e, f.out x⟩
theorem RepPs.out {K : PySem.W.Frag} {ι X ι' X' : List Addr} {H H' : Hp} (x : OutP ι X H ι' X' H') : ∀ {p : List P} {v : List V}, RepPs K ι X H p v → RepPs K ι' X' H' p v
  | [], _, r => by rw [RepPs] at r ⊢; exact r
  | _ :: _, _, r => by
    rw [RepPs] at r ⊢
    obtain ⟨y, ys, e, f, g⟩ := r
    exact ⟨y, ys, e, RepP.out x f, RepPs.out x g⟩
theorem RepKs.out {K : PySem.W.Frag} {ι X ι' X' : List Addr} {H H' : Hp} (x : OutP ι X H ι' X' H') : ∀ {p : List (P × P)} {v : List (Key × V)}, RepKs K ι X H p v → RepKs K ι' X' H' p v
  | [], _, r => by rw [RepKs] at r ⊢; exact r
  | (_, _) :: _, _, r => by
    rw [RepKs] at r ⊢
    obtain ⟨c, y, ys, e, f, g, h⟩ := r
    exact ⟨c, y, ys, e, RepP.out x f, RepP.out x g, RepKs.out x h⟩
theorem RepFs.out {K : PySem.W.Frag} {ι X ι' X' : List Addr} {H H' : Hp} (x : OutP ι X H ι' X' H') : ∀ {p : List (Str × P)} {v : List (Str × V)}, RepFs K ι X H p v → RepFs K ι' X' H' p v
  | [], _, r => by rw [RepFs] at r ⊢; exact r
  | (_, _) :: _, _, r => by
    rw [RepFs] at r ⊢
    obtain ⟨y, ys, e, f, g⟩ := r
    exact ⟨y, ys, e, RepP.out x f, RepFs.out x g⟩
end
section
variable {K : PySem.W.Frag} {ι X ι' X' : List Addr} {H H' : Hp} (x : Out1 ι X H ι' X' H')
include x
theorem Out1.p : OutP ι X H ι' X' H' := ⟨x.ok⟩
theorem RepD.out : ∀ {p : D} {v : V}, RepD K ι X H p v → RepD K ι' X' H' p v
  | .dat _, _, r => RepP.out (Out1.p x) r
  | .obj _, _, ⟨a, e, h⟩ => ⟨a, x.at_ e, h⟩
theorem RepDs.out : ∀ {p : List D} {v : List V}, RepDs K ι X H p v → RepDs K ι' X' H' p v
  | [], _, r => r
  | _ :: _, _, ⟨y, ys, e, f, g⟩ => ⟨y, ys, e, RepD.out x f, RepDs.out g⟩
theorem RepDF.out : ∀ {p : List (Str × D)} {v : List (Str × V)}, RepDF K ι X H p v → RepDF K ι' X' H' p v
  | [], _, r => r
  | (_, _) :: _, _, ⟨y, ys, e, f, g⟩ => ⟨y, ys, e, RepD.out x f, RepDF.out g⟩
theorem RepDK.out : ∀ {p : List (Key × D)} {v : List (Key × V)}, RepDK K ι X H p v → RepDK K ι' X' H' p v
  | [], _, r => r
  | (_, _) :: _, _, ⟨y, ys, e, f, g⟩ => ⟨y, ys, e, RepD.out x f, RepDK.out g⟩
end
theorem Out1.ext {ι ι' X : List Addr} {H H' : Hp} (x : Ext ι H ι' H') : Out1 ι X H ι' X H' := ⟨fun e => x.at e, fun a o n m e => ⟨x.old a o n e, x.nin n e, m⟩⟩
end M3
namespace M3
open PySem PySem.Spec PyProof.Rows L2
/-! ### results -/
inductive R (α : Type)
  | ok (a : α) (S : Store) | exc (C : Addr) (x : Option (Str × P)) (S : Store) | fail
def R.bind {α β : Type} (r : R α) (f : α → Store → R β) : R β := match r with
  | .ok a S => f a S
  | .exc C x S => .exc C x S
  | .fail => .fail
@[simp] theorem R.bind_ok {α β : Type} {a : α} {S : Store} {f : α → Store → R β} : (R.ok a S).bind f = f a S := rfl
@[simp] theorem R.bind_exc {α β : Type} {C : Addr} {x : Option (Str × P)} {S : Store} {f : α → Store → R β} : (R.exc C x S : R α).bind f = .exc C x S := rfl
@[simp] theorem R.bind_fail {α β : Type} {f : α → Store → R β} : (R.fail : R α).bind f = .fail := rfl
abbrev DEnv := List (Option D)
abbrev DE := DEnv → Store → R D
abbrev DA := DEnv → Store → R (List D)
abbrev DT := DEnv → Store → R Bool
/-- a statement's end -/
inductive Out
  | nx (δ : DEnv) | rt (d : D) | bk (δ : DEnv) | ct (δ : DEnv) | ex (C : Addr) (x : Option (Str × P)) (δ : DEnv)
abbrev DS := DEnv → Store → R Out
section
variable (K : PySem.W.Frag)
def RepX (ι X : List Addr) (H : Hp) : Option (Str × P) → Option Addr → Prop
  | none, da => da = none
  | some (f, p), da => ∃ d v, da = some d ∧ H d = some (.xd [(f, v)]) ∧ RepP K ι X H p v
def RepE (ι X : List Addr) (H : Hp) (δ : DEnv) (σ : L2.St) : Prop := δ.length = σ.length ∧ ∀ (i : Nat) d, δ[i]? = some (some d) → ∃ v, σ[i]? = some (some v) ∧ RepD K ι X H d v
abbrev WK := Value → Option Addr → Hp → Prop
def Post {α β : Type} (X ι : List Addr) (H : Hp) (W : WK) (r : R α) (Rp : List Addr → Hp → α → β → Prop) (Q : β → Hp → Prop) : Prop := match r with
  | .ok a S' => ∀ ι' H' v, Ext ι H ι' H' → Rel K ι' X S' H' → Rp ι' H' a v → Q v H'
  | .exc C x S' => ∀ ι' H' da, Ext ι H ι' H' → Rel K ι' X S' H' → RepX K ι' X H' x da → W (.ref C) da H'
  | .fail => False
end
section
variable {K : PySem.W.Frag} {X ι : List Addr} {H : Hp} {α β γ ε : Type} {W : WK}
theorem Post.ext {r : R α} {Rp : List Addr → Hp → α → β → Prop} {Q : β → Hp → Prop} {ι1 : List Addr} {H1 : Hp} (x : Ext ι H ι1 H1) (h : Post K X ι H W r Rp Q) : Post K X ι1 H1 W r Rp Q := by
  cases r with
  | ok a S => exact fun ι' H' v y => h ι' H' v (x.trans y)
  | exc C z S => exact fun ι' H' v y => h ι' H' v (x.trans y)
  | fail => exact h
theorem Post.bind {r : R α} {f : α → Store → R γ} {Rp : List Addr → Hp → γ → ε → Prop} {Q : ε → Hp → Prop} {Rp1 : List Addr → Hp → α → β → Prop} {Q1 : β → Hp → Prop} (h : Post K X ι H W (r.bind f) Rp Q)
    (k : ∀ ι1 H1 a S1 v, Ext ι H ι1 H1 → Rel K ι1 X S1 H1 → Rp1 ι1 H1 a v → Post K X ι1 H1 W (f a S1) Rp Q → Q1 v H1) : Post K X ι H W r Rp1 Q1 := by
  cases r with
  | ok a S => exact fun ι' H' v x rel rp => k ι' H' a S v x rel rp (Post.ext x h)
  | exc C z S => exact h
  | fail => exact h
theorem Post.mono {r : R α} {Rp : List Addr → Hp → α → β → Prop} {Q : β → Hp → Prop} {Rp1 : List Addr → Hp → α → ε → Prop} {Q1 : ε → Hp → Prop} (h : Post K X ι H W r Rp Q)
    (k : ∀ ι1 H1 a v, Ext ι H ι1 H1 → Rp1 ι1 H1 a v → ∃ u, Rp ι1 H1 a u ∧ (Q u H1 → Q1 v H1)) : Post K X ι H W r Rp1 Q1 := by
  cases r with
  | ok a S => exact fun ι' H' v x rel rp => let ⟨u, a, b⟩ := k ι' H' _ v x rp; b (h ι' H' u x rel a)
  | exc C z S => exact h
  | fail => exact h
end
theorem RepE.ext {K : PySem.W.Frag} {ι ι' X : List Addr} {H H' : Hp} {δ : DEnv} {σ : L2.St} (x : Ext ι H ι' H') (r : RepE K ι X H δ σ) : RepE K ι' X H' δ σ := ⟨r.1, fun i d e => let ⟨v, a, b⟩ := r.2 i d e; ⟨v, a, b.ext x⟩⟩
theorem RepE.out {K : PySem.W.Frag} {ι ι' X X' : List Addr} {H H' : Hp} {δ : DEnv} {σ : L2.St} (x : Out1 ι X H ι' X' H') (r : RepE K ι X H δ σ) : RepE K ι' X' H' δ σ := ⟨r.1, fun i d e => let ⟨v, a, b⟩ := r.2 i d e; ⟨v, a, b.out x⟩⟩
theorem RepE.set {K : PySem.W.Frag} {ι X : List Addr} {H : Hp} {δ : DEnv} {σ : L2.St} {d : D} {v : V} {i : Nat} (r : RepE K ι X H δ σ) (q : RepD K ι X H d v) : RepE K ι X H (δ.set i (some d)) (σ.set i (some v)) := by
  refine ⟨by rw [List.length_set, List.length_set]; exact r.1, fun j e h => ?_⟩
  by_cases z : i = j
  · subst z
    have hi : i < δ.length := by have := (List.getElem?_eq_some_iff.mp h).1; rwa [List.length_set] at this
    rw [List.getElem?_set_self hi] at h
    cases h
    exact ⟨v, List.getElem?_set_self (by rw [← r.1]; exact hi), q⟩
  · rw [List.getElem?_set_ne z] at h
    obtain ⟨u, a, b⟩ := r.2 j e h
    exact ⟨u, by rw [List.getElem?_set_ne z]; exact a, b⟩
theorem RepE.wipe1 {K : PySem.W.Frag} {ι X : List Addr} {H : Hp} {δ : DEnv} {σ : L2.St} {i : Nat} (r : RepE K ι X H δ σ) : RepE K ι X H (δ.set i none) (σ.set i none) := by
  refine ⟨by rw [List.length_set, List.length_set]; exact r.1, fun j e h => ?_⟩
  by_cases z : i = j
  · subst z
    have hi : i < δ.length := by have := (List.getElem?_eq_some_iff.mp h).1; rwa [List.length_set] at this
    rw [List.getElem?_set_self hi] at h
    cases h
  · rw [List.getElem?_set_ne z] at h
    obtain ⟨u, a, b⟩ := r.2 j e h
    exact ⟨u, by rw [List.getElem?_set_ne z]; exact a, b⟩
def wipeD (δ : DEnv) : List Nat → DEnv
  | [] => δ
  | v :: vs => (wipeD δ vs).set v none
theorem RepE.wipe {K : PySem.W.Frag} {ι X : List Addr} {H : Hp} {δ : DEnv} {σ : L2.St} (r : RepE K ι X H δ σ) : ∀ vs, RepE K ι X H (wipeD δ vs) (wipe σ vs)
  | [] => r
  | v :: vs => (RepE.wipe r vs).wipe1
/-! ### the judgements: a reading is answered by a function of data -/
section
variable (K : PySem.W.Frag) (W : L2.St → WK)
def SE (t : TE) (m : DE) : Prop := ∀ ι X S H σ δ Q, Rel K ι X S H → RepE K ι X H δ σ → Post K X ι H (W σ) (m δ S) (fun ι' H' d v => RepD K ι' X H' d v) Q → t σ H Q
def SA (t : TA) (m : DA) : Prop := ∀ ι X S H σ δ Q, Rel K ι X S H → RepE K ι X H δ σ → Post K X ι H (W σ) (m δ S) (fun ι' H' d v => RepDs K ι' X H' d v) Q → t σ H Q
def ST (t : TT) (m : DT) : Prop := ∀ ι X S H σ δ Q, Rel K ι X S H → RepE K ι X H δ σ → Post K X ι H (W σ) (m δ S) (fun _ _ d v => v = d) Q → t σ H Q
/-- a new list, that nothing else knows -/
def PostL (X ι : List Addr) (H : Hp) (W : WK) (r : R (List D)) (Q : V → Hp → Prop) : Prop := match r with
  | .ok ds S' => ∀ ι' H' p xs, Ext ι H ι' H' → Rel K ι' (p :: X) S' H' → H p = none → H' p = some (.lst xs) → RepDs K ι' (p :: X) H' ds xs → Q (.ref p) H'
  | .exc C x S' => ∀ ι' H' da, Ext ι H ι' H' → Rel K ι' X S' H' → RepX K ι' X H' x da → W (.ref C) da H'
  | .fail => False
def SL (t : TE) (m : DA) : Prop := ∀ ι X S H σ δ Q, Rel K ι X S H → RepE K ι X H δ σ → PostL K X ι H (W σ) (m δ S) Q → t σ H Q
def PostS (X ι : List Addr) (H : Hp) (r : R Out) (E : Ends) : Prop := match r with
  | .ok (.nx δ) S' => ∀ ι' H' σ, Ext ι H ι' H' → Rel K ι' X S' H' → RepE K ι' X H' δ σ → E.nx σ H'
  | .ok (.bk δ) S' => ∀ ι' H' σ, Ext ι H ι' H' → Rel K ι' X S' H' → RepE K ι' X H' δ σ → E.bk σ H'
  | .ok (.ct δ) S' => ∀ ι' H' σ, Ext ι H ι' H' → Rel K ι' X S' H' → RepE K ι' X H' δ σ → E.ct σ H'
  | .ok (.rt d) S' => ∀ ι' H' v, Ext ι H ι' H' → Rel K ι' X S' H' → RepD K ι' X H' d v → E.rt v H'
  | .ok (.ex C x δ) S' => ∀ ι' H' da σ, Ext ι H ι' H' → Rel K ι' X S' H' → RepX K ι' X H' x da → RepE K ι' X H' δ σ → W σ (.ref C) da H'
  | .exc _ _ _ => False
  | .fail => False
def SS (t : TS) (m : DS) : Prop := ∀ ι X S H σ δ E, Rel K ι X S H → RepE K ι X H δ σ → PostS K W X ι H (m δ S) E → t E σ H
end
theorem ext_free {ι ι' : List Addr} {H H' : Hp} (x : Ext ι H ι' H') {p : Addr} (n : p ∉ ι') (e : H' p = none) : H p = none := by
  cases h : H p with
  | none => rfl
  | some u =>
    have z : p ∉ ι := fun m => by
      obtain ⟨t, et⟩ := x.pre
      exact n (by rw [et]; exact List.mem_append_left _ m)
    rw [x.old p u z h] at e
    cases e
theorem PostS.ext {K : PySem.W.Frag} {W : L2.St → WK} {X ι : List Addr} {H : Hp} {r : R Out} {E : Ends} {ι1 : List Addr} {H1 : Hp} (x : Ext ι H ι1 H1) (h : PostS K W X ι H r E) : PostS K W X ι1 H1 r E := by
  cases r with
  | ok o S => cases o with
    | nx => exact fun ι' H' v y => h ι' H' v (x.trans y)
    | bk => exact fun ι' H' v y => h ι' H' v (x.trans y)
    | ct => exact fun ι' H' v y => h ι' H' v (x.trans y)
    | rt => exact fun ι' H' v y => h ι' H' v (x.trans y)
    | ex => exact fun ι' H' v σ y => h ι' H' v σ (x.trans y)
  | exc C z S => exact h
  | fail => exact h
/-- an expression's result within a statement -/
def R.st {α : Type} (r : R α) (δ : DEnv) (f : α → Store → R Out) : R Out := match r with
  | .ok a S => f a S
  | .exc C x S => .ok (.ex C x δ) S
  | .fail => .fail
@[simp] theorem R.st_ok {α : Type} {a : α} {S : Store} {δ : DEnv} {f : α → Store → R Out} : (R.ok a S).st δ f = f a S := rfl
@[simp] theorem R.st_exc {α : Type} {C : Addr} {x : Option (Str × P)} {S : Store} {δ : DEnv} {f : α → Store → R Out} : (R.exc C x S : R α).st δ f = .ok (.ex C x δ) S := rfl
@[simp] theorem R.st_fail {α : Type} {δ : DEnv} {f : α → Store → R Out} : (R.fail : R α).st δ f = .fail := rfl
theorem PostS.st {K : PySem.W.Frag} {W : L2.St → WK} {X ι : List Addr} {H : Hp} {α β : Type} {r : R α} {δ : DEnv} {σ : L2.St} {f : α → Store → R Out} {E : Ends} {Rp : List Addr → Hp → α → β → Prop} {Q : β → Hp → Prop} (re : RepE K ι X H δ σ) (h : PostS K W X ι H (r.st δ f) E)
    (k : ∀ ι1 H1 a S1 v, Ext ι H ι1 H1 → Rel K ι1 X S1 H1 → Rp ι1 H1 a v → PostS K W X ι1 H1 (f a S1) E → Q v H1) : Post K X ι H (W σ) r Rp Q := by
  cases r with
  | ok a S => exact fun ι' H' v x rel rp => k ι' H' a S v x rel rp (PostS.ext x h)
  | exc C z S => exact fun ι' H' da x rel rx => h ι' H' da σ x rel rx (re.ext x)
  | fail => exact h
end M3
namespace M3
open PySem PySem.Spec PyProof.Rows L2
/-! ### functions of data: what each construct does -/
def oR {α : Type} (o : Option α) (S : Store) : R α := match o with
  | some a => .ok a S
  | none => .fail
@[simp] theorem oR_some {α : Type} {a : α} {S : Store} : oR (some a) S = .ok a S := rfl
@[simp] theorem oR_none {α : Type} {S : Store} : (oR none S : R α) = .fail := rfl
def mVar (i : Nat) : DE := fun δ S => match δ[i]? with
  | some (some d) => .ok d S
  | _ => .fail
def mC (p : P) : DE := fun _ S => .ok (.dat p) S
def mOp (f : Store → D → D → Option D) (a b : DE) : DE := fun δ S => (a δ S).bind fun x S1 => (b δ S1).bind fun y S2 => oR (f S2 x y) S2
def mUn (f : Store → D → Option D) (a : DE) : DE := fun δ S => (a δ S).bind fun x S1 => oR (f S1 x) S1
def mNil : DA := fun _ S => .ok [] S
def mCons (a : DE) (r : DA) : DA := fun δ S => (a δ S).bind fun x S1 => (r δ S1).bind fun xs S2 => .ok (x :: xs) S2
/-- all are data -/
def datAll : List D → Option (List P)
  | [] => some []
  | .dat p :: ds => (datAll ds).map (p :: ·)
  | .obj _ :: _ => none
def mTup (a : DA) : DE := fun δ S => (a δ S).bind fun ds S1 => match datAll ds with
  | some ps => if ps.length ≤ 100000 then .ok (.dat (.tup ps)) S1 else .fail
  | none => .fail
def mLst (a : DA) : DA := fun δ S => (a δ S).bind fun ds S1 => if ds.length ≤ 100000 then .ok ds S1 else .fail
/-- a new list that will not change -/
def mFrz (a : DA) : DE := fun δ S => (a δ S).bind fun ds S1 => match datAll ds with
  | some ps => .ok (.dat (.lst ps)) S1
  | none => .fail
/-- a new list that may change -/
def mTrk (a : DA) : DE := fun δ S => (a δ S).bind fun ds S1 => .ok (.obj S1.length) (S1 ++ [.lst ds])
def asB : D → Option Bool
  | .dat (.bl b) => some b
  | _ => none
def mAnd (a b : DE) : DE := fun δ S => (a δ S).bind fun x S1 => match asB x with
  | some true => b δ S1
  | some false => .ok (.dat (.bl false)) S1
  | none => .fail
def mOr (a b : DE) : DE := fun δ S => (a δ S).bind fun x S1 => match asB x with
  | some true => .ok (.dat (.bl true)) S1
  | some false => b δ S1
  | none => .fail
def mNot (a : DE) : DE := fun δ S => (a δ S).bind fun x S1 => match asB x with
  | some b => .ok (.dat (.bl (!b))) S1
  | none => .fail
def mTst (a : DE) : DT := fun δ S => (a δ S).bind fun x S1 => oR (asB x) S1
def mAndT (a b : DT) : DT := fun δ S => (a δ S).bind fun x S1 => match x with
  | true => b δ S1
  | false => .ok false S1
def mOrT (a b : DT) : DT := fun δ S => (a δ S).bind fun x S1 => match x with
  | true => .ok true S1
  | false => b δ S1
def mNotT (a : DT) : DT := fun δ S => (a δ S).bind fun x S1 => .ok (!x) S1
def mIf (c : DT) (a b : DE) : DE := fun δ S => (c δ S).bind fun x S1 => match x with
  | true => a δ S1
  | false => b δ S1
def mChain (f g : Store → D → D → Option D) (a b c : DE) : DE := fun δ S => (a δ S).bind fun x S1 => (b δ S1).bind fun y S2 => (oR (f S2 x y) S2).bind fun z S3 => match asB z with
  | some true => (c δ S3).bind fun w S4 => oR (g S4 y w) S4
  | some false => .ok (.dat (.bl false)) S3
  | none => .fail
def mCall (f : Store → List D → Option D) (a : DA) : DE := fun δ S => (a δ S).bind fun ds S1 => oR (f S1 ds) S1
/-- a call of a def -/
def mDef (n : Nat) (f : List D → Store → R D) (a : DA) : DE := fun δ S => (a δ S).bind fun ds S1 => if ds.length = n then f ds S1 else .fail
/-! ### statements -/
def mNext : DS := fun δ S => .ok (.nx δ) S
def mSeq (a b : DS) : DS := fun δ S => match a δ S with
  | .ok (.nx δ1) S1 => b δ1 S1
  | r => r
def mRet (a : DE) : DS := fun δ S => (a δ S).st δ fun d S1 => .ok (.rt d) S1
def mRetN : DS := fun δ S => .ok (.rt (.dat .non)) S
def mDrop (a : DE) : DS := fun δ S => (a δ S).st δ fun _ S1 => .ok (.nx δ) S1
def mSet (i : Nat) (a : DE) : DS := fun δ S => (a δ S).st δ fun d S1 => .ok (.nx (δ.set i (some d))) S1
def mIfS (c : DT) (a b : DS) : DS := fun δ S => (c δ S).st δ fun x S1 => match x with
  | true => a δ S1
  | false => b δ S1
def mBrk : DS := fun δ S => .ok (.bk δ) S
def mCnt : DS := fun δ S => .ok (.ct δ) S
def mPar (i j : Nat) (a : DA) : DS := fun δ S => (a δ S).st δ fun ds S1 => match ds with
  | [x, y] => .ok (.nx ((δ.set i (some x)).set j (some y))) S1
  | _ => .fail
/-- targets -/
abbrev DG := D → DEnv → Store → R DEnv
abbrev DGs := List D → DEnv → Store → R DEnv
def gmName (i : Nat) : DG := fun d δ S => .ok (δ.set i (some d)) S
def gmNil : DGs := fun ds δ S => match ds with
  | [] => .ok δ S
  | _ => .fail
def gmCons (g : DG) (r : DGs) : DGs := fun ds δ S => match ds with
  | d :: ds => (g d δ S).bind fun δ1 S1 => r ds δ1 S1
  | [] => .fail
def gmTup (n : Nat) (g : DGs) : DG := fun d δ S => match d with
  | .dat (.tup ps) => if ps.length = n then g (ps.map .dat) δ S else .fail
  | _ => .fail
def mAsg (a : DE) (g : DG) : DS := fun δ S => (a δ S).st δ fun d S1 => (g d δ S1).st δ fun δ1 S2 => .ok (.nx δ1) S2
/-! ### loops -/
/-- a turn's end: go on, or leave -/
def mTurn (o : R Out) (next : DEnv → Store → R Out) : R Out := match o with
  | .ok (.nx δ) S => next δ S
  | .ok (.ct δ) S => next δ S
  | .ok (.bk δ) S => .ok (.nx δ) S
  | r => r
def mWhileN (c : DT) (b : DS) : Nat → DS
  | 0 => fun _ _ => .fail
  | n + 1 => fun δ S => (c δ S).st δ fun x S1 => match x with
    | true => mTurn (b δ S1) (mWhileN c b n)
    | false => .ok (.nx δ) S1
def FUEL : Nat := 1000000000
def mWhile (c : DT) (b : DS) : DS := mWhileN c b FUEL
def mForL (g : DG) (b : DS) : List D → DS
  | [] => fun δ S => .ok (.nx δ) S
  | d :: ds => fun δ S => mTurn ((g d δ S).st δ b) (mForL g b ds)
/-- over a list that may change; its length does not -/
def mForO (g : DG) (b : DS) (o n : Nat) : Nat → Nat → DS
  | 0, _ => fun δ S => match S[o]? with
    | some (.lst l) => if l.length = n then .ok (.nx δ) S else .fail
    | _ => .fail
  | k + 1, i => fun δ S => match S[o]? with
    | some (.lst l) => if l.length = n then (match l[i]? with
      | some d => mTurn ((g d δ S).st δ b) (mForO g b o n k (i + 1))
      | none => .fail) else .fail
    | _ => .fail
/-- what is walked: items that stay, or an object -/
inductive Wk | items (l : List D) | ob (o : Nat)
abbrev DI := DEnv → Store → R Wk
def mFor (w : DI) (g : DG) (b : DS) : DS := fun δ S => (w δ S).st δ fun k S1 => match k with
  | .items l => mForL g b l δ S1
  | .ob o => match S1[o]? with
    | some (.lst l) => mForO g b o l.length l.length 0 δ S1
    | _ => .fail
/-- comprehensions: what is raised within them is not carried -/
def R.bnf {α β : Type} (r : R α) (f : α → Store → R β) : R β := match r with
  | .ok a S => f a S
  | _ => .fail
@[simp] theorem R.bnf_ok {α β : Type} {a : α} {S : Store} {f : α → Store → R β} : (R.ok a S).bnf f = f a S := rfl
@[simp] theorem R.bnf_exc {α β : Type} {C : Addr} {x : Option (Str × P)} {S : Store} {f : α → Store → R β} : (R.exc C x S : R α).bnf f = .fail := rfl
@[simp] theorem R.bnf_fail {α β : Type} {f : α → Store → R β} : (R.fail : R α).bnf f = .fail := rfl
def mLcL (g : DG) (t : DT) (e : DE) (vs : List Nat) (δ0 : DEnv) : List D → List D → Store → R (List D)
  | [], acc, S => .ok acc S
  | d :: ds, acc, S => (g d (wipeD δ0 vs) S).bnf fun δ1 S1 => (t δ1 S1).bnf fun b S2 => match b with
    | true => (e δ1 S2).bnf fun y S3 => if acc.length < 100000 then mLcL g t e vs δ0 ds (acc ++ [y]) S3 else .fail
    | false => mLcL g t e vs δ0 ds acc S2
def mLcO (g : DG) (t : DT) (e : DE) (vs : List Nat) (δ0 : DEnv) (o n : Nat) : Nat → Nat → List D → Store → R (List D)
  | 0, _, acc, S => match S[o]? with
    | some (.lst l) => if l.length = n then .ok acc S else .fail
    | _ => .fail
  | k + 1, i, acc, S => match S[o]? with
    | some (.lst l) => if l.length = n then (match l[i]? with
      | some d => (g d (wipeD δ0 vs) S).bnf fun δ1 S1 => (t δ1 S1).bnf fun b S2 => match b with
        | true => (e δ1 S2).bnf fun y S3 => if acc.length < 100000 then mLcO g t e vs δ0 o n k (i + 1) (acc ++ [y]) S3 else .fail
        | false => mLcO g t e vs δ0 o n k (i + 1) acc S2
      | none => .fail) else .fail
    | _ => .fail
def mYes : DT := fun _ S => .ok true S
def mLc (w : DI) (g : DG) (t : DT) (e : DE) (vs : List Nat) : DA := fun δ S => (w δ S).bind fun k S1 => match k with
  | .items l => (mLcL g t e vs δ l [] S1).bnf fun ds S2 => .ok ds S2
  | .ob o => match S1[o]? with
    | some (.lst l) => (mLcO g t e vs δ o l.length l.length 0 [] S1).bnf fun ds S2 => .ok ds S2
    | _ => .fail
/-! ### a def -/
def mBody (N : Nat) (b : DS) (ds : List D) (S : Store) : R D := match b (ds.map some ++ List.replicate (N - ds.length) none) S with
  | .ok (.nx _) S' => .ok (.dat .non) S'
  | .ok (.rt d) S' => .ok d S'
  | .ok (.ex C x _) S' => .exc C x S'
  | _ => .fail
/-- fields of data -/
def datF : List (Str × D) → Option (List (Str × P))
  | [] => some []
  | (f, .dat p) :: ds => (datF ds).map ((f, p) :: ·)
  | (_, .obj _) :: _ => none
/-- an object taken out of its store -/
def frz1 (S : Store) (i : Nat) : Option P := match S[i]? with
  | some (.lst l) => (datAll l).map .lst
  | some (.ins C l) => (datF l).map (.ins C)
  | _ => none
def D.lt (n : Nat) : D → Bool
  | .dat _ => true
  | .obj i => decide (i < n)
def O.lt (n : Nat) : O → Bool
  | .lst l => l.all (D.lt n)
  | .ins _ l => l.all fun p => p.2.lt n
  | .dic l => l.all fun p => p.2.lt n
/-- a def that sees data alone, and leaves nothing: its objects are its own -/
def mPure (f : List D → Store → R D) (ds : List D) (S : Store) : R D := match datAll ds with
  | none => .fail
  | some _ => match f ds [] with
    | .ok (.dat p) _ => .ok (.dat p) S
    | .ok (.obj i) S' => (match frz1 S' i with
        | some p => .ok (.dat p) S
        | none => .fail)
    | .exc C x _ => .exc C x S
    | .fail => .fail
/-- a def whose own objects go when it ends -/
def mScope (f : List D → Store → R D) (ds : List D) (S : Store) : R D := match f ds S with
  | .ok (.dat p) S' => if (S'.take S.length).all (O.lt S.length) = true then .ok (.dat p) (S'.take S.length) else .fail
  | .ok (.obj i) S' => if (S'.take S.length).all (O.lt S.length) = true then (if i < S.length then .ok (.obj i) (S'.take S.length) else match frz1 S' i with
      | some p => .ok (.dat p) (S'.take S.length)
      | none => .fail) else .fail
  | .exc C x S' => if (S'.take S.length).all (O.lt S.length) = true then .exc C x (S'.take S.length) else .fail
  | .fail => .fail
/-- a new instance, then its __init__ -/
def mkC (C : Addr) (f : List D → Store → R D) (ds : List D) (S : Store) : R D := (f (.obj S.length :: ds) (S ++ [.ins C []])).bind fun d S' => match d with
  | .dat .non => .ok (.obj S.length) S'
  | _ => .fail
end M3
namespace M3
open PySem PySem.Spec PyProof.Rows L2
/-! ### the store under changes -/
theorem nd_inj {α : Type} : ∀ {l : List α} {i j : Nat} {a : α}, l.Nodup → l[i]? = some a → l[j]? = some a → i = j
  | [], i, j, a, _, e, _ => by simp at e
  | b :: l, 0, 0, a, _, _, _ => rfl
  | b :: l, 0, j + 1, a, nd, e, f => by
    have e1 : b = a := by simpa using e
    subst e1
    exact absurd (List.mem_of_getElem? (by simpa using f)) (List.nodup_cons.mp nd).1
  | b :: l, i + 1, 0, a, nd, e, f => by
    have e1 : b = a := by simpa using f
    subst e1
    exact absurd (List.mem_of_getElem? (by simpa using e)) (List.nodup_cons.mp nd).1
  | b :: l, i + 1, j + 1, a, nd, e, f => congrArg (· + 1) (nd_inj (l := l) (i := i) (j := j) (a := a) (List.nodup_cons.mp nd).2 (by simpa using e) (by simpa using f))
section
variable {K : PySem.W.Frag} {ι X : List Addr} {S : Store} {H : Hp}
theorem Rel.obj (r : Rel K ι X S H) {i : Nat} {a : Addr} (e : ι[i]? = some a) : ∃ o, S[i]? = some o ∧ RepO K ι X H o a := by
  have hi : i < S.length := by rw [← r.len]; exact (List.getElem?_eq_some_iff.mp e).1
  exact ⟨S[i], List.getElem?_eq_getElem hi, r.at_ i _ a (List.getElem?_eq_getElem hi) e⟩
theorem RepO.some {o : O} {a : Addr} (r : RepO K ι X H o a) : ∃ u, H a = some u := by
  cases o with
  | lst l => obtain ⟨xs, e, _⟩ := r; exact ⟨_, e⟩
  | ins C l => obtain ⟨dx, xs, e, _⟩ := r; exact ⟨_, e⟩
  | dic l => obtain ⟨xs, e, _⟩ := r; exact ⟨_, e⟩
theorem Rel.mem (r : Rel K ι X S H) {a : Addr} (m : a ∈ ι) : ∃ u, H a = some u := by
  obtain ⟨i, hi, e⟩ := List.getElem_of_mem m
  obtain ⟨o, _, q⟩ := r.obj (List.getElem?_eq_some_iff.mpr ⟨hi, e⟩)
  exact q.some
theorem Rel.nin (r : Rel K ι X S H) {p : Addr} (hp : H p = none) : p ∉ ι ∧ p ∉ X := by
  constructor
  · intro m
    obtain ⟨u, e⟩ := r.mem m
    rw [hp] at e
    cases e
  · intro m
    obtain ⟨_, u, e⟩ := r.ex p m
    rw [hp] at e
    cases e
theorem Rel.addr (r : Rel K ι X S H) {i : Nat} {o : O} (e : S[i]? = some o) : ∃ a, ι[i]? = some a ∧ RepO K ι X H o a := by
  have hi : i < ι.length := by rw [r.len]; exact (List.getElem?_eq_some_iff.mp e).1
  exact ⟨ι[i], List.getElem?_eq_getElem hi, r.at_ i o _ e (List.getElem?_eq_getElem hi)⟩
theorem RepO.out {ι' X' : List Addr} {H' : Hp} {o : O} {a : Addr} (x : Out1 ι X H ι' X' H') (e : H' a = H a) (r : RepO K ι X H o a) : RepO K ι' X' H' o a := by
  cases o with
  | lst l => obtain ⟨xs, f, g⟩ := r; exact ⟨xs, by rw [e]; exact f, g.out x⟩
  | ins C l => obtain ⟨dx, xs, f, g⟩ := r; exact ⟨dx, xs, by rw [e]; exact f, g.out x⟩
  | dic l => obtain ⟨xs, f, g⟩ := r; exact ⟨xs, by rw [e]; exact f, g.out x⟩
theorem ext_alloc {p : Addr} {o : HO} (r : Rel K ι X S H) (hp : H p = none) : Ext ι H ι (upd H p o) :=
  ⟨⟨[], by simp⟩, fun b u _ e => by rw [upd_ne (ne_of_none e hp)]; exact e, fun b m n => absurd m n⟩
/-- a new object that is not tracked -/
theorem Rel.alloc {p : Addr} {o : HO} (r : Rel K ι X S H) (hp : H p = none) : Rel K ι X S (upd H p o) := by
  have x := Out1.ext (X := X) (ext_alloc (o := o) r hp)
  refine ⟨r.len, r.nd, fun i u a e f => ?_, fun a m => ⟨(r.ex a m).1, ?_⟩⟩
  · have q := r.at_ i u a e f
    obtain ⟨w, hw⟩ := q.some
    exact q.out x (upd_ne (ne_of_none hw hp))
  · obtain ⟨_, u, e⟩ := r.ex a m
    exact ⟨u, by rw [upd_ne (ne_of_none e hp)]; exact e⟩
/-- a change that is seen nowhere else -/
theorem Rel.keep {ι' X' : List Addr} {H' : Hp} (r : Rel K ι X S H) (x : Out1 ι X H ι' X' H') (hi : ι' = ι) (k : ∀ a ∈ ι, H' a = H a) (hX : ∀ a ∈ X', a ∉ ι' ∧ ∃ o, H' a = some o) : Rel K ι' X' S H' := by
  subst hi
  exact ⟨r.len, r.nd, fun i u a e f => (r.at_ i u a e f).out x (k a (List.mem_of_getElem? f)), hX⟩
/-- an object changes -/
theorem Rel.put {i : Nat} {a : Addr} {o : O} {u : HO} (r : Rel K ι X S H) (e : ι[i]? = some a) (new : RepO K ι X (upd H a u) o a) : Rel K ι X (S.set i o) (upd H a u) ∧ Ext ι H ι (upd H a u) := by
  have ma : a ∈ ι := List.mem_of_getElem? e
  have x : Ext ι H ι (upd H a u) := ⟨⟨[], by simp⟩, fun b w n h => by rw [upd_ne (fun z => n (by rw [z]; exact ma))]; exact h, fun b m n => absurd m n⟩
  refine ⟨⟨by rw [List.length_set]; exact r.len, r.nd, fun j w b hw hb => ?_, fun b m => ⟨(r.ex b m).1, ?_⟩⟩, x⟩
  · by_cases z : i = j
    · subst z
      have hi : i < S.length := by have := (List.getElem?_eq_some_iff.mp hw).1; rwa [List.length_set] at this
      rw [List.getElem?_set_self hi] at hw
      cases hw
      rw [e] at hb
      cases hb
      exact new
    · rw [List.getElem?_set_ne z] at hw
      have ne : b ≠ a := fun q => by
        subst q
        exact z (nd_inj r.nd e hb)
      exact (r.at_ j w b hw hb).out (Out1.ext x) (upd_ne ne)
  · obtain ⟨n, w, h⟩ := r.ex b m
    exact ⟨w, by rw [upd_ne (fun z => n (by rw [z]; exact ma))]; exact h⟩
/-- a new object that is tracked -/
theorem Rel.track {Y : List Addr} {a : Addr} {o : O} {ι0 : List Addr} {H0 : Hp} (x : Ext ι0 H0 ι H) (h0 : H0 a = none) (r : Rel K ι X S H) (n : a ∉ ι) (m : a ∉ Y) (hY : ∀ b ∈ Y, b ∈ X) (hr : RepO K (ι ++ [a]) Y H o a)
    (k : ∀ b ∈ ι, ∀ w, RepO K ι X H w b → RepO K (ι ++ [a]) Y H w b) : Rel K (ι ++ [a]) Y (S ++ [o]) H ∧ Ext ι0 H0 (ι ++ [a]) H := by
  refine ⟨⟨by rw [List.length_append, List.length_append, r.len]; rfl, ?_, fun i w b hw hb => ?_, fun b mb => ⟨fun q => ?_, (r.ex b (hY b mb)).2⟩⟩, ?_⟩
  · refine List.nodup_append.mpr ⟨r.nd, by simp, fun b mb c mc => ?_⟩
    rw [List.mem_singleton.mp mc]
    exact fun q => n (q ▸ mb)
  · by_cases z : i < S.length
    · rw [List.getElem?_append_left z] at hw
      rw [List.getElem?_append_left (by rw [r.len]; exact z)] at hb
      exact k b (List.mem_of_getElem? hb) w (r.at_ i w b hw hb)
    · rw [List.getElem?_append_right (by omega)] at hw
      rw [List.getElem?_append_right (by rw [r.len]; omega), r.len] at hb
      have zi : i - S.length = 0 := by
        have := (List.getElem?_eq_some_iff.mp hw).1
        simp at this
        omega
      rw [zi] at hw hb
      cases hw
      cases hb
      exact hr
  · rcases List.mem_append.mp q with q | q
    · exact (r.ex b (hY b mb)).1 q
    · rw [List.mem_singleton.mp q] at mb
      exact m mb
  · obtain ⟨t, et⟩ := x.pre
    refine ⟨⟨t ++ [a], by rw [et, List.append_assoc]⟩, x.old, fun b mb nb => ?_⟩
    rcases List.mem_append.mp mb with q | q
    · exact x.new b q nb
    · rw [List.mem_singleton.mp q]
      exact h0
end
section
variable {K : PySem.W.Frag} {W : L2.St → WK}
/-! ### names, constants -/
theorem se_var {i : Nat} : SE K W (tVar i) (mVar i) := by
  intro ι X S H σ δ Q rel re h
  unfold mVar at h
  split at h
  · rename_i d e
    obtain ⟨v, e2, rv⟩ := re.2 i d e
    exact ⟨v, e2, h ι H v Ext.refl rel rv⟩
  · exact h.elim
theorem se_c {v : V} {p : P} (hv : ∀ ι X H, RepP K ι X H p v) : SE K W (tC v) (mC p) := fun ι X S H σ δ Q rel re h => h ι H v Ext.refl rel (hv ι X H)
theorem rp_non {ι X : List Addr} {H : Hp} : RepP K ι X H .non .non := by rw [RepP]
theorem rp_bl {ι X : List Addr} {H : Hp} {b : Bool} : RepP K ι X H (.bl b) (.bl b) := by rw [RepP]
theorem rp_int {ι X : List Addr} {H : Hp} {b : Int} : RepP K ι X H (.int b) (.int b) := by rw [RepP]
theorem rp_str {ι X : List Addr} {H : Hp} {b : Str} : RepP K ι X H (.str b) (.str b) := by rw [RepP]
theorem rp_con {ι X : List Addr} {H : Hp} {b : V} : RepP K ι X H (.con b) b := by rw [RepP]
theorem rd_non {ι X : List Addr} {H : Hp} : RepD K ι X H (.dat .non) .non := by
  show RepP K ι X H _ _
  rw [RepP]
theorem rd_bl {ι X : List Addr} {H : Hp} {b : Bool} : RepD K ι X H (.dat (.bl b)) (.bl b) := by
  show RepP K ι X H _ _
  rw [RepP]
theorem rd_int {ι X : List Addr} {H : Hp} {b : Int} : RepD K ι X H (.dat (.int b)) (.int b) := by
  show RepP K ι X H _ _
  rw [RepP]
theorem rd_str {ι X : List Addr} {H : Hp} {b : Str} : RepD K ι X H (.dat (.str b)) (.str b) := by
  show RepP K ι X H _ _
  rw [RepP]
theorem se_int {i : Int} : SE K W (tC (.int i)) (mC (.int i)) := se_c fun _ _ _ => rp_int
theorem se_bl {i : Bool} : SE K W (tC (.bl i)) (mC (.bl i)) := se_c fun _ _ _ => rp_bl
theorem se_non : SE K W (tC .non) (mC .non) := se_c fun _ _ _ => rp_non
theorem se_str {i : Str} : SE K W (tC (.str i)) (mC (.str i)) := se_c fun _ _ _ => rp_str
theorem se_con {v : V} : SE K W (tC v) (mC (.con v)) := se_c fun _ _ _ => rp_con
/-! ### operators -/
/-- an operator by values, answered by a function of data -/
def R2S (K : PySem.W.Frag) (r : R2) (f : Store → D → D → Option D) : Prop := ∀ ι X S H x y v u d Q, Rel K ι X S H → RepD K ι X H x v → RepD K ι X H y u → f S x y = some d →
  (∀ H' w, Ext ι H ι H' → Rel K ι X S H' → RepD K ι X H' d w → Q w H') → r v u H Q
def R1S (K : PySem.W.Frag) (r : V → Hp → VK → Prop) (f : Store → D → Option D) : Prop := ∀ ι X S H x v d Q, Rel K ι X S H → RepD K ι X H x v → f S x = some d →
  (∀ H' w, Ext ι H ι H' → Rel K ι X S H' → RepD K ι X H' d w → Q w H') → r v H Q
def RCS (K : PySem.W.Frag) (r : List V → Hp → VK → Prop) (f : Store → List D → Option D) : Prop := ∀ ι X S H ds vs d Q, Rel K ι X S H → RepDs K ι X H ds vs → f S ds = some d →
  (∀ H' w, Ext ι H ι H' → Rel K ι X S H' → RepD K ι X H' d w → Q w H') → r vs H Q
theorem post_oR {X ι : List Addr} {S : Store} {H : Hp} {W : WK} {o : Option D} {Q : V → Hp → Prop} (h : Post K X ι H W (oR o S) (fun ι' H' d v => RepD K ι' X H' d v) Q) :
    ∃ d, o = some d ∧ ∀ H' w, Ext ι H ι H' → Rel K ι X S H' → RepD K ι X H' d w → Q w H' := by
  cases o with
  | none => exact h.elim
  | some d => exact ⟨d, rfl, fun H' w x r q => h ι H' w x r q⟩
theorem se_op {r : R2} {f : Store → D → D → Option D} {ta tb : TE} {a b : DE} (hr : R2S K r f) (ha : SE K W ta a) (hb : SE K W tb b) : SE K W (tOp r ta tb) (mOp f a b) := by
  intro ι X S H σ δ Q rel re h
  refine ha ι X S H σ δ _ rel re (Post.bind h fun ι1 H1 x S1 v x1 rel1 rv h1 => ?_)
  refine hb ι1 X S1 H1 σ δ _ rel1 (re.ext x1) (Post.bind h1 fun ι2 H2 y S2 u x2 rel2 ru h2 => ?_)
  obtain ⟨d, e, k⟩ := post_oR h2
  exact hr ι2 X S2 H2 x y v u d Q rel2 (rv.ext x2) ru e k
theorem se_un {r : V → Hp → VK → Prop} {f : Store → D → Option D} {ta : TE} {a : DE} (hr : R1S K r f) (ha : SE K W ta a) : SE K W (tUn r ta) (mUn f a) := by
  intro ι X S H σ δ Q rel re h
  refine ha ι X S H σ δ _ rel re (Post.bind h fun ι1 H1 x S1 v x1 rel1 rv h1 => ?_)
  obtain ⟨d, e, k⟩ := post_oR h1
  exact hr ι1 X S1 H1 x v d Q rel1 rv e k
theorem sa_nil : SA K W tNil mNil := fun ι X S H σ δ Q rel re h => h ι H [] Ext.refl rel rfl
theorem sa_cons {ta : TE} {tr : TA} {a : DE} {r : DA} (ha : SE K W ta a) (hr : SA K W tr r) : SA K W (tCons ta tr) (mCons a r) := by
  intro ι X S H σ δ Q rel re h
  refine ha ι X S H σ δ _ rel re (Post.bind h fun ι1 H1 x S1 v x1 rel1 rv h1 => ?_)
  refine hr ι1 X S1 H1 σ δ _ rel1 (re.ext x1) (Post.bind h1 fun ι2 H2 y S2 u x2 rel2 ru h2 => ?_)
  exact h2 ι2 H2 _ Ext.refl rel2 ⟨v, u, rfl, rv.ext x2, ru⟩
theorem se_call {r : List V → Hp → VK → Prop} {f : Store → List D → Option D} {t : TA} {a : DA} (hr : RCS K r f) (ha : SA K W t a) : SE K W (tCB r t) (mCall f a) := by
  intro ι X S H σ δ Q rel re h
  refine ha ι X S H σ δ _ rel re (Post.bind h fun ι1 H1 x S1 v x1 rel1 rv h1 => ?_)
  obtain ⟨d, e, k⟩ := post_oR h1
  exact hr ι1 X S1 H1 x v d Q rel1 rv e k
theorem datAll_rep {ι X : List Addr} {H : Hp} : ∀ {ds : List D} {ps : List P} {vs : List V}, datAll ds = some ps → RepDs K ι X H ds vs → RepPs K ι X H ps vs
  | [], ps, vs, e, r => by
    cases e
    rw [RepPs]
    exact r
  | .dat p :: ds, ps, vs, e, ⟨y, ys, ev, f, g⟩ => by
    unfold datAll at e
    cases q : datAll ds with
    | none => rw [q] at e; cases e
    | some qs =>
      rw [q] at e
      cases e
      rw [RepPs]
      exact ⟨y, ys, ev, f, datAll_rep q g⟩
  | .obj _ :: ds, ps, vs, e, r => by cases e
theorem repDs_dat {ι X : List Addr} {H : Hp} : ∀ {ps : List P} {vs : List V}, RepPs K ι X H ps vs → RepDs K ι X H (ps.map .dat) vs
  | [], vs, r => by rw [RepPs] at r; exact r
  | p :: ps, vs, r => by
    rw [RepPs] at r
    obtain ⟨y, ys, e, f, g⟩ := r
    exact ⟨y, ys, e, f, repDs_dat g⟩
@[simp] theorem datAll_map (ps : List P) : datAll (ps.map .dat) = some ps := by
  induction ps with
  | nil => rfl
  | cons p ps ih => rw [List.map_cons, datAll, ih]; rfl
theorem datAll_len : ∀ {ds : List D} {ps : List P}, datAll ds = some ps → ps.length = ds.length
  | [], _, e => by cases e; rfl
  | .dat p :: ds, ps, e => by
    unfold datAll at e
    cases q : datAll ds with
    | none => rw [q] at e; cases e
    | some qs =>
      rw [q] at e
      cases e
      rw [List.length_cons, List.length_cons, datAll_len q]
  | .obj _ :: ds, ps, e => by cases e
theorem repPs_len {ι X : List Addr} {H : Hp} : ∀ {ps : List P} {vs : List V}, RepPs K ι X H ps vs → vs.length = ps.length
  | [], vs, r => by rw [RepPs] at r; rw [r]; rfl
  | p :: ps, vs, r => by
    rw [RepPs] at r
    obtain ⟨y, ys, e, f, g⟩ := r
    rw [e, List.length_cons, List.length_cons, repPs_len g]
theorem repDs_len {ι X : List Addr} {H : Hp} : ∀ {ps : List D} {vs : List V}, RepDs K ι X H ps vs → vs.length = ps.length
  | [], vs, r => by rw [show vs = [] from r]; rfl
  | p :: ps, vs, ⟨y, ys, e, f, g⟩ => by rw [e, List.length_cons, List.length_cons, repDs_len g]
theorem small {n : Nat} (h : n ≤ 100000) : n ≤ sizeLine := Nat.le_trans h (by decide)
theorem smalls {n : Nat} (h : n < 100000) : n < sizeLine := Nat.lt_of_lt_of_le h (by decide)
/-- a new tuple -/
theorem new_tup {ι X : List Addr} {S : Store} {H : Hp} {ps : List P} {vs : List V} {Q : V → Hp → Prop} (rel : Rel K ι X S H) (r : RepPs K ι X H ps vs) {p : Addr} (hp : H p = none)
    (k : ∀ H' w, Ext ι H ι H' → Rel K ι X S H' → RepD K ι X H' (.dat (.tup ps)) w → Q w H') : Q (.ref p) (upd H p (.tup vs)) := by
  have x := ext_alloc (o := .tup vs) rel hp
  obtain ⟨n, m⟩ := rel.nin hp
  refine k _ _ x (rel.alloc hp) ?_
  show RepP K ι X _ _ _
  rw [RepP]
  exact ⟨p, vs, rfl, .inl ⟨n, m, .inl upd_same⟩, r.ext x⟩
theorem new_lst {ι X : List Addr} {S : Store} {H : Hp} {ps : List P} {vs : List V} {Q : V → Hp → Prop} (rel : Rel K ι X S H) (r : RepPs K ι X H ps vs) {p : Addr} (hp : H p = none)
    (k : ∀ H' w, Ext ι H ι H' → Rel K ι X S H' → RepD K ι X H' (.dat (.lst ps)) w → Q w H') : Q (.ref p) (upd H p (.lst vs)) := by
  have x := ext_alloc (o := .lst vs) rel hp
  obtain ⟨n, m⟩ := rel.nin hp
  refine k _ _ x (rel.alloc hp) ?_
  show RepP K ι X _ _ _
  rw [RepP]
  exact ⟨p, vs, rfl, n, m, upd_same, r.ext x⟩
theorem se_tup {t : TA} {a : DA} (ha : SA K W t a) : SE K W (tTup t) (mTup a) := by
  intro ι X S H σ δ Q rel re h
  refine ha ι X S H σ δ _ rel re (Post.bind h fun ι1 H1 ds S1 vs x1 rel1 rv h1 => ?_)
  cases e : datAll ds with
  | none => simp only [e] at h1; exact h1.elim
  | some ps =>
    simp only [e] at h1
    have rp := datAll_rep e rv
    by_cases hl : ps.length ≤ 100000
    · rw [if_pos hl] at h1
      refine ⟨small (by rw [repPs_len rp]; exact hl), fun p hp => ?_⟩
      exact new_tup rel1 rp hp fun H' w x r q => h1 ι1 H' w x r q
    · rw [if_neg hl] at h1
      exact h1.elim
theorem Out1.more {ι X : List Addr} {H : Hp} {p : Addr} {o : HO} (hp : H p = none) : Out1 ι X H ι (p :: X) (upd H p o) := ⟨fun e => e, fun a u n m e => by
  have ne : a ≠ p := ne_of_none e hp
  refine ⟨by rw [upd_ne ne]; exact e, n, fun z => ?_⟩
  rcases List.mem_cons.mp z with z | z
  · exact ne z
  · exact m z⟩
theorem Out1.less {ι X : List Addr} {H : Hp} {p : Addr} : Out1 ι (p :: X) H ι X H := ⟨fun e => e, fun a u n m e => ⟨e, n, fun z => m (List.mem_cons_of_mem _ z)⟩⟩
theorem Rel.more {ι X : List Addr} {S : Store} {H : Hp} {p : Addr} {o : HO} (r : Rel K ι X S H) (hp : H p = none) : Rel K ι (p :: X) S (upd H p o) := by
  refine r.keep (Out1.more hp) rfl (fun a m => ?_) fun a m => ?_
  · obtain ⟨u, e⟩ := r.mem m
    exact upd_ne (ne_of_none e hp)
  · rcases List.mem_cons.mp m with z | z
    · subst z
      exact ⟨(r.nin hp).1, _, upd_same⟩
    · obtain ⟨n, u, e⟩ := r.ex a z
      exact ⟨n, u, by rw [upd_ne (ne_of_none e hp)]; exact e⟩
theorem Rel.less {ι X : List Addr} {S : Store} {H : Hp} {p : Addr} (r : Rel K ι (p :: X) S H) : Rel K ι X S H :=
  r.keep Out1.less rfl (fun _ _ => rfl) fun a m => r.ex a (List.mem_cons_of_mem _ m)
/-- the new list is tracked -/
theorem Out1.trk {ι X : List Addr} {H : Hp} {p : Addr} : Out1 ι (p :: X) H (ι ++ [p]) X H := by
  refine ⟨fun {i a} e => ?_, fun a u n m e => ⟨e, fun z => ?_, fun z => m (List.mem_cons_of_mem _ z)⟩⟩
  · rw [List.getElem?_append_left (List.getElem?_eq_some_iff.mp e).1]
    exact e
  · rcases List.mem_append.mp z with z | z
    · exact n z
    · rw [List.mem_singleton.mp z] at m
      exact m List.mem_cons_self
theorem Rel.trk {ι0 ι X : List Addr} {S : Store} {H0 H : Hp} {p : Addr} {o : O} (r : Rel K ι (p :: X) S H) (x : Ext ι0 H0 ι H) (h0 : H0 p = none) (hX : p ∉ X) (ro : RepO K ι (p :: X) H o p) :
    Rel K (ι ++ [p]) X (S ++ [o]) H ∧ Ext ι0 H0 (ι ++ [p]) H := by
  have n := (r.ex p List.mem_cons_self).1
  exact Rel.track x h0 r n hX (fun b m => List.mem_cons_of_mem _ m) (ro.out Out1.trk rfl) fun b mb w q => q.out Out1.trk rfl
theorem sl_lst {t : TA} {a : DA} (ha : SA K W t a) : SL K W (tLst t) (mLst a) := by
  intro ι X S H σ δ Q rel re h
  refine ha ι X S H σ δ (fun vs H1 => vs.length ≤ sizeLine ∧ ∀ p, H1 p = none → Q (.ref p) (upd H1 p (.lst vs))) rel re ?_
  unfold mLst at h
  cases e : a δ S with
  | fail => rw [e] at h; exact h
  | exc C x S1 => rw [e] at h; exact h
  | ok ds S1 =>
    rw [e, R.bind_ok] at h
    intro ι1 H1 vs x1 rel1 rv
    by_cases hl : ds.length ≤ 100000
    · rw [if_pos hl] at h
      refine ⟨small (by rw [repDs_len rv]; exact hl), fun p hp => ?_⟩
      have x := ext_alloc (o := .lst vs) rel1 hp
      exact h ι1 _ p vs (x1.trans x) (rel1.more hp) (ext_free x1 (rel1.nin hp).1 hp) upd_same (rv.out (Out1.more hp))
    · rw [if_neg hl] at h
      exact h.elim
/-! ### lists that stay, lists that may change -/
theorem se_frz {t : TE} {a : DA} (ha : SL K W t a) : SE K W t (mFrz a) := by
  intro ι X S H σ δ Q rel re h
  refine ha ι X S H σ δ Q rel re ?_
  unfold mFrz at h
  cases e : a δ S with
  | fail => rw [e] at h; exact h
  | exc C x S1 => rw [e] at h; exact h
  | ok ds S1 =>
    rw [e, R.bind_ok] at h
    intro ι1 H1 p xs x1 rel1 h0 ep rv
    cases q : datAll ds with
    | none => simp only [q] at h; exact h.elim
    | some ps =>
      simp only [q] at h
      refine h ι1 H1 _ x1 rel1.less ?_
      show RepP K ι1 X _ _ _
      rw [RepP]
      have hX : p ∉ X := fun m => by
        obtain ⟨_, u, e⟩ := rel.ex p m
        rw [h0] at e
        cases e
      exact ⟨p, xs, rfl, (rel1.ex p List.mem_cons_self).1, hX, ep, datAll_rep q (rv.out Out1.less)⟩
theorem se_trk {t : TE} {a : DA} (ha : SL K W t a) : SE K W t (mTrk a) := by
  intro ι X S H σ δ Q rel re h
  refine ha ι X S H σ δ Q rel re ?_
  unfold mTrk at h
  cases e : a δ S with
  | fail => rw [e] at h; exact h
  | exc C x S1 => rw [e] at h; exact h
  | ok ds S1 =>
    rw [e, R.bind_ok] at h
    intro ι1 H1 p xs x1 rel1 h0 ep rv
    have hX : p ∉ X := fun m => by
      obtain ⟨_, u, e⟩ := rel.ex p m
      rw [h0] at e
      cases e
    obtain ⟨r2, x2⟩ := rel1.trk (o := .lst ds) x1 h0 hX ⟨xs, ep, rv⟩
    refine h _ H1 _ x2 r2 ⟨p, ?_, rfl⟩
    rw [← rel1.len, List.getElem?_append_right (Nat.le_refl _), Nat.sub_self]
    rfl
end
end M3
namespace M3
open PySem PySem.Spec PyProof.Rows L2
section
variable {K : PySem.W.Frag} {W : L2.St → WK}
theorem asB_rep {ι X : List Addr} {H : Hp} {d : D} {v : V} {b : Bool} (e : asB d = some b) (r : RepD K ι X H d v) : v = .bl b := by
  unfold asB at e
  split at e
  · cases e
    have r : RepP K ι X H (.bl _) v := r
    rw [RepP] at r
    exact r
  · cases e
theorem se_and {ta tb : TE} {a b : DE} (ha : SE K W ta a) (hb : SE K W tb b) : SE K W (tAndV ta tb) (mAnd a b) := by
  intro ι X S H σ δ Q rel re h
  refine ha ι X S H σ δ _ rel re (Post.bind h fun ι1 H1 x S1 v x1 rel1 rv h1 => ?_)
  cases e : asB x with
  | none => simp only [e] at h1; exact h1.elim
  | some c =>
    simp only [e] at h1
    refine ⟨c, asB_rep e rv, ?_⟩
    cases c with
    | true => exact hb ι1 X S1 H1 σ δ Q rel1 (re.ext x1) h1
    | false => exact h1 ι1 H1 _ Ext.refl rel1 rd_bl
theorem se_or {ta tb : TE} {a b : DE} (ha : SE K W ta a) (hb : SE K W tb b) : SE K W (tOrV ta tb) (mOr a b) := by
  intro ι X S H σ δ Q rel re h
  refine ha ι X S H σ δ _ rel re (Post.bind h fun ι1 H1 x S1 v x1 rel1 rv h1 => ?_)
  cases e : asB x with
  | none => simp only [e] at h1; exact h1.elim
  | some c =>
    simp only [e] at h1
    refine ⟨c, asB_rep e rv, ?_⟩
    cases c with
    | true => exact h1 ι1 H1 _ Ext.refl rel1 rd_bl
    | false => exact hb ι1 X S1 H1 σ δ Q rel1 (re.ext x1) h1
theorem se_not {ta : TE} {a : DE} (ha : SE K W ta a) : SE K W (tNotV ta) (mNot a) := by
  intro ι X S H σ δ Q rel re h
  refine ha ι X S H σ δ _ rel re (Post.bind h fun ι1 H1 x S1 v x1 rel1 rv h1 => ?_)
  cases e : asB x with
  | none => simp only [e] at h1; exact h1.elim
  | some c =>
    simp only [e] at h1
    exact ⟨c, asB_rep e rv, h1 ι1 H1 _ Ext.refl rel1 rd_bl⟩
theorem post_oT {X ι : List Addr} {S : Store} {H : Hp} {W : WK} {o : Option Bool} {Q : Bool → Hp → Prop} (rel : Rel K ι X S H) (h : Post K X ι H W (oR o S) (fun _ _ d v => v = d) Q) : ∃ b, o = some b ∧ Q b H := by
  cases o with
  | none => exact h.elim
  | some d => exact ⟨d, rfl, h ι H d Ext.refl rel rfl⟩
theorem st_tst {ta : TE} {a : DE} (ha : SE K W ta a) : ST K W (tB ta) (mTst a) := by
  intro ι X S H σ δ Q rel re h
  refine ha ι X S H σ δ _ rel re (Post.bind h fun ι1 H1 x S1 v x1 rel1 rv h1 => ?_)
  obtain ⟨b, e, q⟩ := post_oT rel1 h1
  exact ⟨b, asB_rep e rv, q⟩
theorem st_test {ta : TE} {a : DE} (ha : SE K W ta a) : ST K W (tTest ta) (mTst a) := by
  intro ι X S H σ δ Q rel re h
  refine ha ι X S H σ δ _ rel re (Post.bind h fun ι1 H1 x S1 v x1 rel1 rv h1 => ?_)
  obtain ⟨b, e, q⟩ := post_oT rel1 h1
  exact ⟨b, asB_rep e rv, q⟩
theorem st_and {ta tb : TT} {a b : DT} (ha : ST K W ta a) (hb : ST K W tb b) : ST K W (tAnd ta tb) (mAndT a b) := by
  intro ι X S H σ δ Q rel re h
  refine ha ι X S H σ δ _ rel re (Post.bind h fun ι1 H1 x S1 v x1 rel1 rv h1 => ?_)
  subst rv
  cases v with
  | true => exact hb ι1 X S1 H1 σ δ Q rel1 (re.ext x1) h1
  | false => exact h1 ι1 H1 _ Ext.refl rel1 rfl
theorem st_or {ta tb : TT} {a b : DT} (ha : ST K W ta a) (hb : ST K W tb b) : ST K W (tOr ta tb) (mOrT a b) := by
  intro ι X S H σ δ Q rel re h
  refine ha ι X S H σ δ _ rel re (Post.bind h fun ι1 H1 x S1 v x1 rel1 rv h1 => ?_)
  subst rv
  cases v with
  | true => exact h1 ι1 H1 _ Ext.refl rel1 rfl
  | false => exact hb ι1 X S1 H1 σ δ Q rel1 (re.ext x1) h1
theorem st_not {ta : TT} {a : DT} (ha : ST K W ta a) : ST K W (tNot ta) (mNotT a) := by
  intro ι X S H σ δ Q rel re h
  refine ha ι X S H σ δ _ rel re (Post.bind h fun ι1 H1 x S1 v x1 rel1 rv h1 => ?_)
  subst rv
  exact h1 ι1 H1 _ Ext.refl rel1 rfl
theorem se_if {tc : TT} {ta tb : TE} {c : DT} {a b : DE} (hc : ST K W tc c) (ha : SE K W ta a) (hb : SE K W tb b) : SE K W (tIf tc ta tb) (mIf c a b) := by
  intro ι X S H σ δ Q rel re h
  refine hc ι X S H σ δ _ rel re (Post.bind h fun ι1 H1 x S1 v x1 rel1 rv h1 => ?_)
  subst rv
  cases v with
  | true => exact ha ι1 X S1 H1 σ δ Q rel1 (re.ext x1) h1
  | false => exact hb ι1 X S1 H1 σ δ Q rel1 (re.ext x1) h1
theorem se_chain {r r' : R2} {f g : Store → D → D → Option D} {ta tb tc : TE} {a b c : DE} (hr : R2S K r f) (hr' : R2S K r' g) (ha : SE K W ta a) (hb : SE K W tb b) (hc : SE K W tc c) : SE K W (tChain r r' ta tb tc) (mChain f g a b c) := by
  intro ι X S H σ δ Q rel re h
  refine ha ι X S H σ δ _ rel re (Post.bind h fun ι1 H1 x S1 v x1 rel1 rv h1 => ?_)
  refine hb ι1 X S1 H1 σ δ _ rel1 (re.ext x1) (Post.bind h1 fun ι2 H2 y S2 u x2 rel2 ru h2 => ?_)
  cases e : f S2 x y with
  | none => simp only [e] at h2; exact h2.elim
  | some z =>
    simp only [e, oR_some, R.bind_ok] at h2
    refine hr ι2 X S2 H2 x y v u z _ rel2 (rv.ext x2) ru e fun H3 w x3 rel3 rw3 => ?_
    cases q : asB z with
    | none => simp only [q] at h2; exact h2.elim
    | some k =>
      simp only [q] at h2
      refine ⟨k, asB_rep q rw3, ?_⟩
      cases k with
      | false => exact (h2.ext x3) ι2 H3 _ Ext.refl rel3 rd_bl
      | true =>
        refine hc ι2 X S2 H3 σ δ _ rel3 ((re.ext x1).ext (x2.trans x3)) (Post.bind (h2.ext x3) fun ι4 H4 w' S4 v4 x4 rel4 rv4 h4 => ?_)
        obtain ⟨d, e5, k5⟩ := post_oR h4
        exact hr' ι4 X S4 H4 y w' u v4 d Q rel4 (ru.ext (x3.trans x4)) rv4 e5 k5
/-! ### statements -/
theorem ss_next : SS K W tNext mNext := fun ι X S H σ δ E rel re h => h ι H σ Ext.refl rel re
theorem ss_brk : SS K W tBreak mBrk := fun ι X S H σ δ E rel re h => h ι H σ Ext.refl rel re
theorem ss_cnt : SS K W tCont mCnt := fun ι X S H σ δ E rel re h => h ι H σ Ext.refl rel re
theorem ss_retN : SS K W tRetN mRetN := fun ι X S H σ δ E rel re h => h ι H _ Ext.refl rel rd_non
theorem ss_seq {t u : TS} {a b : DS} (ha : SS K W t a) (hb : SS K W u b) : SS K W (tSeq t u) (mSeq a b) := by
  intro ι X S H σ δ E rel re h
  refine ha ι X S H σ δ _ rel re ?_
  unfold mSeq at h
  cases e : a δ S with
  | fail => rw [e] at h; exact h
  | exc C x S1 => rw [e] at h; exact h
  | ok o S1 =>
    rw [e] at h
    cases o with
    | nx δ1 => exact fun ι1 H1 σ1 x1 rel1 re1 => hb ι1 X S1 H1 σ1 δ1 E rel1 re1 (PostS.ext x1 h)
    | rt d => exact h
    | bk δ1 => exact h
    | ct δ1 => exact h
    | ex C x δ1 => exact h
theorem ss_ret {t : TE} {a : DE} (ha : SE K W t a) : SS K W (tRet t) (mRet a) := by
  intro ι X S H σ δ E rel re h
  exact ha ι X S H σ δ _ rel re (PostS.st re h fun ι1 H1 d S1 v x1 rel1 rv h1 => h1 ι1 H1 v Ext.refl rel1 rv)
theorem ss_drop {t : TE} {a : DE} (ha : SE K W t a) : SS K W (tDrop t) (mDrop a) := by
  intro ι X S H σ δ E rel re h
  exact ha ι X S H σ δ _ rel re (PostS.st re h fun ι1 H1 d S1 v x1 rel1 rv h1 => h1 ι1 H1 σ Ext.refl rel1 (re.ext x1))
/-- x = e, whatever form its reading has -/
theorem ss_asg {t : TE} {g : TG} {a : DE} {m : DG} (ha : SE K W t a)
    (hg : ∀ ι X S H σ δ d v (N : L2.St → Hp → Prop), Rel K ι X S H → RepE K ι X H δ σ → RepD K ι X H d v → Post K X ι H (W σ) (m d δ S) (fun ι' H' δ' σ' => RepE K ι' X H' δ' σ') N → g v σ H N) : SS K W (tAsg t g) (mAsg a m) := by
  intro ι X S H σ δ E rel re h
  refine ha ι X S H σ δ _ rel re (PostS.st re h fun ι1 H1 d S1 v x1 rel1 rv h1 => ?_)
  refine hg ι1 X S1 H1 σ δ d v _ rel1 (re.ext x1) rv ?_
  exact PostS.st (re.ext x1) h1 fun ι2 H2 δ2 S2 σ2 x2 rel2 re2 h2 => h2 ι2 H2 σ2 Ext.refl rel2 re2
/-- a target -/
def SG (K : PySem.W.Frag) (W : L2.St → WK) (g : TG) (m : DG) : Prop := ∀ ι X S H σ δ d v (N : L2.St → Hp → Prop), Rel K ι X S H → RepE K ι X H δ σ → RepD K ι X H d v → Post K X ι H (W σ) (m d δ S) (fun ι' H' δ' σ' => RepE K ι' X H' δ' σ') N → g v σ H N
def SGs (K : PySem.W.Frag) (W : L2.St → WK) (g : TGs) (m : DGs) : Prop := ∀ ι X S H σ δ d v (N : L2.St → Hp → Prop), Rel K ι X S H → RepE K ι X H δ σ → RepDs K ι X H d v → Post K X ι H (W σ) (m d δ S) (fun ι' H' δ' σ' => RepE K ι' X H' δ' σ') N → g v σ H N
theorem sg_name {i : Nat} : SG K W (gName i) (gmName i) := fun ι X S H σ δ d v N rel re rv h => h ι H _ Ext.refl rel (re.set rv)
/-- targets that fail in nothing may be read under any wish -/
theorem sgs_nil : SGs K W gNil gmNil := fun ι X S H σ δ d v N rel re rv h => by
  cases d with
  | nil => exact ⟨rv, h ι H _ Ext.refl rel re⟩
  | cons a b => exact h.elim
theorem sgs_cons {g : TG} {m : DG} {gs : TGs} {ms : DGs} (hw : ∀ σ σ', W σ = W σ') (hg : SG K W g m) (hs : SGs K W gs ms) : SGs K W (gCons g gs) (gmCons m ms) := fun ι X S H σ δ d v N rel re rv h => by
  cases d with
  | nil => exact h.elim
  | cons a b =>
    obtain ⟨y, ys, e, f, k⟩ := rv
    refine ⟨y, ys, e, hg ι X S H σ δ a y _ rel re f (Post.bind h fun ι1 H1 δ1 S1 σ1 x1 rel1 re1 h1 => ?_)⟩
    refine hs ι1 X S1 H1 σ1 δ1 b ys N rel1 re1 (k.ext x1) ?_
    rw [← hw σ σ1]
    exact h1
theorem sg_tup {n : Nat} {gs : TGs} {ms : DGs} (hs : SGs K W gs ms) : SG K W (gTup K n gs) (gmTup n ms) := fun ι X S H σ δ d v N rel re rv h => by
  unfold gmTup at h
  split at h
  · rename_i ps
    have rv : RepP K ι X H (.tup ps) v := rv
    rw [RepP] at rv
    obtain ⟨a, xs, e, f, k⟩ := rv
    split at h
    · rename_i hl
      exact ⟨a, xs, e, f.sq, by rw [repPs_len k]; exact hl, hs ι X S H σ δ _ xs N rel re (repDs_dat k) h⟩
    · exact h.elim
  · exact h.elim
theorem ss_asgG {t : TE} {g : TG} {a : DE} {m : DG} (ha : SE K W t a) (hg : SG K W g m) : SS K W (tAsg t g) (mAsg a m) := ss_asg ha hg
theorem ss_ifS {tc : TT} {t u : TS} {c : DT} {a b : DS} (hc : ST K W tc c) (ha : SS K W t a) (hb : SS K W u b) : SS K W (tIfS tc t u) (mIfS c a b) := by
  intro ι X S H σ δ E rel re h
  refine hc ι X S H σ δ _ rel re (PostS.st re h fun ι1 H1 x S1 v x1 rel1 rv h1 => ?_)
  subst rv
  cases v with
  | true => exact ha ι1 X S1 H1 σ δ E rel1 (re.ext x1) h1
  | false => exact hb ι1 X S1 H1 σ δ E rel1 (re.ext x1) h1
theorem ss_par {i j : Nat} {t : TA} {a : DA} (ha : SA K W t a) : SS K W (tPar i j t) (mPar i j a) := by
  intro ι X S H σ δ E rel re h
  refine ha ι X S H σ δ _ rel re (PostS.st re h fun ι1 H1 ds S1 vs x1 rel1 rv h1 => ?_)
  match ds, rv, h1 with
  | [], _, h1 => exact h1.elim
  | [_], _, h1 => exact h1.elim
  | [x, y], ⟨v, _, e1, r1, w, _, e2, r2, e3⟩, h1 =>
    cases e3
    cases e2
    exact ⟨v, w, e1, h1 ι1 H1 _ Ext.refl rel1 (((re.ext x1).set r1).set r2)⟩
  | _ :: _ :: _ :: _, _, h1 => exact h1.elim
/-! ### loops -/
/-- what a turn of a loop is to reach -/
theorem turn_ok {X ι : List Addr} {H : Hp} {o : R Out} {nxt : DEnv → Store → R Out} {E : Ends} (h : PostS K W X ι H (mTurn o nxt) E) {N : L2.St → Hp → Prop}
    (k : ∀ ι' H' σ δ S, Ext ι H ι' H' → Rel K ι' X S H' → RepE K ι' X H' δ σ → PostS K W X ι' H' (nxt δ S) E → N σ H') : PostS K W X ι H o { E with nx := N, ct := N, bk := E.nx } := by
  cases o with
  | fail => exact h
  | exc C x S => exact h
  | ok o S => cases o with
    | nx δ => exact fun ι' H' σ x rel re => k ι' H' σ δ S x rel re (PostS.ext x h)
    | ct δ => exact fun ι' H' σ x rel re => k ι' H' σ δ S x rel re (PostS.ext x h)
    | bk δ => exact h
    | rt d => exact h
    | ex C x δ => exact h
theorem ss_while {tc : TT} {tb : TS} {c : DT} {b : DS} (hc : ST K W tc c) (hb : SS K W tb b) : SS K W (tWhile tc tb) (mWhile c b) := by
  intro ι X S H σ δ E rel re h
  refine ⟨fun m σ' H' => ∃ ι1 δ1 S1, Rel K ι1 X S1 H' ∧ RepE K ι1 X H' δ1 σ' ∧ PostS K W X ι1 H' (mWhileN c b m δ1 S1) E, ⟨FUEL, ι, δ, S, rel, re, h⟩, ?_⟩
  rintro m σ1 H1 ⟨ι1, δ1, S1, rel1, re1, h1⟩
  cases m with
  | zero => exact h1.elim
  | succ n =>
    unfold mWhileN at h1
    refine hc ι1 X S1 H1 σ1 δ1 _ rel1 re1 (PostS.st re1 h1 fun ι2 H2 x S2 v x2 rel2 rv h2 => ?_)
    subst rv
    cases v with
    | false => exact h2 ι2 H2 σ1 Ext.refl rel2 (re1.ext x2)
    | true =>
      rw [if_pos rfl]
      refine ⟨fun σ' H' => ∃ ι1 δ1 S1, Rel K ι1 X S1 H' ∧ RepE K ι1 X H' δ1 σ' ∧ PostS K W X ι1 H' (mWhileN c b n δ1 S1) E, fun σ' H' q => ⟨n, Nat.lt_succ_self n, q⟩, ?_⟩
      refine hb ι2 X S2 H2 σ1 δ1 _ rel2 (re1.ext x2) (turn_ok h2 fun ι3 H3 σ3 δ3 S3 x3 rel3 re3 h3 => ⟨ι3, δ3, S3, rel3, re3, h3⟩)
end
end M3
namespace M3
open PySem PySem.Spec PyProof.Rows L2
section
variable {K : PySem.W.Frag}
theorem Out1.trans {ι X ι1 X1 ι2 X2 : List Addr} {H H1 H2 : Hp} (x : Out1 ι X H ι1 X1 H1) (y : Out1 ι1 X1 H1 ι2 X2 H2) : Out1 ι X H ι2 X2 H2 :=
  ⟨fun e => y.at_ (x.at_ e), fun a o n m e => let ⟨p, q, r⟩ := x.ok a o n m e; y.ok a o q r p⟩
theorem Out1.refl {ι X : List Addr} {H : Hp} : Out1 ι X H ι X H := ⟨fun e => e, fun a o n m e => ⟨e, n, m⟩⟩
/-- a walk of these items, whatever changes that data do not see -/
structure ItNow (K : PySem.W.Frag) (J : It) (l : List D) (ι X : List Addr) (H : Hp) : Prop where
  go : ∀ i, i < l.length → J.go i H
  stop : J.stop l.length H
  yld : ∀ i x H' d S, J.yld i H x H' → l[i]? = some d → Rel K ι X S H → Rel K ι X S H' ∧ Ext ι H ι H' ∧ RepD K ι X H' d x
def ItOk (K : PySem.W.Frag) (J : It) (l : List D) (ι X : List Addr) (H : Hp) : Prop := ∀ ι' X' H', Out1 ι X H ι' X' H' → ItNow K J l ι' X' H'
theorem ItOk.out {J : It} {l : List D} {ι X ι' X' : List Addr} {H H' : Hp} (k : ItOk K J l ι X H) (x : Out1 ι X H ι' X' H') : ItOk K J l ι' X' H' := fun ι2 X2 H2 y => k ι2 X2 H2 (x.trans y)
theorem ItOk.now {J : It} {l : List D} {ι X : List Addr} {H : Hp} (k : ItOk K J l ι X H) : ItNow K J l ι X H := k ι X H Out1.refl
variable {W : L2.St → WK}
def PostI (K : PySem.W.Frag) (X ι : List Addr) (H : Hp) (W : WK) (r : R Wk) (Q : It → Hp → Prop) : Prop := match r with
  | .ok (.items l) S' => ∀ ι' H' J, Ext ι H ι' H' → Rel K ι' X S' H' → ItOk K J l ι' X H' → Q J H'
  | .ok (.ob o) S' => ∀ ι' H' a, Ext ι H ι' H' → Rel K ι' X S' H' → ι'[o]? = some a → Q (Itl K a) H'
  | .exc C x S' => ∀ ι' H' da, Ext ι H ι' H' → Rel K ι' X S' H' → RepX K ι' X H' x da → W (.ref C) da H'
  | .fail => False
def SI (K : PySem.W.Frag) (W : L2.St → WK) (t : TI) (m : DI) : Prop := ∀ ι X S H σ δ Q, Rel K ι X S H → RepE K ι X H δ σ → PostI K X ι H (W σ) (m δ S) Q → t σ H Q
theorem PostI.ext {X ι : List Addr} {H : Hp} {W : WK} {r : R Wk} {Q : It → Hp → Prop} {ι1 : List Addr} {H1 : Hp} (x : Ext ι H ι1 H1) (h : PostI K X ι H W r Q) : PostI K X ι1 H1 W r Q := by
  cases r with
  | ok a S => cases a with
    | items l => exact fun ι' H' v y => h ι' H' v (x.trans y)
    | ob o => exact fun ι' H' v y => h ι' H' v (x.trans y)
  | exc C z S => exact fun ι' H' v y => h ι' H' v (x.trans y)
  | fail => exact h
/-! ### for -/
theorem obj_now {ι X : List Addr} {S : Store} {H : Hp} (rel : Rel K ι X S H) {o : Nat} {a : Addr} (ea : ι[o]? = some a) {l : List D} (es : S[o]? = some (.lst l)) : ∃ xs, H a = some (.lst xs) ∧ RepDs K ι X H l xs := rel.at_ o _ a es ea
theorem repDs_at {ι X : List Addr} {H : Hp} : ∀ {l : List D} {xs : List V} {i : Nat} {d : D}, RepDs K ι X H l xs → l[i]? = some d → ∃ x, xs[i]? = some x ∧ RepD K ι X H d x
  | [], xs, i, d, r, e => by simp at e
  | p :: ps, _, 0, d, ⟨y, ys, rfl, f, g⟩, e => by
    have : p = d := by simpa using e
    subst this
    exact ⟨y, rfl, f⟩
  | p :: ps, _, i + 1, d, ⟨y, ys, rfl, f, g⟩, e => repDs_at (i := i) g (by simpa using e)
theorem sqL_un {H : Hp} {a : Addr} {xs : List V} (e : H a = some (.lst xs)) (hk : ∀ ys, SqL K H a ys → ys = xs) {i : Nat} {x : V} (q : xs[i]? = some x) : ∀ ys, SqL K H a ys → ys[i]? = some x := fun ys s => by rw [hk ys s]; exact q
theorem ss_for {wi : TI} {g : TG} {tb : TS} {w : DI} {m : DG} {b : DS} (hw : SI K W wi w) (hg : SG K W g m) (hb : SS K W tb b) : SS K W (tFor wi g tb) (mFor w m b) := by
  intro ι X S H σ δ E rel re h
  refine hw ι X S H σ δ _ rel re ?_
  unfold mFor at h
  cases e : w δ S with
  | fail => rw [e] at h; exact h
  | exc C x S1 => rw [e] at h; exact fun ι' H' da x rel rx => h ι' H' da σ x rel rx (re.ext x)
  | ok k S1 =>
    rw [e, R.st_ok] at h
    cases k with
    | items l =>
      simp only at h
      intro ι1 H1 J x1 rel1 it
      refine ⟨fun i n σ' H' => ∃ ι2 δ2 S2, n = l.length - i ∧ i ≤ l.length ∧ Ext ι1 H1 ι2 H' ∧ Rel K ι2 X S2 H' ∧ RepE K ι2 X H' δ2 σ' ∧ PostS K W X ι2 H' (mForL m b (l.drop i) δ2 S2) E,
        ⟨l.length, ι1, δ, S1, rfl, Nat.zero_le _, Ext.refl, rel1, re.ext x1, PostS.ext x1 h⟩, ?_⟩
      rintro i n σ2 H2 ⟨ι2, δ2, S2, rfl, hi, x2, rel2, re2, h2⟩
      have now := (it.out (Out1.ext x2)).now
      by_cases hl : i < l.length
      · have ed : l.drop i = l[i] :: l.drop (i + 1) := List.drop_eq_getElem_cons hl
        have eg : l[i]? = some l[i] := List.getElem?_eq_getElem hl
        rw [ed] at h2
        generalize l[i] = d at h2 eg
        refine .inr ⟨now.go i hl, fun σ' H' => ∃ ι3 δ3 S3, Ext ι1 H1 ι3 H' ∧ Rel K ι3 X S3 H' ∧ RepE K ι3 X H' δ3 σ' ∧ PostS K W X ι3 H' (mForL m b (l.drop (i + 1)) δ3 S3) E,
          fun σ' H' ⟨ι3, δ3, S3, q⟩ => ⟨_, Nat.sub_lt_sub_left hl (Nat.lt_succ_self i), ι3, δ3, S3, rfl, hl, q⟩, fun x H3 y => ?_⟩
        obtain ⟨rel3, x3, rd⟩ := now.yld i x H3 d S2 y eg rel2
        unfold mForL at h2
        have h3 := turn_ok (PostS.ext x3 h2) (N := fun σ' H' => ∃ ι3 δ3 S3, Ext ι1 H1 ι3 H' ∧ Rel K ι3 X S3 H' ∧ RepE K ι3 X H' δ3 σ' ∧ PostS K W X ι3 H' (mForL m b (l.drop (i + 1)) δ3 S3) E)
          fun ι' H' σ' δ' S' x4 rel4 re4 h4 => ⟨ι', δ', S', (x2.trans x3).trans x4, rel4, re4, h4⟩
        have re3 := re2.ext x3
        refine hg ι2 X S2 H3 σ2 δ2 d x _ rel3 re3 rd (PostS.st re3 h3 fun ι5 H5 δ5 S5 σ5 x5 rel5 re5 h5 => ?_)
        exact hb ι5 X S5 H5 σ5 δ5 _ rel5 re5 h5
      · have ei : i = l.length := by omega
        subst ei
        rw [List.drop_length] at h2
        exact .inl ⟨now.stop, h2 ι2 H2 σ2 Ext.refl rel2 re2⟩
    | ob o =>
      simp only at h
      intro ι1 H1 a x1 rel1 ea
      cases es : S1[o]? with
      | none => rw [es] at h; exact h.elim
      | some ob =>
        cases ob with
        | ins C fs => simp only [es] at h; exact h.elim
        | dic fs => simp only [es] at h; exact h.elim
        | lst l =>
          simp only [es] at h
          refine ⟨fun i n σ' H' => ∃ ι2 δ2 S2, i + n = l.length ∧ Ext ι1 H1 ι2 H' ∧ Rel K ι2 X S2 H' ∧ RepE K ι2 X H' δ2 σ' ∧ PostS K W X ι2 H' (mForO m b o l.length n i δ2 S2) E,
            ⟨l.length, ι1, δ, S1, by omega, Ext.refl, rel1, re.ext x1, PostS.ext x1 h⟩, ?_⟩
          rintro i n σ2 H2 ⟨ι2, δ2, S2, hi, x2, rel2, re2, h2⟩
          have ea2 := x2.at ea
          cases n with
          | zero =>
            unfold mForO at h2
            cases es2 : S2[o]? with
            | none => simp only [es2] at h2; exact h2.elim
            | some ob =>
              cases ob with
              | ins C fs => simp only [es2] at h2; exact h2.elim
              | dic fs => simp only [es2] at h2; exact h2.elim
              | lst l2 =>
                simp only [es2] at h2
                by_cases hl : l2.length = l.length
                · rw [if_pos hl] at h2
                  obtain ⟨xs, ex, rx⟩ := obj_now rel2 ea2 es2
                  exact .inl ⟨⟨xs, SqL.of ex, by rw [repDs_len rx]; omega⟩, h2 ι2 H2 σ2 Ext.refl rel2 re2⟩
                · rw [if_neg hl] at h2; exact h2.elim
          | succ n =>
            unfold mForO at h2
            cases es2 : S2[o]? with
            | none => simp only [es2] at h2; exact h2.elim
            | some ob =>
              cases ob with
              | ins C fs => simp only [es2] at h2; exact h2.elim
              | dic fs => simp only [es2] at h2; exact h2.elim
              | lst l2 =>
                simp only [es2] at h2
                by_cases hl : l2.length = l.length
                · rw [if_pos hl] at h2
                  cases ed : l2[i]? with
                  | none => simp only [ed] at h2; exact h2.elim
                  | some d =>
                    simp only [ed] at h2
                    obtain ⟨xs, ex, rx⟩ := obj_now rel2 ea2 es2
                    obtain ⟨y, ey, ry⟩ := repDs_at rx ed
                    refine .inr ⟨⟨xs, y, SqL.of ex, ey⟩, fun σ' H' => ∃ ι3 δ3 S3, Ext ι1 H1 ι3 H' ∧ Rel K ι3 X S3 H' ∧ RepE K ι3 X H' δ3 σ' ∧ PostS K W X ι3 H' (mForO m b o l.length n (i + 1) δ3 S3) E,
                      fun σ' H' ⟨ι3, δ3, S3, q⟩ => ⟨n, Nat.lt_succ_self n, ι3, δ3, S3, by omega, q⟩, fun x H3 yy => ?_⟩
                    obtain ⟨rfl, yy⟩ := yy
                    have exy : x = y := by
                      have := yy xs (SqL.of ex)
                      rw [ey] at this
                      exact (Option.some.inj this).symm
                    subst exy
                    have h3 := turn_ok h2 (N := fun σ' H' => ∃ ι3 δ3 S3, Ext ι1 H1 ι3 H' ∧ Rel K ι3 X S3 H' ∧ RepE K ι3 X H' δ3 σ' ∧ PostS K W X ι3 H' (mForO m b o l.length n (i + 1) δ3 S3) E)
                      fun ι' H' σ' δ' S' x4 rel4 re4 h4 => ⟨ι', δ', S', x2.trans x4, rel4, re4, h4⟩
                    refine hg ι2 X S2 _ σ2 δ2 d x _ rel2 re2 ry (PostS.st re2 h3 fun ι5 H5 δ5 S5 σ5 x5 rel5 re5 h5 => ?_)
                    exact hb ι5 X S5 H5 σ5 δ5 _ rel5 re5 h5
                · rw [if_neg hl] at h2; exact h2.elim
end
end M3
namespace M3
open PySem PySem.Spec PyProof.Rows L2
/-- within a comprehension nothing may be raised -/
def WF : L2.St → WK := fun _ _ _ _ => False
theorem wipe_set {σ : L2.St} {i : Nat} {x : Option V} : ∀ {vs : List Nat}, i ∈ vs → wipe (σ.set i x) vs = wipe σ vs
  | [], h => by cases h
  | v :: vs, h => by
    unfold wipe
    by_cases m : i ∈ vs
    · rw [wipe_set m]
    · rcases List.mem_cons.mp h with rfl | h
      · have go : ∀ us : List Nat, i ∉ us → wipe (σ.set i x) us = (wipe σ us).set i x := by
          intro us
          induction us with
          | nil => intro _; rfl
          | cons u us ih =>
            intro hn
            unfold wipe
            rw [ih (fun z => hn (List.mem_cons_of_mem _ z)), List.set_comm _ _ (fun z => hn (by rw [z]; exact List.mem_cons_self))]
        rw [go vs m, List.set_set]
      · exact absurd h m
section
variable {K : PySem.W.Frag} {W : L2.St → WK}
/-- a target that sets names among vs alone -/
def SGv (K : PySem.W.Frag) (vs : List Nat) (g : TG) (m : DG) : Prop := ∀ ι X S H σ δ d v (N : L2.St → Hp → Prop), Rel K ι X S H → RepE K ι X H δ σ → RepD K ι X H d v →
  Post K X ι H (WF σ) (m d δ S) (fun ι' H' δ' σ' => RepE K ι' X H' δ' σ' ∧ L2.wipe σ' vs = L2.wipe σ vs) N → g v σ H N
def SGvs (K : PySem.W.Frag) (vs : List Nat) (g : TGs) (m : DGs) : Prop := ∀ ι X S H σ δ d v (N : L2.St → Hp → Prop), Rel K ι X S H → RepE K ι X H δ σ → RepDs K ι X H d v →
  Post K X ι H (WF σ) (m d δ S) (fun ι' H' δ' σ' => RepE K ι' X H' δ' σ' ∧ L2.wipe σ' vs = L2.wipe σ vs) N → g v σ H N
theorem sgv_name {i : Nat} {vs : List Nat} (h : i ∈ vs) : SGv K vs (gName i) (gmName i) := fun ι X S H σ δ d v N rel re rv hq => hq ι H _ Ext.refl rel ⟨re.set rv, wipe_set h⟩
theorem sgvs_nil {vs : List Nat} : SGvs K vs gNil gmNil := fun ι X S H σ δ d v N rel re rv h => by
  cases d with
  | nil => exact ⟨rv, h ι H _ Ext.refl rel ⟨re, rfl⟩⟩
  | cons a b => exact h.elim
theorem sgvs_cons {vs : List Nat} {g : TG} {m : DG} {gs : TGs} {ms : DGs} (hg : SGv K vs g m) (hs : SGvs K vs gs ms) : SGvs K vs (gCons g gs) (gmCons m ms) := fun ι X S H σ δ d v N rel re rv h => by
  cases d with
  | nil => exact h.elim
  | cons a b =>
    obtain ⟨y, ys, e, f, k⟩ := rv
    refine ⟨y, ys, e, hg ι X S H σ δ a y _ rel re f (Post.bind h fun ι1 H1 δ1 S1 σ1 x1 rel1 re1 h1 => ?_)⟩
    refine hs ι1 X S1 H1 σ1 δ1 b ys N rel1 re1.1 (k.ext x1) ?_
    exact Post.mono h1 fun ι2 H2 a' v' x2 q => ⟨v', ⟨q.1, q.2.trans re1.2⟩, id⟩
theorem sgv_tup {vs : List Nat} {n : Nat} {gs : TGs} {ms : DGs} (hs : SGvs K vs gs ms) : SGv K vs (gTup K n gs) (gmTup n ms) := fun ι X S H σ δ d v N rel re rv h => by
  unfold gmTup at h
  split at h
  · rename_i ps
    have rv : RepP K ι X H (.tup ps) v := rv
    rw [RepP] at rv
    obtain ⟨a, xs, e, f, k⟩ := rv
    split at h
    · rename_i hl
      exact ⟨a, xs, e, f.sq, by rw [repPs_len k]; exact hl, hs ι X S H σ δ _ xs N rel re (repDs_dat k) h⟩
    · exact h.elim
  · exact h.elim
theorem Post.bnf {X ι : List Addr} {H : Hp} {α β γ : Type} {r : R α} {f : α → Store → R β} {T : R β → Prop} {Rp : List Addr → Hp → α → γ → Prop} {Q1 : γ → Hp → Prop} {W : WK} (h : T (r.bnf f)) (hf : ¬ T .fail)
    (k : ∀ ι1 H1 a S1 v, Ext ι H ι1 H1 → Rel K ι1 X S1 H1 → Rp ι1 H1 a v → T (f a S1) → Q1 v H1) : Post K X ι H W r Rp Q1 := by
  cases r with
  | ok a S => exact fun ι' H' v x rel rp => k ι' H' a S v x rel rp h
  | exc C z S => exact (hf h).elim
  | fail => exact (hf h).elim
theorem st_yes : ST K W tYes mYes := fun ι X S H σ δ Q rel re h => h ι H true Ext.refl rel rfl
theorem repDs_snoc {ι X : List Addr} {H : Hp} : ∀ {ds : List D} {xs : List V} {d : D} {v : V}, RepDs K ι X H ds xs → RepD K ι X H d v → RepDs K ι X H (ds ++ [d]) (xs ++ [v])
  | [], xs, d, v, r, q => by
    rw [show xs = [] from r]
    exact ⟨v, [], rfl, q, rfl⟩
  | p :: ps, _, d, v, ⟨y, ys, rfl, f, g⟩, q => ⟨y, ys ++ [v], rfl, f, repDs_snoc g q⟩
/-- the list that is being made grows -/
theorem Out1.mine {ι X : List Addr} {H : Hp} {p : Addr} {o : HO} (m : p ∈ X) : Out1 ι X H ι X (upd H p o) := ⟨fun e => e, fun a u n k e => ⟨by rw [upd_ne (fun z => k (by rw [z]; exact m))]; exact e, n, k⟩⟩
theorem Rel.mine {ι X : List Addr} {S : Store} {H : Hp} {p : Addr} {o : HO} (r : Rel K ι X S H) (m : p ∈ X) : Rel K ι X S (upd H p o) := by
  refine r.keep (Out1.mine m) rfl (fun a ma => upd_ne (fun z => (r.ex p m).1 (by rw [← z]; exact ma))) fun a ma => ?_
  obtain ⟨n, u, e⟩ := r.ex a ma
  refine ⟨n, ?_⟩
  by_cases z : a = p
  · exact ⟨o, by rw [z]; exact upd_same⟩
  · exact ⟨u, by rw [upd_ne z]; exact e⟩
theorem ext_mine {ι ι' : List Addr} {H H' : Hp} {p : Addr} {o : HO} (x : Ext ι H ι' H') (h0 : H p = none) : Ext ι H ι' (upd H' p o) :=
  ⟨x.pre, fun b u n e => by rw [upd_ne (ne_of_none e h0)]; exact x.old b u n e, x.new⟩
/-- at the list D, what is to come -/
def LcT (K : PySem.W.Frag) (X ι : List Addr) (H : Hp) (Q : VK) (r : R (List D)) : Prop := match r with
  | .ok ds S' => ∀ ι' H' p xs, Ext ι H ι' H' → Rel K ι' (p :: X) S' H' → H p = none → H' p = some (.lst xs) → RepDs K ι' (p :: X) H' ds xs → Q (.ref p) H'
  | _ => False
/-- one item of a comprehension -/
theorem lc_item {vs : List Nat} {g : TG} {m : DG} {tt : TT} {t : DT} {te : TE} {e : DE} {σ : L2.St} {δ : DEnv} (hg : SGv K vs g m) (ht : ST K WF tt t) (he : SE K WF te e)
    {X ι0 ι : List Addr} {H0 H : Hp} {S : Store} {Dd : Addr} {d : D} {x : V} {acc : List V} {accD : List D} {T : R (List D) → Prop} (hf : ¬ T .fail) {k : List D → Store → R (List D)} {Nx : Hp → Prop}
    (x0 : Ext ι0 H0 ι H) (h0 : H0 Dd = none) (rel : Rel K ι (Dd :: X) S H) (re : RepE K ι (Dd :: X) H (wipeD δ vs) (wipe σ vs)) (rd : RepD K ι (Dd :: X) H d x) (ha : H Dd = some (.lst acc)) (ra : RepDs K ι (Dd :: X) H accD acc)
    (h : T ((m d (wipeD δ vs) S).bnf fun δ1 S1 => (t δ1 S1).bnf fun b S2 => match b with
        | true => (e δ1 S2).bnf fun y S3 => if accD.length < 100000 then k (accD ++ [y]) S3 else .fail
        | false => k accD S2))
    (fin : ∀ ι' H' S' accD' acc', Ext ι0 H0 ι' H' → Rel K ι' (Dd :: X) S' H' → H' Dd = some (.lst acc') → RepDs K ι' (Dd :: X) H' accD' acc' → T (k accD' S') → Nx H') :
    g x (wipe σ vs) H fun σ2 H2 => wipe σ2 vs = wipe σ vs ∧ tt σ2 H2 fun b H3 =>
      if b = true then te σ2 H3 fun y H4 => ∃ acc, H4 Dd = some (.lst acc) ∧ acc.length < sizeLine ∧ Nx (upd H4 Dd (.lst (acc ++ [y]))) else Nx H3 := by
  refine hg ι (Dd :: X) S H _ _ d x _ rel re rd (Post.bnf h hf fun ι1 H1 δ1 S1 σ1 x1 rel1 re1 h1 => ?_)
  refine ⟨re1.2.trans ?_, ?_⟩
  · have go : ∀ us vs : List Nat, (∀ v ∈ us, v ∈ vs) → wipe (wipe σ vs) us = wipe σ vs := by
      intro us vs hs
      induction us with
      | nil => rfl
      | cons u us ih =>
        unfold wipe
        rw [ih fun v hv => hs v (List.mem_cons_of_mem _ hv)]
        have go2 : ∀ vs : List Nat, u ∈ vs → (wipe σ vs).set u none = wipe σ vs := by
          intro vs
          induction vs with
          | nil => intro h; cases h
          | cons v vs ih2 =>
            intro hm
            unfold wipe
            by_cases q : u = v
            · subst q
              rw [List.set_set]
            · rcases List.mem_cons.mp hm with z | z
              · exact absurd z q
              · rw [List.set_comm _ _ (Ne.symm q), ih2 z]
        have := go2 vs (hs u List.mem_cons_self)
        cases vs with
        | nil => exact this
        | cons v vs => exact this
    exact go vs vs fun v hv => hv
  refine ht ι1 (Dd :: X) S1 H1 σ1 δ1 _ rel1 re1.1 (Post.bnf h1 hf fun ι2 H2 b S2 v x2 rel2 rv h2 => ?_)
  subst rv
  have dn : Dd ∉ ι := (rel.ex Dd List.mem_cons_self).1
  have dn1 : Dd ∉ ι1 := (rel1.ex Dd List.mem_cons_self).1
  have dn2 : Dd ∉ ι2 := (rel2.ex Dd List.mem_cons_self).1
  have ha2 := x2.old _ _ dn1 (x1.old _ _ dn ha)
  cases v with
  | false => exact fin ι2 H2 S2 accD acc ((x0.trans x1).trans x2) rel2 ha2 ((ra.ext x1).ext x2) h2
  | true =>
    rw [if_pos rfl]
    refine he ι2 (Dd :: X) S2 H2 σ1 δ1 _ rel2 (re1.1.ext x2) (Post.bnf h2 hf fun ι3 H3 y S3 w x3 rel3 ry h3 => ?_)
    have ha3 := x3.old _ _ dn2 ha2
    have ra3 := ((ra.ext x1).ext x2).ext x3
    by_cases hl : accD.length < 100000
    · rw [if_pos hl] at h3
      refine ⟨acc, ha3, smalls (by rw [repDs_len ra3]; exact hl), ?_⟩
      refine fin ι3 _ S3 (accD ++ [y]) (acc ++ [w]) (ext_mine (((x0.trans x1).trans x2).trans x3) h0) (rel3.mine List.mem_cons_self) upd_same ?_ h3
      exact (repDs_snoc ra3 ry).out (Out1.mine List.mem_cons_self)
    · rw [if_neg hl] at h3
      exact (hf h3).elim
theorem sl_lc {wi : TI} {w : DI} {g : TG} {m : DG} {tt : TT} {t : DT} {te : TE} {e : DE} {vs : List Nat} (hw : SI K W wi w) (hg : SGv K vs g m) (ht : ST K WF tt t) (he : SE K WF te e) : SL K W (tLc wi g tt te vs) (mLc w m t e vs) := by
  intro ι X S H σ δ Q rel re h
  refine hw ι X S H σ δ _ rel re ?_
  unfold mLc at h
  cases ew : w δ S with
  | fail => rw [ew] at h; exact h
  | exc C x S1 => rw [ew] at h; exact h
  | ok k S1 =>
    rw [ew, R.bind_ok] at h
    cases k with
    | items l =>
      simp only at h
      intro ι1 H1 J x1 rel1 it Dd hD
      have h0 : H Dd = none := ext_free x1 (rel1.nin hD).1 hD
      have hf : ¬ LcT K X ι H Q .fail := fun z => z
      have h' : LcT K X ι H Q (mLcL m t e vs δ l [] S1) := by
        cases q : mLcL m t e vs δ l [] S1 with
        | ok ds S' => rw [q] at h; exact h
        | exc C x S' => rw [q] at h; exact h
        | fail => rw [q] at h; exact h
      have reD : RepE K ι1 (Dd :: X) (upd H1 Dd (.lst [])) δ σ := (re.ext x1).out (Out1.more hD)
      refine ⟨fun i n H' => ∃ ι2 S2 accD acc, n = l.length - i ∧ i ≤ l.length ∧ Ext ι1 H1 ι2 H' ∧ Rel K ι2 (Dd :: X) S2 H' ∧ H' Dd = some (.lst acc) ∧ RepDs K ι2 (Dd :: X) H' accD acc ∧ LcT K X ι H Q (mLcL m t e vs δ (l.drop i) accD S2),
        ⟨l.length, ι1, S1, [], [], rfl, Nat.zero_le _, ext_mine Ext.refl hD, rel1.more hD, upd_same, rfl, h'⟩, ?_⟩
      rintro i n H2 ⟨ι2, S2, accD, acc, rfl, hi, x2, rel2, ha, ra, h2⟩
      have dn2 : Dd ∉ ι2 := (rel2.ex Dd List.mem_cons_self).1
      have o2 : Out1 ι1 X H1 ι2 (Dd :: X) H2 := ⟨fun e => x2.at e, fun a u n k e => ⟨x2.old a u n e, x2.nin n e, fun z => by
        rcases List.mem_cons.mp z with z | z
        · rw [z, hD] at e; cases e
        · exact k z⟩⟩
      have now := (it.out o2).now
      by_cases hl : i < l.length
      · have ed : l.drop i = l[i] :: l.drop (i + 1) := List.drop_eq_getElem_cons hl
        have eg : l[i]? = some l[i] := List.getElem?_eq_getElem hl
        rw [ed] at h2
        generalize l[i] = d at h2 eg
        refine .inr ⟨now.go i hl, fun H' => ∃ ι3 S3 accD acc, Ext ι1 H1 ι3 H' ∧ Rel K ι3 (Dd :: X) S3 H' ∧ H' Dd = some (.lst acc) ∧ RepDs K ι3 (Dd :: X) H' accD acc ∧ LcT K X ι H Q (mLcL m t e vs δ (l.drop (i + 1)) accD S3),
          fun H' ⟨ι3, S3, a, b, q⟩ => ⟨_, Nat.sub_lt_sub_left hl (Nat.lt_succ_self i), ι3, S3, a, b, rfl, hl, q⟩, fun x H3 y => ?_⟩
        obtain ⟨rel3, x3, rd⟩ := now.yld i x H3 d S2 y eg rel2
        unfold mLcL at h2
        have ha3 := x3.old _ _ dn2 ha
        have re3 : RepE K ι2 (Dd :: X) H3 (wipeD δ vs) (wipe σ vs) := (((re.ext x1).out o2).ext x3).wipe vs
        exact lc_item hg ht he hf (x2.trans x3) hD rel3 re3 rd ha3 (ra.ext x3) h2 fun ι' H' S' accD' acc' x4 rel4 ha4 ra4 h4 => ⟨ι', S', accD', acc', x4, rel4, ha4, ra4, h4⟩
      · have ei : i = l.length := by omega
        subst ei
        rw [List.drop_length] at h2
        exact .inl ⟨now.stop, h2 ι2 H2 Dd acc (x1.trans x2) rel2 h0 ha ra⟩
    | ob o =>
      simp only at h
      intro ι1 H1 a x1 rel1 ea Dd hD
      have h0 : H Dd = none := ext_free x1 (rel1.nin hD).1 hD
      have hf : ¬ LcT K X ι H Q .fail := fun z => z
      cases es : S1[o]? with
      | none => rw [es] at h; exact h.elim
      | some ob =>
        cases ob with
        | ins C fs => simp only [es] at h; exact h.elim
        | dic fs => simp only [es] at h; exact h.elim
        | lst l =>
          simp only [es] at h
          have h' : LcT K X ι H Q (mLcO m t e vs δ o l.length l.length 0 [] S1) := by
            cases q : mLcO m t e vs δ o l.length l.length 0 [] S1 with
            | ok ds S' => rw [q] at h; exact h
            | exc C x S' => rw [q] at h; exact h
            | fail => rw [q] at h; exact h
          refine ⟨fun i n H' => ∃ ι2 S2 accD acc, i + n = l.length ∧ Ext ι1 H1 ι2 H' ∧ Rel K ι2 (Dd :: X) S2 H' ∧ H' Dd = some (.lst acc) ∧ RepDs K ι2 (Dd :: X) H' accD acc ∧ LcT K X ι H Q (mLcO m t e vs δ o l.length n i accD S2),
            ⟨l.length, ι1, S1, [], [], by omega, ext_mine Ext.refl hD, rel1.more hD, upd_same, rfl, h'⟩, ?_⟩
          rintro i n H2 ⟨ι2, S2, accD, acc, hi, x2, rel2, ha, ra, h2⟩
          have dn2 : Dd ∉ ι2 := (rel2.ex Dd List.mem_cons_self).1
          have o2 : Out1 ι1 X H1 ι2 (Dd :: X) H2 := ⟨fun e => x2.at e, fun a u n k e => ⟨x2.old a u n e, x2.nin n e, fun z => by
            rcases List.mem_cons.mp z with z | z
            · rw [z, hD] at e; cases e
            · exact k z⟩⟩
          have ea2 := x2.at ea
          cases n with
          | zero =>
            unfold mLcO at h2
            cases es2 : S2[o]? with
            | none => simp only [es2] at h2; exact h2.elim
            | some ob =>
              cases ob with
              | ins C fs => simp only [es2] at h2; exact h2.elim
              | dic fs => simp only [es2] at h2; exact h2.elim
              | lst l2 =>
                simp only [es2] at h2
                by_cases hl : l2.length = l.length
                · rw [if_pos hl] at h2
                  obtain ⟨xs, ex, rx⟩ := obj_now rel2 ea2 es2
                  exact .inl ⟨⟨xs, SqL.of ex, by rw [repDs_len rx]; omega⟩, h2 ι2 H2 Dd acc (x1.trans x2) rel2 h0 ha ra⟩
                · rw [if_neg hl] at h2; exact h2.elim
          | succ n =>
            unfold mLcO at h2
            cases es2 : S2[o]? with
            | none => simp only [es2] at h2; exact h2.elim
            | some ob =>
              cases ob with
              | ins C fs => simp only [es2] at h2; exact h2.elim
              | dic fs => simp only [es2] at h2; exact h2.elim
              | lst l2 =>
                simp only [es2] at h2
                by_cases hl : l2.length = l.length
                · rw [if_pos hl] at h2
                  cases ed : l2[i]? with
                  | none => simp only [ed] at h2; exact h2.elim
                  | some d =>
                    simp only [ed] at h2
                    obtain ⟨xs, ex, rx⟩ := obj_now rel2 ea2 es2
                    obtain ⟨y, ey, ry⟩ := repDs_at rx ed
                    refine .inr ⟨⟨xs, y, SqL.of ex, ey⟩, fun H' => ∃ ι3 S3 accD acc, Ext ι1 H1 ι3 H' ∧ Rel K ι3 (Dd :: X) S3 H' ∧ H' Dd = some (.lst acc) ∧ RepDs K ι3 (Dd :: X) H' accD acc ∧ LcT K X ι H Q (mLcO m t e vs δ o l.length n (i + 1) accD S3),
                      fun H' ⟨ι3, S3, a, b, q⟩ => ⟨n, Nat.lt_succ_self n, ι3, S3, a, b, by omega, q⟩, fun x H3 yy => ?_⟩
                    obtain ⟨rfl, yy⟩ := yy
                    have exy : x = y := by
                      have := yy xs (SqL.of ex)
                      rw [ey] at this
                      exact (Option.some.inj this).symm
                    subst exy
                    have re3 : RepE K ι2 (Dd :: X) _ (wipeD δ vs) (wipe σ vs) := ((re.ext x1).out o2).wipe vs
                    exact lc_item hg ht he hf x2 hD rel2 re3 ry ha ra h2 fun ι' H' S' accD' acc' x4 rel4 ha4 ra4 h4 => ⟨ι', S', accD', acc', x4, rel4, ha4, ra4, h4⟩
                · rw [if_neg hl] at h2; exact h2.elim
end
end M3
namespace M3
open PySem PySem.Spec PyProof.Rows L2
/-! ### defs -/
/-- a def of the text, as the top has left it -/
structure Def (K : PySem.W.Frag) (mg : Str → Option Value) (x : Str) (st : Stmt) (ps : List Str) : Prop where
  ex : ∃ f fd, Fun K x x st f fd ∧ mg x = some (.ref f) ∧ Binds K fd ps []
/-- a def to be called -/
structure Cal (P : Program) (w : World) (K : PySem.W.Frag) (mg : Str → Option Value) (base : Heap) (k : Nat) (x : Str) (ps : List Str) (sp : Sp) : Prop where
  ex : ∃ f fd, FnOk P w K mg base (L2.CX P w) k f fd ps sp ∧ mg x = some (.ref f) ∧ PySem.W.keepIn K (.ref f) = true ∧ Binds K fd ps []
theorem Cal.imp {P : Program} {w : World} {K : PySem.W.Frag} {mg : Str → Option Value} {base : Heap} {k : Nat} {x : Str} {ps : List Str} {sp sp' : Sp} (C : Cal P w K mg base k x ps sp) (h : ∀ vs H Q E, sp' vs H Q E → sp vs H Q E) : Cal P w K mg base k x ps sp' :=
  let ⟨f, fd, F, r⟩ := C.ex; ⟨f, fd, F.imp h, r⟩
theorem Cal.mono {P : Program} {w : World} {K : PySem.W.Frag} {mg : Str → Option Value} {base : Heap} {j k : Nat} {x : Str} {ps : List Str} {sp : Sp} (C : Cal P w K mg base j x ps sp) (h : j ≤ k) : Cal P w K mg base k x ps sp :=
  let ⟨f, fd, F, r⟩ := C.ex; ⟨f, fd, F.mono h, r⟩
theorem Def.cal {P : Program} {w : World} {K : PySem.W.Frag} {mg : Str → Option Value} {base : Heap} {k : Nat} {x : Str} {st : Stmt} {N ps : List Str} {sp : Sp} (D : Def K mg x st ps) (S : FnScope N ps (defScope st)) (len : ∀ vs H Q E, sp vs H Q E → vs.length = ps.length)
    (hbody : ∀ (f : Addr) (cdv : Value) (A : Around) (outer : List PySem.Env) (s : Shared) (H : Hp) (vs : List V) (Q : VK) (E : XK), Room k (A.deeper (envOfC x (defScope st) s.heap.objs.size f cdv)) → sp vs H Q E →
      ∃ t, PSs (cxOf (L2.CX P w) P w K mg base N x (defScope st) f cdv A outer s H E) (defBody st) t ∧ t { nx := fun _ H' => Q .non H', rt := Q } (L2.start N vs) H) : Cal P w K mg base (k + 1) x ps sp := by
  obtain ⟨f, fd, F, hm, b⟩ := D.ex
  exact ⟨f, fd, F.okX S len (hbody f), hm, F.kp, b⟩
/-- a wish by slots, as the judgements have it -/
def wk (W : WX) : L2.St → WK := fun σ c d H => W c d σ H
/-- what a def promises: what its function of data says -/
def spM (K : PySem.W.Frag) (n : Nat) (m : List D → Store → R D) : Sp := fun vs H Q E => vs.length = n ∧ ∃ ι X S ds, Rel K ι X S H ∧ RepDs K ι X H ds vs ∧ Post K X ι H (fun c da H' => E c da H') (m ds S) (fun ι' H' d v => RepD K ι' X H' d v) Q
theorem spM_len {K : PySem.W.Frag} {n : Nat} {m : List D → Store → R D} {ps : List Str} (h : ps.length = n) : ∀ vs H Q E, spM K n m vs H Q E → vs.length = ps.length := fun _ _ _ _ q => q.1.trans h.symm
section
variable {K : PySem.W.Frag}
theorem repE_start {ι X : List Addr} {H : Hp} {N : List Str} : ∀ {ds : List D} {vs : List V}, RepDs K ι X H ds vs → ∀ n, RepE K ι X H (ds.map some ++ List.replicate n none) (vs.map some ++ List.replicate n none) := by
  intro ds vs r n
  have hl := repDs_len r
  refine ⟨by simp [hl], fun i d e => ?_⟩
  by_cases hi : i < ds.length
  · rw [List.getElem?_append_left (by simpa using hi), List.getElem?_map] at e
    cases q : ds[i]? with
    | none => rw [q] at e; cases e
    | some d' =>
      rw [q] at e
      cases e
      obtain ⟨x, ex, rx⟩ := repDs_at r q
      exact ⟨x, by rw [List.getElem?_append_left (by simpa [hl] using hi), List.getElem?_map, ex]; rfl, rx⟩
  · rw [List.getElem?_append_right (by simpa using hi), List.getElem?_replicate] at e
    split at e <;> cases e
theorem body_ok {n : Nat} {N : List Str} {t : TS} {b : DS} {vs : List V} {H : Hp} {Q : VK} {E : XK} (hb : SS K (wk fun cls d _ H => E cls d H) t b) (h : spM K n (mBody N.length b) vs H Q E) : t { nx := fun _ H' => Q .non H', rt := Q } (L2.start N vs) H := by
  obtain ⟨hn, ι, X, S, ds, rel, rd, hp⟩ := h
  unfold mBody at hp
  have hl := repDs_len rd
  refine hb ι X S H _ _ _ rel (by unfold L2.start; rw [hl]; exact repE_start (N := N) rd _) ?_
  cases e : b (ds.map some ++ List.replicate (N.length - ds.length) none) S with
  | fail => rw [e] at hp; exact hp
  | exc C x S' => rw [e] at hp; exact hp
  | ok o S' =>
    rw [e] at hp
    cases o with
    | nx δ => exact fun ι' H' σ x rel' re => hp ι' H' .non x rel' rd_non
    | rt d => exact fun ι' H' v x rel' rv => hp ι' H' v x rel' rv
    | bk δ => exact hp.elim
    | ct δ => exact hp.elim
    | ex C x δ => exact fun ι' H' da σ x rel' rx re => hp ι' H' da x rel' rx
/-! ### calls -/
theorem se_def {W : WX} {n : Nat} {m : List D → Store → R D} {t : TA} {a : DA} (ha : SA K (wk W) t a) : SE K (wk W) (tCallS (spM K n m) (WE W) t) (mDef n m a) := by
  intro ι X S H σ δ Q rel re h
  refine ha ι X S H σ δ _ rel re (Post.bind h fun ι1 H1 ds S1 vs x1 rel1 rv h1 => ?_)
  by_cases hn : ds.length = n
  · rw [if_pos hn] at h1
    exact ⟨by rw [repDs_len rv]; exact hn, ι1, X, S1, ds, rel1, rv, h1⟩
  · rw [if_neg hn] at h1
    exact h1.elim
/-- within a comprehension: nothing is raised -/
theorem se_defF {n : Nat} {m : List D → Store → R D} {t : TA} {a : DA} (ha : SA K WF t a) : SE K WF (tCall (spM K n m) [] E0 t) (mDef n m a) := by
  intro ι X S H σ δ Q rel re h
  refine ha ι X S H σ δ _ rel re (Post.bind h fun ι1 H1 ds S1 vs x1 rel1 rv h1 => ?_)
  rw [List.append_nil]
  by_cases hn : ds.length = n
  · rw [if_pos hn] at h1
    exact ⟨by rw [repDs_len rv]; exact hn, ι1, X, S1, ds, rel1, rv, h1⟩
  · rw [if_neg hn] at h1
    exact h1.elim
theorem passF {P : Program} {w : World} {X : Cx} : Passes (L2.CX P w) X E0 := fun _ _ _ _ _ _ _ ⟨_, _, _, _, _, _, _, _, _, _, _, _, h⟩ => h.elim
section
variable {X : Cx} {k j : Nat} {x : Str} {ps : List Str} {sp : Sp} {e : Expr} {es : List Expr} {t : TA} {p pos : Pos} {W : WX}
theorem pcal (C : Cal X.prog X.w X.K X.mg X.base k x ps sp) (hr : Room j X.A) (hk : k ≤ j) (hg : Gl X x) (tk : Takes X W) (ha : PA X (e :: es) t) (hdb : (x == ("__debug__" : Str)) = false := by decide) (he : starEach (e :: es) X.env = (false, eval e X.env) :: starEach es X.env := by rfl) (hpl : (backTo pos (starEach es X.env)).any (·.1) = false := by rfl) :
    PE X (.Call (.Name x p) (e :: es) [] pos) (tCallS sp (WE W) t) := by
  obtain ⟨f, fd, F, hm, kp, b⟩ := C.ex
  exact pe_callS F (hr.mono hk) hg hm kp b (fun σ => passAt tk σ) ha hdb he hpl
theorem pcalF (C : Cal X.prog X.w X.K X.mg X.base k x ps sp) (hr : Room j X.A) (hk : k ≤ j) (hg : Gl X x) (ha : PA X (e :: es) t) (hdb : (x == ("__debug__" : Str)) = false := by decide) (he : starEach (e :: es) X.env = (false, eval e X.env) :: starEach es X.env := by rfl) (hpl : (backTo pos (starEach es X.env)).any (·.1) = false := by rfl) :
    PE X (.Call (.Name x p) (e :: es) [] pos) (tCall sp [] E0 t) := by
  obtain ⟨f, fd, F, hm, kp, b⟩ := C.ex
  exact pe_call F (hr.mono hk) hg hm kp b .nil passF ha hdb he hpl
end
/-! ### own objects go -/
theorem datAll_repD {ι X ι' X' : List Addr} {H H' : Hp} (x : OutP ι X H ι' X' H') : ∀ {ds : List D} {ps : List P} {vs : List V}, datAll ds = some ps → RepDs K ι X H ds vs → RepDs K ι' X' H' ds vs
  | [], ps, vs, e, r => r
  | .dat p :: ds, ps, vs, e, ⟨y, ys, ev, f, g⟩ => by
    unfold datAll at e
    cases q : datAll ds with
    | none => rw [q] at e; cases e
    | some qs => exact ⟨y, ys, ev, RepP.out x f, datAll_repD x q g⟩
  | .obj _ :: ds, ps, vs, e, r => by cases e
theorem datF_rep {ι X ι' X' : List Addr} {H H' : Hp} (x : OutP ι X H ι' X' H') : ∀ {ds : List (Str × D)} {ps : List (Str × P)} {vs : List (Str × V)}, datF ds = some ps → RepDF K ι X H ds vs → RepFs K ι' X' H' ps vs
  | [], ps, vs, e, r => by
    cases e
    rw [RepFs]
    exact r
  | (f, .dat p) :: ds, ps, vs, e, ⟨y, ys, ev, h, g⟩ => by
    unfold datF at e
    cases q : datF ds with
    | none => rw [q] at e; cases e
    | some qs =>
      rw [q] at e
      cases e
      rw [RepFs]
      exact ⟨y, ys, ev, RepP.out x h, datF_rep x q g⟩
  | (_, .obj _) :: ds, ps, vs, e, r => by cases e
theorem frz1_rep {ι X ι' X' : List Addr} {S : Store} {H : Hp} (rel : Rel K ι X S H) (x : OutP ι X H ι' X' H) {i : Nat} {p : P} {a : Addr} (e : frz1 S i = some p) (ea : ι[i]? = some a) (n : a ∉ ι') (m : a ∉ X') : RepD K ι' X' H (.dat p) (.ref a) := by
  show RepP K ι' X' H p _
  unfold frz1 at e
  cases es : S[i]? with
  | none => rw [es] at e; cases e
  | some o =>
    rw [es] at e
    have ro := rel.at_ i o a es ea
    cases o with
    | lst l =>
      obtain ⟨xs, f, g⟩ := ro
      cases q : datAll l with
      | none => simp only [q] at e; cases e
      | some ps =>
        simp only [q, Option.map_some] at e
        cases e
        rw [RepP]
        exact ⟨a, xs, rfl, n, m, f, RepPs.out x (datAll_rep q g)⟩
    | ins C l =>
      obtain ⟨dx, xs, f, g⟩ := ro
      cases q : datF l with
      | none => simp only [q] at e; cases e
      | some ps =>
        simp only [q, Option.map_some] at e
        cases e
        rw [RepP]
        exact ⟨a, dx, xs, rfl, n, m, f, datF_rep x q g⟩
    | dic l => cases e
theorem repX_out {ι X ι' X' : List Addr} {H H' : Hp} (x : OutP ι X H ι' X' H') (k : ∀ d f v, H d = some (.xd [(f, v)]) → H' d = some (.xd [(f, v)])) {o : Option (Str × P)} {da : Option Addr} (r : RepX K ι X H o da) : RepX K ι' X' H' o da := by
  cases o with
  | none => exact r
  | some z =>
    obtain ⟨f, p⟩ := z
    obtain ⟨d, v, e, g, h⟩ := r
    exact ⟨d, v, e, k _ _ _ g, RepP.out x h⟩
theorem pure_ok {n : Nat} {f : List D → Store → R D} : ∀ vs H Q E, spM K n (mPure f) vs H Q E → spM K n f vs H Q E := by
  rintro vs H Q E ⟨hn, ι, X, S, ds, rel, rd, hp⟩
  unfold mPure at hp
  cases e : datAll ds with
  | none => rw [e] at hp; exact hp.elim
  | some ps =>
    simp only [e] at hp
    have y : OutP ι X H [] (ι ++ X) H := ⟨fun a o n m e => ⟨e, by simp, fun z => by
      rcases List.mem_append.mp z with z | z
      · exact n z
      · exact m z⟩⟩
    have relX : Rel K [] (ι ++ X) [] H := ⟨rfl, List.nodup_nil, fun i o a e => by simp at e, fun a m => ⟨by simp, by
      rcases List.mem_append.mp m with m | m
      · exact rel.mem m
      · exact (rel.ex a m).2⟩⟩
    refine ⟨hn, [], ι ++ X, [], ds, relX, datAll_repD y e rd, ?_⟩
    -- the caller's own state, behind
    have back : ∀ ι' H', Ext [] H ι' H' → Ext ι H ι H' ∧ Rel K ι X S H' := fun ι' H' x => by
      have o1 : Out1 ι X H ι X H' := ⟨fun e => e, fun a o n m e => ⟨x.old a o (by simp) e, n, m⟩⟩
      refine ⟨⟨⟨[], by simp⟩, fun b o _ e => x.old b o (by simp) e, fun b m n => absurd m n⟩, rel.keep o1 rfl (fun a m => ?_) fun a m => ⟨(rel.ex a m).1, ?_⟩⟩
      · obtain ⟨u, eu⟩ := rel.mem m
        rw [eu, x.old a u (by simp) eu]
      · obtain ⟨_, u, eu⟩ := rel.ex a m
        exact ⟨u, x.old a u (by simp) eu⟩
    have yy : ∀ ι' H', OutP ι' (ι ++ X) H' ι X H' := fun ι' H' => ⟨fun a o n m e => ⟨e, fun z => m (List.mem_append_left _ z), fun z => m (List.mem_append_right _ z)⟩⟩
    cases q : f ds [] with
    | fail => rw [q] at hp; exact hp
    | exc C x S' =>
      rw [q] at hp
      exact fun ι' H' da x rel' rx => hp ι H' da (back ι' H' x).1 (back ι' H' x).2 (repX_out (yy ι' H') (fun _ _ _ z => z) rx)
    | ok d S' =>
      rw [q] at hp
      cases d with
      | dat p => exact fun ι' H' v x rel' rv => hp ι H' v (back ι' H' x).1 (back ι' H' x).2 (RepP.out (yy ι' H') rv)
      | obj i =>
        simp only at hp
        cases z : frz1 S' i with
        | none => rw [z] at hp; exact hp.elim
        | some p =>
          simp only [z] at hp
          rintro ι' H' v x rel' ⟨a, ea, rfl⟩
          have hna : H a = none := x.new a (List.mem_of_getElem? ea) (by simp)
          exact hp ι H' _ (back ι' H' x).1 (back ι' H' x).2 (frz1_rep rel' (yy ι' H') z ea (rel.nin hna).1 (rel.nin hna).2)
end
end M3
namespace M3
open PySem PySem.Spec PyProof.Rows L2
section
variable {K : PySem.W.Frag}
/-- fewer are tracked -/
theorem repD_lt {ι t X : List Addr} {H : Hp} {d : D} {v : V} (e : d.lt ι.length = true) (r : RepD K (ι ++ t) X H d v) : RepD K ι X H d v := by
  cases d with
  | dat p => exact RepP.out (⟨fun a o n m e => ⟨e, fun z => n (List.mem_append_left _ z), m⟩⟩ : OutP (ι ++ t) X H ι X H) r
  | obj i =>
    obtain ⟨a, ea, ev⟩ := r
    have hi : i < ι.length := of_decide_eq_true e
    rw [List.getElem?_append_left hi] at ea
    exact ⟨a, ea, ev⟩
theorem repDs_lt {ι t X : List Addr} {H : Hp} : ∀ {ds : List D} {vs : List V}, ds.all (D.lt ι.length) = true → RepDs K (ι ++ t) X H ds vs → RepDs K ι X H ds vs
  | [], _, _, r => r
  | d :: ds, _, e, ⟨y, ys, ev, f, g⟩ => by
    rw [List.all_cons, Bool.and_eq_true] at e
    exact ⟨y, ys, ev, repD_lt e.1 f, repDs_lt e.2 g⟩
theorem repDF_lt {ι t X : List Addr} {H : Hp} : ∀ {ds : List (Str × D)} {vs : List (Str × V)}, ds.all (fun p => p.2.lt ι.length) = true → RepDF K (ι ++ t) X H ds vs → RepDF K ι X H ds vs
  | [], _, _, r => r
  | (_, d) :: ds, _, e, ⟨y, ys, ev, f, g⟩ => by
    rw [List.all_cons, Bool.and_eq_true] at e
    exact ⟨y, ys, ev, repD_lt e.1 f, repDF_lt e.2 g⟩
theorem repDK_lt {ι t X : List Addr} {H : Hp} : ∀ {ds : List (Key × D)} {vs : List (Key × V)}, ds.all (fun p => p.2.lt ι.length) = true → RepDK K (ι ++ t) X H ds vs → RepDK K ι X H ds vs
  | [], _, _, r => r
  | (_, d) :: ds, _, e, ⟨y, ys, ev, f, g⟩ => by
    rw [List.all_cons, Bool.and_eq_true] at e
    exact ⟨y, ys, ev, repD_lt e.1 f, repDK_lt e.2 g⟩
theorem repO_lt {ι t X : List Addr} {H : Hp} {o : O} {a : Addr} (e : o.lt ι.length = true) (r : RepO K (ι ++ t) X H o a) : RepO K ι X H o a := by
  cases o with
  | lst l => obtain ⟨xs, f, g⟩ := r; exact ⟨xs, f, repDs_lt e g⟩
  | ins C l => obtain ⟨dx, xs, f, g⟩ := r; exact ⟨dx, xs, f, repDF_lt e g⟩
  | dic l => obtain ⟨xs, f, g⟩ := r; exact ⟨xs, f, repDK_lt e g⟩
theorem scope_rel {ι ι' X : List Addr} {S S' : Store} {H H' : Hp} (rel : Rel K ι X S H) (x : Ext ι H ι' H') (rel' : Rel K ι' X S' H') (e : (S'.take S.length).all (O.lt S.length) = true) : Ext ι H ι H' ∧ Rel K ι X (S'.take S.length) H' := by
  obtain ⟨t, rfl⟩ := x.pre
  refine ⟨⟨⟨[], by simp⟩, x.old, fun b m n => absurd m n⟩, ?_, rel.nd, fun i o a eo ea => ?_, fun a m => ⟨fun z => (rel'.ex a m).1 (List.mem_append_left _ z), (rel'.ex a m).2⟩⟩
  · have h1 := rel'.len
    rw [List.length_append] at h1
    rw [List.length_take, ← rel.len]
    omega
  · have hi := (List.getElem?_eq_some_iff.mp ea).1
    have mo : o ∈ S'.take S.length := List.mem_of_getElem? eo
    have eo2 : S'[i]? = some o := by
      rw [List.getElem?_take] at eo
      split at eo
      · exact eo
      · cases eo
    have q := rel'.at_ i o a eo2 (by rw [List.getElem?_append_left hi]; exact ea)
    rw [← rel.len] at e
    exact repO_lt (List.all_eq_true.mp e o (by rw [rel.len]; exact mo)) q
theorem scope_ok {n : Nat} {f : List D → Store → R D} : ∀ vs H Q E, spM K n (mScope f) vs H Q E → spM K n f vs H Q E := by
  rintro vs H Q E ⟨hn, ι, X, S, ds, rel, rd, hp⟩
  refine ⟨hn, ι, X, S, ds, rel, rd, ?_⟩
  unfold mScope at hp
  cases q : f ds S with
  | fail => rw [q] at hp; exact hp
  | exc C x S' =>
    rw [q] at hp
    simp only at hp
    by_cases e : (S'.take S.length).all (O.lt S.length) = true
    · rw [if_pos e] at hp
      intro ι' H' da x' rel' rx
      obtain ⟨x2, rel2⟩ := scope_rel rel x' rel' e
      obtain ⟨t, et⟩ := x'.pre
      refine hp ι H' da x2 rel2 (repX_out ⟨fun a o n m e => ⟨e, fun z => n (by rw [et]; exact List.mem_append_left _ z), m⟩⟩ (fun _ _ _ z => z) rx)
    · rw [if_neg e] at hp; exact hp.elim
  | ok d S' =>
    rw [q] at hp
    cases d with
    | dat p =>
      simp only at hp
      by_cases e : (S'.take S.length).all (O.lt S.length) = true
      · rw [if_pos e] at hp
        intro ι' H' v x' rel' rv
        obtain ⟨x2, rel2⟩ := scope_rel rel x' rel' e
        obtain ⟨t, et⟩ := x'.pre
        exact hp ι H' v x2 rel2 (RepP.out (⟨fun a o n m e => ⟨e, fun z => n (by rw [et]; exact List.mem_append_left _ z), m⟩⟩ : OutP ι' X H' ι X H') rv)
      · rw [if_neg e] at hp; exact hp.elim
    | obj i =>
      simp only at hp
      by_cases e : (S'.take S.length).all (O.lt S.length) = true
      · rw [if_pos e] at hp
        rintro ι' H' v x' rel' ⟨a, ea, rfl⟩
        obtain ⟨x2, rel2⟩ := scope_rel rel x' rel' e
        obtain ⟨t, et⟩ := x'.pre
        by_cases hi : i < S.length
        · rw [if_pos hi] at hp
          refine hp ι H' _ x2 rel2 ⟨a, ?_, rfl⟩
          rw [et, List.getElem?_append_left (by rw [rel.len]; exact hi)] at ea
          exact ea
        · rw [if_neg hi] at hp
          cases z : frz1 S' i with
          | none => rw [z] at hp; exact hp.elim
          | some p =>
            simp only [z] at hp
            have na : a ∉ ι := fun m => by
              obtain ⟨j, hj⟩ := List.getElem?_of_mem m
              have h1 := x'.at hj
              have := nd_inj rel'.nd ea h1
              have h2 := (List.getElem?_eq_some_iff.mp hj).1
              rw [rel.len] at h2
              omega
            have ma : a ∉ X := fun m => (rel'.ex a m).1 (List.mem_of_getElem? ea)
            exact hp ι H' _ x2 rel2 (frz1_rep rel' ⟨fun a o n m e => ⟨e, fun z => n (by rw [et]; exact List.mem_append_left _ z), m⟩⟩ z ea na ma)
      · rw [if_neg e] at hp; exact hp.elim
/-! ### new instances -/
/-- C(..), as a promise -/
def spNew (C : Addr) (sp : Sp) : Sp := fun vs H Q E => ∀ x dx, H x = none → H dx = none → dx ≠ x → sp (.ref x :: vs) (upd (upd H dx (.own x)) x (.ins C dx [])) (fun v H2 => v = .non ∧ Q (.ref x) H2) E
theorem new_ok {n : Nat} {C : Addr} {f : List D → Store → R D} : ∀ vs H Q E, spM K n (mkC C f) vs H Q E → spNew C (spM K (n + 1) f) vs H Q E := by
  rintro vs H Q E ⟨hn, ι, X, S, ds, rel, rd, hp⟩ x dx hx hdx ne
  have h1 : (upd H dx (.own x)) x = none := by rw [upd_ne (Ne.symm ne)]; exact hx
  have e1 := ext_alloc (o := .own x) rel hdx
  have r1 := rel.alloc (o := .own x) hdx
  have e2 := ext_alloc (o := .ins C dx []) r1 h1
  have r2 := r1.more (o := .ins C dx []) h1
  have e12 := e1.trans e2
  obtain ⟨r3, e3⟩ := r2.trk (o := .ins C []) (X := X) e12 hx (rel.nin hx).2 ⟨dx, [], upd_same, rfl⟩
  refine ⟨by rw [List.length_cons, hn], ι ++ [x], X, S ++ [.ins C []], .obj S.length :: ds, r3, ⟨_, _, rfl, ⟨x, ?_, rfl⟩, rd.ext e3⟩, ?_⟩
  · rw [← rel.len, List.getElem?_append_right (Nat.le_refl _), Nat.sub_self]
    rfl
  unfold mkC at hp
  cases q : f (.obj S.length :: ds) (S ++ [.ins C []]) with
  | fail => rw [q] at hp; exact hp
  | exc C' x' S' => rw [q] at hp; exact fun ι' H' da y rel' rx => hp ι' H' da (e3.trans y) rel' rx
  | ok d S' =>
    rw [q, R.bind_ok] at hp
    intro ι' H' v y rel' rv
    split at hp
    case h_2 => exact hp.elim
    have rv : RepP K ι' X H' .non v := rv
    rw [RepP] at rv
    refine ⟨rv, hp ι' H' _ (e3.trans y) rel' ⟨x, y.at ?_, rfl⟩⟩
    rw [← rel.len, List.getElem?_append_right (Nat.le_refl _), Nat.sub_self]
    rfl
theorem se_new {W : WX} {C : Addr} {n : Nat} {sp : Sp} {m : List D → Store → R D} {t : TA} {a : DA} (hs : ∀ vs H Q E, spM K n m vs H Q E → spNew C sp vs H Q E) (ha : SA K (wk W) t a) :
    SE K (wk W) (fun σ H Q => t σ H fun vs H1 => ∀ x dx, H1 x = none → H1 dx = none → dx ≠ x → sp (.ref x :: vs) (upd (upd H1 dx (.own x)) x (.ins C dx [])) (fun v H2 => v = .non ∧ Q (.ref x) H2) (WE W σ)) (mDef n m a) := by
  intro ι X S H σ δ Q rel re h
  refine ha ι X S H σ δ _ rel re (Post.bind h fun ι1 H1 ds S1 vs x1 rel1 rv h1 => ?_)
  by_cases hn : ds.length = n
  · rw [if_pos hn] at h1
    exact hs _ _ _ _ ⟨by rw [repDs_len rv]; exact hn, ι1, X, S1, ds, rel1, rv, h1⟩
  · rw [if_neg hn] at h1
    exact h1.elim
theorem se_newF {C : Addr} {n : Nat} {sp : Sp} {m : List D → Store → R D} {t : TA} {a : DA} (hs : ∀ vs H Q E, spM K n m vs H Q E → spNew C sp vs H Q E) (ha : SA K WF t a) :
    SE K WF (fun σ H Q => t σ H fun vs H1 => ∀ x dx, H1 x = none → H1 dx = none → dx ≠ x → sp (.ref x :: vs) (upd (upd H1 dx (.own x)) x (.ins C dx [])) (fun v H2 => v = .non ∧ Q (.ref x) H2) E0) (mDef n m a) := by
  intro ι X S H σ δ Q rel re h
  refine ha ι X S H σ δ _ rel re (Post.bind h fun ι1 H1 ds S1 vs x1 rel1 rv h1 => ?_)
  by_cases hn : ds.length = n
  · rw [if_pos hn] at h1
    exact hs _ _ _ _ ⟨by rw [repDs_len rv]; exact hn, ι1, X, S1, ds, rel1, rv, h1⟩
  · rw [if_neg hn] at h1
    exact h1.elim
theorem spM_fail {n : Nat} {vs : List V} {H : Hp} {Q : VK} {E : XK} (h : spM K n (fun _ _ => .fail) vs H Q E) : False := by
  obtain ⟨_, ι, X, S, ds, _, _, h⟩ := h
  exact h
end
end M3
namespace M3
open PySem PySem.Spec PyProof.Rows L2
/-! ### operators: what they do to data -/
theorem OpR.or {X : Cx} {f : Value → Value → Sem Value} {r1 r2 : R2} (h1 : OpR X f r1) (h2 : OpR X f r2) : OpR X f (fun x y H Q => r1 x y H Q ∨ r2 x y H Q) := by
  intro pins s σ H x y v u Q I rx ry h
  rcases h with h | h
  · exact h1 pins s σ H x y v u Q I rx ry h
  · exact h2 pins s σ H x y v u Q I rx ry h
theorem CallR.or {X : Cx} {f : Value} {r1 r2 : List V → Hp → VK → Prop} (h1 : CallR X f r1) (h2 : CallR X f r2) : CallR X f (fun x H Q => r1 x H Q ∨ r2 x H Q) := by
  intro pins s σ H xs us Q I r h
  rcases h with h | h
  · exact h1 pins s σ H xs us Q I r h
  · exact h2 pins s σ H xs us Q I r h
/-! ### what a thing is -/
section
variable {K : PySem.W.Frag} {ι X : List Addr} {S : Store} {H : Hp}
theorem rI_inv {i : Int} {v : V} (r : RepD K ι X H (.dat (.int i)) v) : v = .int i := by
  have r : RepP K ι X H (.int i) v := r
  rwa [RepP] at r
theorem rB_inv {i : Bool} {v : V} (r : RepD K ι X H (.dat (.bl i)) v) : v = .bl i := by
  have r : RepP K ι X H (.bl i) v := r
  rwa [RepP] at r
theorem rS_inv {i : Str} {v : V} (r : RepD K ι X H (.dat (.str i)) v) : v = .str i := by
  have r : RepP K ι X H (.str i) v := r
  rwa [RepP] at r
theorem rN_inv {v : V} (r : RepD K ι X H (.dat .non) v) : v = .non := by
  have r : RepP K ι X H .non v := r
  rwa [RepP] at r
theorem rC_inv {v w : V} (r : RepD K ι X H (.dat (.con w)) v) : v = w := by
  have r : RepP K ι X H (.con w) v := r
  rwa [RepP] at r
theorem rT_inv {l : List P} {v : V} (r : RepD K ι X H (.dat (.tup l)) v) : ∃ a xs, v = .ref a ∧ TupAt K ι X H a xs ∧ RepPs K ι X H l xs := by
  have r : RepP K ι X H (.tup l) v := r
  rwa [RepP] at r
theorem rL_inv {l : List P} {v : V} (r : RepD K ι X H (.dat (.lst l)) v) : ∃ a xs, v = .ref a ∧ a ∉ ι ∧ a ∉ X ∧ H a = some (.lst xs) ∧ RepPs K ι X H l xs := by
  have r : RepP K ι X H (.lst l) v := r
  rwa [RepP] at r
end
/-- the items of a list -/
def listD (S : Store) : D → Option (List D)
  | .dat (.lst l) => some (l.map .dat)
  | .obj i => match S[i]? with
    | some (.lst l) => some l
    | _ => none
  | _ => none
/-- the items of a list or tuple -/
def seqD (S : Store) : D → Option (List D)
  | .dat (.tup l) => some (l.map .dat)
  | .dat (.scr l) => some (l.map fun i => .dat (.int i))
  | d => listD S d
def listP (S : Store) (d : D) : Option (List P) := (listD S d).bind datAll
def seqP (S : Store) (d : D) : Option (List P) := (seqD S d).bind datAll
section
variable {K : PySem.W.Frag} {ι X : List Addr} {S : Store} {H : Hp}
theorem listD_rep {d : D} {l : List D} {v : V} (rel : Rel K ι X S H) (e : listD S d = some l) (r : RepD K ι X H d v) : ∃ a xs, v = .ref a ∧ H a = some (.lst xs) ∧ RepDs K ι X H l xs := by
  cases d with
  | obj i =>
    obtain ⟨a, ea, rfl⟩ := r
    unfold listD at e
    simp only at e
    cases es : S[i]? with
    | none => rw [es] at e; cases e
    | some o =>
      rw [es] at e
      cases o with
      | lst l' =>
        cases e
        obtain ⟨xs, f, g⟩ := rel.at_ i _ a es ea
        exact ⟨a, xs, rfl, f, g⟩
      | ins C l' => cases e
      | dic l' => cases e
  | dat p =>
    cases p with
    | lst l' =>
      cases e
      obtain ⟨a, xs, rfl, _, _, f, g⟩ := rL_inv r
      exact ⟨a, xs, rfl, f, repDs_dat g⟩
    | _ => cases e
theorem repDs_ints : ∀ l : List Int, RepDs K ι X H (l.map fun i => .dat (.int i)) (l.map V.int)
  | [] => rfl
  | i :: l => ⟨_, _, rfl, rd_int, repDs_ints l⟩
theorem seqD_rep {d : D} {l : List D} {v : V} (rel : Rel K ι X S H) (e : seqD S d = some l) (r : RepD K ι X H d v) : ∃ a xs, v = .ref a ∧ (SqL K H a xs ∨ SqT K H a xs) ∧ RepDs K ι X H l xs := by
  cases d with
  | obj i =>
    obtain ⟨a, xs, ev, f, g⟩ := listD_rep rel (d := .obj i) e r
    exact ⟨a, xs, ev, .inl (SqL.of f), g⟩
  | dat p =>
    cases p with
    | tup l' =>
      cases e
      obtain ⟨a, xs, rfl, f, g⟩ := rT_inv r
      exact ⟨a, xs, rfl, .inr f.sq, repDs_dat g⟩
    | scr l' =>
      cases e
      have r : RepP K ι X H (.scr l') v := r
      rw [RepP] at r
      obtain ⟨a, rfl, f⟩ := r
      exact ⟨a, _, rfl, .inl f.sq, repDs_ints l'⟩
    | lst l' =>
      obtain ⟨a, xs, ev, f, g⟩ := listD_rep rel (d := .dat (.lst l')) e r
      exact ⟨a, xs, ev, .inl (SqL.of f), g⟩
    | _ => cases e
theorem listP_rep {d : D} {l : List P} {v : V} (rel : Rel K ι X S H) (e : listP S d = some l) (r : RepD K ι X H d v) : ∃ a xs, v = .ref a ∧ H a = some (.lst xs) ∧ RepPs K ι X H l xs := by
  unfold listP at e
  cases q : listD S d with
  | none => rw [q] at e; cases e
  | some l' =>
    rw [q] at e
    obtain ⟨a, xs, ev, f, g⟩ := listD_rep rel q r
    exact ⟨a, xs, ev, f, datAll_rep e g⟩
theorem seqP_rep {d : D} {l : List P} {v : V} (rel : Rel K ι X S H) (e : seqP S d = some l) (r : RepD K ι X H d v) : ∃ a xs, v = .ref a ∧ (SqL K H a xs ∨ SqT K H a xs) ∧ RepPs K ι X H l xs := by
  unfold seqP at e
  cases q : seqD S d with
  | none => rw [q] at e; cases e
  | some l' =>
    rw [q] at e
    obtain ⟨a, xs, ev, f, g⟩ := seqD_rep rel q r
    exact ⟨a, xs, ev, f, datAll_rep e g⟩
theorem repPs_app : ∀ {l k : List P} {xs ys : List V}, RepPs K ι X H l xs → RepPs K ι X H k ys → RepPs K ι X H (l ++ k) (xs ++ ys)
  | [], k, xs, ys, r, q => by
    rw [RepPs] at r
    rw [r]
    exact q
  | p :: l, k, xs, ys, r, q => by
    rw [RepPs] at r
    obtain ⟨y, zs, rfl, f, g⟩ := r
    rw [List.cons_append, RepPs]
    exact ⟨y, zs ++ ys, rfl, f, repPs_app g q⟩
end
/-! ### arithmetic -/
def iop (g : Int → Int → D) (c : Int → Int → Bool) : Store → D → D → Option D := fun _ x y => match x, y with
  | .dat (.int i), .dat (.int j) => if c i j = true then some (g i j) else none
  | _, _ => none
def dInt (i : Int) : D := .dat (.int i)
def dBl (b : Bool) : D := .dat (.bl b)
section
variable {K : PySem.W.Frag}
theorem iop_ok {g : Int → Int → D} {c : Int → Int → Bool} {C : Int → Int → Prop} {gV : Int → Int → V} (hc : ∀ i j, c i j = true → C i j) (hg : ∀ ι X H i j, RepD K ι X H (g i j) (gV i j)) : R2S K (rI C gV) (iop g c) := by
  intro ι X S H x y v u d Q rel rx ry e k
  unfold iop at e
  split at e
  · rename_i i j
    split at e
    · rename_i h
      cases e
      exact ⟨i, j, rI_inv rx, rI_inv ry, hc i j h, k H _ Ext.refl rel (hg ι X H i j)⟩
    · cases e
  · cases e
def yes2 : Int → Int → Bool := fun _ _ => true
theorem iop0_ok {g : Int → Int → D} {gV : Int → Int → V} (hg : ∀ ι X H i j, RepD K ι X H (g i j) (gV i j)) : R2S K (rI0 gV) (iop g yes2) := by
  intro ι X S H x y v u d Q rel rx ry e k
  unfold iop yes2 at e
  split at e
  · rename_i i j
    rw [if_pos rfl] at e
    cases e
    exact ⟨i, j, rI_inv rx, rI_inv ry, k H _ Ext.refl rel (hg ι X H i j)⟩
  · cases e
theorem R2S.or {r1 r2 : R2} {f f1 f2 : Store → D → D → Option D} (h1 : R2S K r1 f1) (h2 : R2S K r2 f2) (hf : ∀ S x y d, f S x y = some d → f1 S x y = some d ∨ f2 S x y = some d) : R2S K (fun x y H Q => r1 x y H Q ∨ r2 x y H Q) f := by
  intro ι X S H x y v u d Q rel rx ry e k
  rcases hf S x y d e with e | e
  · exact .inl (h1 ι X S H x y v u d Q rel rx ry e k)
  · exact .inr (h2 ι X S H x y v u d Q rel rx ry e k)
/-- the first that gives an answer -/
def orF (f g : Store → D → D → Option D) : Store → D → D → Option D := fun S x y => match f S x y with
  | some d => some d
  | none => g S x y
theorem R2S.orF {r1 r2 : R2} {f1 f2 : Store → D → D → Option D} (h1 : R2S K r1 f1) (h2 : R2S K r2 f2) : R2S K (fun x y H Q => r1 x y H Q ∨ r2 x y H Q) (orF f1 f2) := h1.or h2 fun S x y d e => by
  unfold M3.orF at e
  cases q : f1 S x y with
  | some z => rw [q] at e; exact .inl e
  | none => rw [q] at e; exact .inr e
def aAdd : Store → D → D → Option D := fun S x y => match x, y with
  | .dat (.int i), .dat (.int j) => some (.dat (.int (i + j)))
  | .dat (.str i), .dat (.str j) => if i.length + j.length ≤ 100000 then some (.dat (.str (i ++ j))) else none
  | .dat (.tup l), .dat (.tup k) => if l.length + k.length ≤ 100000 then some (.dat (.tup (l ++ k))) else none
  | x, y => match listP S x, listP S y with
    | some l, some k => if l.length + k.length ≤ 100000 then some (.dat (.lst (l ++ k))) else none
    | _, _ => none
def rAddM (K : PySem.W.Frag) : R2 := fun x y H Q => rI0 (fun i j => .int (i + j)) x y H Q ∨ (∃ i j, x = .str i ∧ y = .str j ∧ i.length + j.length ≤ sizeLine ∧ Q (.str (i ++ j)) H) ∨ rCatA K x y H Q ∨ rCat x y H Q
theorem op_addM {X : Cx} (h : X.K = K) : OpR X (binaryOp .Add) (rAddM K) := by
  subst h
  exact OpR.or op_add (OpR.or op_add_str (OpR.or op_catA op_cat))
theorem add_ok : R2S K (rAddM K) aAdd := by
  intro ι X S H x y v u d Q rel rx ry e k
  unfold aAdd at e
  split at e
  · cases e
    exact .inl ⟨_, _, rI_inv rx, rI_inv ry, k H _ Ext.refl rel rd_int⟩
  · split at e
    · rename_i hl
      cases e
      exact .inr (.inl ⟨_, _, rS_inv rx, rS_inv ry, small hl, k H _ Ext.refl rel rd_str⟩)
    · cases e
  · rename_i l m
    split at e
    · rename_i hl
      cases e
      obtain ⟨a, xs, rfl, f, g⟩ := rT_inv rx
      obtain ⟨b, ys, rfl, f2, g2⟩ := rT_inv ry
      refine .inr (.inr (.inl ⟨a, b, xs, ys, rfl, rfl, f.sq, f2.sq, small (by rw [repPs_len g, repPs_len g2]; exact hl), fun ex => ?_, fun ex ey => ?_, fun ex ey p hp => ?_⟩))
      · subst ex
        have : l = [] := List.length_eq_zero_iff.mp (repPs_len g).symm
        subst this
        exact k H _ Ext.refl rel ry
      · subst ey
        have : m = [] := List.length_eq_zero_iff.mp (repPs_len g2).symm
        subst this
        rw [List.append_nil] at k
        exact k H _ Ext.refl rel rx
      · exact new_tup rel (repPs_app g g2) hp k
    · cases e
  · split at e
    · rename_i l m e1 e2
      split at e
      · rename_i hl
        cases e
        obtain ⟨a, xs, rfl, f, g⟩ := listP_rep rel e1 rx
        obtain ⟨b, ys, rfl, f2, g2⟩ := listP_rep rel e2 ry
        exact .inr (.inr (.inr ⟨a, b, xs, ys, rfl, rfl, f, f2, small (by rw [repPs_len g, repPs_len g2]; exact hl), fun p hp => new_lst rel (repPs_app g g2) hp k⟩))
      · cases e
    · cases e
def aSub := iop (fun i j => dInt (i - j)) yes2
theorem sub_ok : R2S K (rI0 fun i j => .int (i - j)) aSub := iop0_ok fun _ _ _ _ _ => rd_int
def CMulM (i j : Int) : Prop := CMul i j ∨ CMulW i j
def cMul (i j : Int) : Bool := decide (i.natAbs < 2 ^ 64) || decide (j.natAbs < 2 ^ 64) || decide (i.natAbs.log2 + j.natAbs.log2 < 1000000)
theorem cMul_ok {i j : Int} (h : cMul i j = true) : CMulM i j := by
  unfold cMul at h
  rw [Bool.or_eq_true, Bool.or_eq_true] at h
  rcases h with (h | h) | h
  · exact .inl (.inl (by have := of_decide_eq_true h; omega))
  · exact .inl (.inr (by have := of_decide_eq_true h; omega))
  · exact .inr (show i.natAbs.log2 + j.natAbs.log2 < 1000000 from of_decide_eq_true h)
theorem op_mulMM {X : Cx} : OpR X (binaryOp .Mult) (rI CMulM fun i j => .int (i * j)) := opI fun _ _ _ _ _ _ _ hc q => mul_int q (hc.elim (fun h => h.ok) fun h => h.ok)
def rMulM (K : PySem.W.Frag) : R2 := fun x y H Q => rI CMulM (fun i j => .int (i * j)) x y H Q ∨ rRep x y H Q ∨ rRepT K x y H Q
theorem op_mulM {X : Cx} (h : X.K = K) : OpR X (binaryOp .Mult) (rMulM K) := by
  subst h
  exact OpR.or op_mulMM (OpR.or op_rep op_repT)
def repP (n : Nat) (l : List P) : List P := (List.replicate n l).flatten
theorem repP_rep {ι X : List Addr} {H : Hp} {l : List P} {xs : List V} (r : RepPs K ι X H l xs) : ∀ n, RepPs K ι X H (repP n l) (List.replicate n xs).flatten
  | 0 => by
    show RepPs K ι X H [] []
    rw [RepPs]
  | n + 1 => by
    unfold repP
    rw [List.replicate_succ, List.flatten_cons, List.replicate_succ, List.flatten_cons]
    exact repPs_app r (repP_rep r n)
def aMul : Store → D → D → Option D := fun S x y => match x, y with
  | .dat (.int i), .dat (.int j) => if cMul i j = true then some (.dat (.int (i * j))) else none
  | .dat (.tup l), .dat (.int j) => if l ≠ [] ∧ 2 ≤ j ∧ j ≤ 1000 ∧ l.length ≤ 1000 then some (.dat (.tup (repP j.toNat l))) else none
  | x, .dat (.int j) => match listP S x with
    | some l => if j ≤ 1000000 ∧ 0 ≤ j ∧ l.length * j.toNat ≤ 100000 then some (.dat (.lst (repP j.toNat l))) else none
    | none => none
  | _, _ => none
theorem mul_ok : R2S K (rMulM K) aMul := by
  intro ι X S H x y v u d Q rel rx ry e k
  unfold aMul at e
  split at e
  · split at e
    · rename_i h
      cases e
      exact .inl ⟨_, _, rI_inv rx, rI_inv ry, cMul_ok h, k H _ Ext.refl rel rd_int⟩
    · cases e
  · split at e
    · rename_i h
      cases e
      obtain ⟨a, xs, rfl, f, g⟩ := rT_inv rx
      refine .inr (.inr ⟨a, _, xs, rfl, rI_inv ry, f.sq, fun z => h.1 ?_, h.2.1, h.2.2.1, by rw [repPs_len g]; exact h.2.2.2, fun p hp => new_tup rel (repP_rep g _) hp k⟩)
      subst z
      exact List.length_eq_zero_iff.mp (repPs_len g).symm
    · cases e
  · split at e
    · rename_i l e1
      split at e
      · rename_i h
        cases e
        obtain ⟨a, xs, rfl, f, g⟩ := listP_rep rel e1 rx
        exact .inr (.inl ⟨a, _, xs, rfl, rI_inv ry, f, by omega, by omega, small (by rw [repPs_len g]; exact h.2.2), fun p hp => new_lst rel (repP_rep g _) hp k⟩)
      · cases e
    · cases e
  · cases e
def aMod := iop (fun i j => dInt (i % j)) fun _ j => decide (0 < j)
theorem mod_ok : R2S K (rI (fun _ j => 0 < j) fun i j => .int (i % j)) aMod := iop_ok (fun _ _ h => of_decide_eq_true h) fun _ _ _ _ _ => rd_int
def aDiv := iop (fun i j => dInt (i / j)) fun _ j => decide (0 < j) && decide (j.natAbs.log2 < 9000)
theorem div_ok : R2S K (rI CDivW fun i j => .int (i / j)) aDiv := iop_ok (fun _ _ h => by
  rw [Bool.and_eq_true] at h
  exact ⟨of_decide_eq_true h.1, of_decide_eq_true h.2⟩) fun _ _ _ _ _ => rd_int
def aPow := iop (fun i j => dInt (i ^ j.toNat)) fun i j => decide (0 ≤ j) && decide (j ≤ 1000000) && decide (i.natAbs < 2 ^ 64)
theorem pow_ok : R2S K (rI CPow fun i j => .int (i ^ j.toNat)) aPow := iop_ok (fun _ _ h => by
  rw [Bool.and_eq_true, Bool.and_eq_true] at h
  exact ⟨of_decide_eq_true h.1.1, of_decide_eq_true h.1.2, of_decide_eq_true h.2⟩) fun _ _ _ _ _ => rd_int
def aLt := iop (fun i j => dBl (decide (i < j))) yes2
def aLe := iop (fun i j => dBl (decide (i ≤ j))) yes2
def aGt := iop (fun i j => dBl (decide (j < i))) yes2
def aGe := iop (fun i j => dBl (decide (j ≤ i))) yes2
theorem lt_ok : R2S K (rI0 fun i j => .bl (decide (i < j))) aLt := iop0_ok fun _ _ _ _ _ => rd_bl
theorem le_ok : R2S K (rI0 fun i j => .bl (decide (i ≤ j))) aLe := iop0_ok fun _ _ _ _ _ => rd_bl
theorem gt_ok : R2S K (rI0 fun i j => .bl (decide (j < i))) aGt := iop0_ok fun _ _ _ _ _ => rd_bl
theorem ge_ok : R2S K (rI0 fun i j => .bl (decide (j ≤ i))) aGe := iop0_ok fun _ _ _ _ _ => rd_bl
def aNeg : Store → D → Option D := fun _ x => match x with
  | .dat (.int i) => some (.dat (.int (-i)))
  | _ => none
theorem neg_ok : R1S K (rU fun i => .int (-i)) aNeg := by
  intro ι X S H x v d Q rel rx e k
  unfold aNeg at e
  split at e
  · cases e
    exact ⟨_, rI_inv rx, k H _ Ext.refl rel rd_int⟩
  · cases e
end
end M3
namespace M3
open PySem PySem.Spec PyProof.Rows L2
/-! ### equality of data -/
mutual
def toPy : P → PyData
  | .non => .none
  | .bl b => .bool b
  | .int i => .int i
  | .str s => .str s
  | .tup l => .tuple (toPys l)
  | .lst l => .list (toPys l)
  | _ => .none
def toPys : List P → List PyData
  | [] => []
  | p :: ps => toPy p :: toPys ps
end
mutual
def okD : Nat → P → Bool
  | 0, _ => false
  | _ + 1, .non => true
  | _ + 1, .bl _ => true
  | _ + 1, .int _ => true
  | _ + 1, .str s => PyData.strOk s
  | n + 1, .tup l => okDs n l
  | n + 1, .lst l => okDs n l
  | _ + 1, .dic _ => false
  | _ + 1, .ins _ _ => false
  | _ + 1, .con _ => false
  | _ + 1, .scr _ => false
def okDs : Nat → List P → Bool
  | _, [] => true
  | n, p :: ps => okD n p && okDs n ps
end
def eqP (p q : P) : Bool := PyData.eqv (toPy p) (toPy q)
mutual
theorem okD_lay : ∀ (n : Nat) (p : P), okD n p = true → (toPy p).canLay0 = true ∧ (toPy p).depth ≤ n
  | 0, _, h => by rw [okD] at h; cases h
  | n + 1, .non, _ => ⟨rfl, by rw [toPy, PyData.depth]; first | exact Nat.zero_le _ | omega⟩
  | n + 1, .bl _, _ => ⟨rfl, by rw [toPy, PyData.depth]; first | exact Nat.zero_le _ | omega⟩
  | n + 1, .int _, _ => ⟨rfl, by rw [toPy, PyData.depth]; first | exact Nat.zero_le _ | omega⟩
  | n + 1, .str _, h => ⟨by rw [okD] at h; exact h, by rw [toPy, PyData.depth]; first | exact Nat.zero_le _ | omega⟩
  | n + 1, .tup l, h => by
    rw [okD] at h
    obtain ⟨a, b⟩ := okDs_lay n l h
    rw [toPy]
    exact ⟨a, Nat.succ_le_succ b⟩
  | n + 1, .lst l, h => by
    rw [okD] at h
    obtain ⟨a, b⟩ := okDs_lay n l h
    rw [toPy]
    exact ⟨a, Nat.succ_le_succ b⟩
  | n + 1, .dic _, h => by rw [okD] at h; first | cases h | (intro; contradiction)
  | n + 1, .ins _ _, h => by rw [okD] at h; first | cases h | (intro; contradiction)
  | n + 1, .con _, h => by rw [okD] at h; first | cases h | (intro; contradiction)
  | n + 1, .scr _, h => by rw [okD] at h; first | cases h | (intro; contradiction)
theorem okDs_lay : ∀ (n : Nat) (p : List P), okDs n p = true → PyData.canLayAll0 (toPys p) = true ∧ PyData.depthAll (toPys p) ≤ n
  | n, [], _ => ⟨rfl, Nat.zero_le _⟩
  | n, p :: ps, h => by
    rw [okDs, Bool.and_eq_true] at h
    obtain ⟨a, b⟩ := okD_lay n p h.1
    obtain ⟨c, d⟩ := okDs_lay n ps h.2
    rw [toPys]
    exact ⟨Bool.and_eq_true_iff.mpr ⟨a, c⟩, Nat.max_le.mpr ⟨b, d⟩⟩
end
mutual
theorem okD_dp {K : PySem.W.Frag} {ι X : List Addr} {H : Hp} : ∀ (n : Nat) (p : P) (v : V), okD n p = true → RepP K ι X H p v → Dp K H v (toPy p)
  | 0, _, _, h, _ => by rw [okD] at h; cases h
  | n + 1, .non, _, _, r => by rw [RepP] at r; rw [r, toPy]; exact .non
  | n + 1, .bl _, _, _, r => by rw [RepP] at r; rw [r, toPy]; exact .bl _
  | n + 1, .int _, _, _, r => by rw [RepP] at r; rw [r, toPy]; exact .int _
  | n + 1, .str _, _, _, r => by rw [RepP] at r; rw [r, toPy]; exact .str _
  | n + 1, .tup l, v, h, r => by
    rw [okD] at h
    rw [RepP] at r
    obtain ⟨a, xs, e, f, g⟩ := r
    rw [e, toPy]
    exact .tup f.sq (okDs_dp n l xs h g)
  | n + 1, .lst l, v, h, r => by
    rw [okD] at h
    rw [RepP] at r
    obtain ⟨a, xs, e, _, _, f, g⟩ := r
    rw [e, toPy]
    exact .lst (SqL.of f) (okDs_dp n l xs h g)
  | n + 1, .dic _, _, h, _ => by rw [okD] at h; first | cases h | (intro; contradiction)
  | n + 1, .ins _ _, _, h, _ => by rw [okD] at h; first | cases h | (intro; contradiction)
  | n + 1, .con _, _, h, _ => by rw [okD] at h; first | cases h | (intro; contradiction)
  | n + 1, .scr _, _, h, _ => by rw [okD] at h; first | cases h | (intro; contradiction)
theorem okDs_dp {K : PySem.W.Frag} {ι X : List Addr} {H : Hp} : ∀ (n : Nat) (p : List P) (v : List V), okDs n p = true → RepPs K ι X H p v → DpAll K H v (toPys p)
  | n, [], v, _, r => by
    rw [RepPs] at r
    rw [r, toPys]
    exact .nil
  | n, p :: ps, v, h, r => by
    rw [okDs, Bool.and_eq_true] at h
    rw [RepPs] at r
    obtain ⟨y, ys, e, f, g⟩ := r
    rw [e, toPys]
    exact .cons (okD_dp n p y h.1 f) (okDs_dp n ps ys h.2 g)
end
/-- data, a list of data among the objects too -/
def datOf (S : Store) : D → Option P
  | .dat p => some p
  | .obj i => match S[i]? with
    | some (.lst l) => (datAll l).map .lst
    | _ => none
def eqD (S : Store) (x y : D) : Option Bool := match x, y with
  | .dat (.int i), .dat (.int j) => some (decide (i = j))
  | .dat (.str i), .dat (.str j) => some (decide (i = j))
  | .dat (.bl i), .dat (.bl j) => some (decide (i = j))
  | .dat .non, .dat .non => some true
  | .dat .non, .dat (.int _) => some false
  | .dat (.int _), .dat .non => some false
  | x, y => match datOf S x, datOf S y with
    | some p, some q => if okD 60 p = true ∧ okD 60 q = true then some (eqP p q) else none
    | _, _ => none
def aEq : Store → D → D → Option D := fun S x y => (eqD S x y).map dBl
def aNe : Store → D → D → Option D := fun S x y => (eqD S x y).map fun b => dBl (!b)
def rEqM (K : PySem.W.Frag) : R2 := fun x y H Q => rEq x y H Q ∨ rEqD K x y H Q
def rNeM (K : PySem.W.Frag) : R2 := fun x y H Q => rNe x y H Q ∨ rNeD K x y H Q
section
variable {K : PySem.W.Frag} {ι X : List Addr} {S : Store} {H : Hp}
theorem op_eqM {X : Cx} (h : X.K = K) (hu : X.A.units + 64 < cLine) : OpR X (compareOp .Eq) (rEqM K) := by
  subst h
  exact OpR.or op_eq (op_eqD hu)
theorem op_neM {X : Cx} (h : X.K = K) (hu : X.A.units + 64 < cLine) : OpR X (compareOp .NotEq) (rNeM K) := by
  subst h
  exact OpR.or op_ne (op_neD hu)
theorem datOf_dp {x : D} {p : P} {v : V} {n : Nat} (rel : Rel K ι X S H) (e : datOf S x = some p) (o : okD n p = true) (r : RepD K ι X H x v) : Dp K H v (toPy p) := by
  cases x with
  | dat q =>
    cases e
    exact okD_dp n _ v o r
  | obj i =>
    obtain ⟨a, ea, rfl⟩ := r
    unfold datOf at e
    simp only at e
    cases es : S[i]? with
    | none => rw [es] at e; cases e
    | some ob =>
      rw [es] at e
      cases ob with
      | ins C l => cases e
      | dic l => cases e
      | lst l =>
        cases q : datAll l with
        | none => simp only [q] at e; cases e
        | some ps =>
          simp only [q, Option.map_some] at e
          cases e
          obtain ⟨xs, f, g⟩ := rel.at_ i _ a es ea
          cases n with
          | zero => rw [okD] at o; cases o
          | succ n =>
            rw [okD] at o
            rw [toPy]
            exact .lst (SqL.of f) (okDs_dp n ps xs o (datAll_rep q g))
theorem eqD_cases {x y : D} {v u : V} {b : Bool} (rel : Rel K ι X S H) (rx : RepD K ι X H x v) (ry : RepD K ι X H y u) (e : eqD S x y = some b) :
    (scal v u = true ∧ decide (v = u) = b) ∨ ∃ d f, Dp K H v d ∧ Dp K H u f ∧ SeqAt.shaped d = true ∧ SeqAt.shaped f = true ∧ PyData.eqv d f = b := by
  unfold eqD at e
  split at e
  · cases e
    rw [rI_inv rx, rI_inv ry]
    exact .inl ⟨rfl, by simp⟩
  · cases e
    rw [rS_inv rx, rS_inv ry]
    exact .inl ⟨rfl, by simp⟩
  · cases e
    rw [rB_inv rx, rB_inv ry]
    exact .inl ⟨rfl, by simp⟩
  · cases e
    rw [rN_inv rx, rN_inv ry]
    exact .inl ⟨rfl, by simp⟩
  · cases e
    rw [rN_inv rx, rI_inv ry]
    exact .inl ⟨rfl, by simp⟩
  · cases e
    rw [rI_inv rx, rN_inv ry]
    exact .inl ⟨rfl, by simp⟩
  · split at e
    · rename_i p q e1 e2
      split at e
      · rename_i h
        cases e
        obtain ⟨l1, d1⟩ := okD_lay 60 p h.1
        obtain ⟨l2, d2⟩ := okD_lay 60 q h.2
        refine .inr ⟨_, _, datOf_dp rel e1 h.1 rx, datOf_dp rel e2 h.2 ry, ?_, ?_, rfl⟩
        · exact Bool.and_eq_true_iff.mpr ⟨l1, decide_eq_true (by omega)⟩
        · exact Bool.and_eq_true_iff.mpr ⟨l2, decide_eq_true (by omega)⟩
      · cases e
    · cases e
end
section
variable {K : PySem.W.Frag}
theorem eq_ok : R2S K (rEqM K) aEq := by
  intro ι X S H x y v u d Q rel rx ry e k
  unfold aEq at e
  cases q : eqD S x y with
  | none => rw [q] at e; cases e
  | some b =>
    rw [q] at e
    cases e
    rcases eqD_cases rel rx ry q with ⟨h1, h2⟩ | ⟨d, f, h1, h2, h3, h4, h5⟩
    · exact .inl ⟨h1, by rw [h2]; exact k H _ Ext.refl rel rd_bl⟩
    · exact .inr ⟨d, f, h1, h2, h3, h4, by rw [h5]; exact k H _ Ext.refl rel rd_bl⟩
theorem ne_ok : R2S K (rNeM K) aNe := by
  intro ι X S H x y v u d Q rel rx ry e k
  unfold aNe at e
  cases q : eqD S x y with
  | none => rw [q] at e; cases e
  | some b =>
    rw [q] at e
    cases e
    rcases eqD_cases rel rx ry q with ⟨h1, h2⟩ | ⟨d, f, h1, h2, h3, h4, h5⟩
    · exact .inl ⟨h1, by rw [h2]; exact k H _ Ext.refl rel rd_bl⟩
    · exact .inr ⟨d, f, h1, h2, h3, h4, by rw [h5]; exact k H _ Ext.refl rel rd_bl⟩
/-! ### is None, is True -/
def isN : D → Option Bool
  | .dat .non => some true
  | .dat (.con v) => some (decide (v = .non))
  | _ => some false
def aIsN : Store → D → D → Option D := fun _ x y => match y with
  | .dat .non => (isN x).map dBl
  | _ => none
def aNotN : Store → D → D → Option D := fun _ x y => match y with
  | .dat .non => (isN x).map fun b => dBl (!b)
  | _ => none
theorem isN_ok {ι X : List Addr} {H : Hp} {x : D} {v : V} {b : Bool} (r : RepD K ι X H x v) (e : isN x = some b) : decide (v = .non) = b := by
  cases x with
  | obj i =>
    obtain ⟨a, _, rfl⟩ := r
    cases e
    rfl
  | dat p =>
    have r : RepP K ι X H p v := r
    cases p <;> rw [RepP] at r
    · cases e; rw [r]; rfl
    · cases e; rw [r]; rfl
    · cases e; rw [r]; rfl
    · cases e; rw [r]; rfl
    · cases e; obtain ⟨a, xs, rfl, _⟩ := r; rfl
    · cases e; obtain ⟨a, xs, rfl, _⟩ := r; rfl
    · cases e; obtain ⟨a, xs, rfl, _⟩ := r; rfl
    · cases e; obtain ⟨a, dx, xs, rfl, _⟩ := r; rfl
    · cases e; rw [r]
    · cases e; obtain ⟨a, rfl, _⟩ := r; rfl
theorem isN_okR : R2S K (fun x y H Q => y = .non ∧ Q (.bl (decide (x = .non))) H) aIsN := by
  intro ι X S H x y v u d Q rel rx ry e k
  unfold aIsN at e
  split at e
  · cases q : isN x with
    | none => rw [q] at e; cases e
    | some b =>
      rw [q] at e
      cases e
      refine ⟨rN_inv ry, ?_⟩
      rw [isN_ok rx q]
      exact k H _ Ext.refl rel rd_bl
  · cases e
theorem notN_okR : R2S K (fun x y H Q => y = .non ∧ Q (.bl (!decide (x = .non))) H) aNotN := by
  intro ι X S H x y v u d Q rel rx ry e k
  unfold aNotN at e
  split at e
  · cases q : isN x with
    | none => rw [q] at e; cases e
    | some b =>
      rw [q] at e
      cases e
      refine ⟨rN_inv ry, ?_⟩
      rw [isN_ok rx q]
      exact k H _ Ext.refl rel rd_bl
  · cases e
/-! ### in -/
def flatP : P → Bool
  | .non => true
  | .bl _ => true
  | .int _ => true
  | .str _ => true
  | _ => false
/-- == of flat things -/
def eqF : P → P → Bool
  | .non, .non => true
  | .bl a, .bl b => a == b
  | .bl a, .int b => (if a then 1 else 0) == b
  | .int a, .bl b => a == (if b then 1 else 0)
  | .int a, .int b => a == b
  | .str a, .str b => a == b
  | _, _ => false
theorem flat_rep {ι X : List Addr} {H : Hp} {p : P} {v : V} (e : flatP p = true) (r : RepP K ι X H p v) : flatV v = true := by
  cases p <;> first | (rw [RepP] at r; rw [r]; rfl) | cases e
theorem eqF_rep {ι X : List Addr} {H : Hp} {p q : P} {v u : V} (e : flatP p = true) (f : flatP q = true) (r : RepP K ι X H p v) (s : RepP K ι X H q u) : eqV v u = eqF p q := by
  cases p <;> first | exact (Bool.false_ne_true e).elim | skip
  all_goals cases q <;> first | exact (Bool.false_ne_true f).elim | (rw [RepP] at r; rw [RepP] at s; rw [r, s]; rfl)
theorem flats_rep {ι X : List Addr} {H : Hp} : ∀ {ps : List P} {vs : List V}, ps.all flatP = true → RepPs K ι X H ps vs → vs.all flatV = true
  | [], vs, _, r => by rw [RepPs] at r; rw [r]; rfl
  | p :: ps, vs, e, r => by
    rw [RepPs] at r
    obtain ⟨y, ys, rfl, f, g⟩ := r
    rw [List.all_cons, Bool.and_eq_true] at e ⊢
    exact ⟨flat_rep e.1 f, flats_rep e.2 g⟩
def inP (x : P) (l : List P) : Bool := l.any fun y => eqF y x
theorem inP_rep {ι X : List Addr} {H : Hp} {x : P} {v : V} (ex : flatP x = true) (rx : RepP K ι X H x v) : ∀ {ps : List P} {vs : List V}, ps.all flatP = true → RepPs K ι X H ps vs → inV v vs = inP x ps
  | [], vs, _, r => by rw [RepPs] at r; rw [r]; rfl
  | p :: ps, vs, e, r => by
    rw [RepPs] at r
    obtain ⟨y, ys, rfl, f, g⟩ := r
    rw [List.all_cons, Bool.and_eq_true] at e
    have ih := inP_rep ex rx e.2 g
    unfold inV inP at ih ⊢
    rw [List.any_cons, List.any_cons, ih, eqF_rep e.1 ex f rx]
/-- a text of one sign -/
def oneSign (s : Str) : Option Nat := match s.cps.toList with
  | [c] => some c
  | _ => none
theorem oneSign_eq {s : Str} {c : Nat} (e : oneSign s = some c) : s = ⟨#[c]⟩ := by
  unfold oneSign at e
  split at e
  · rename_i q
    cases e
    obtain ⟨⟨l⟩⟩ := s
    have : l = [c] := q
    rw [this]
  · cases e
def inD (S : Store) (x y : D) : Option Bool := match x, y with
  | .dat (.str s), .dat (.str z) => (oneSign s).map fun c => decide (c ∈ z.cps.toList)
  | .dat p, y => match seqP S y with
    | some l => if flatP p = true ∧ l.all flatP = true then some (inP p l) else none
    | none => none
  | _, _ => none
def aIn : Store → D → D → Option D := fun S x y => (inD S x y).map dBl
def aNotIn : Store → D → D → Option D := fun S x y => (inD S x y).map fun b => dBl (!b)
def rInM (K : PySem.W.Frag) : R2 := fun x y H Q => rIn K false x y H Q ∨ (∃ (c : Nat) (z : Str), x = .str ⟨#[c]⟩ ∧ y = .str z ∧ Q (.bl (decide (c ∈ z.cps.toList))) H)
def rNotInM (K : PySem.W.Frag) : R2 := fun x y H Q => rIn K true x y H Q ∨ (∃ (c : Nat) (z : Str), x = .str ⟨#[c]⟩ ∧ y = .str z ∧ Q (.bl (!decide (c ∈ z.cps.toList))) H)
theorem op_inM {X : Cx} (h : X.K = K) : OpR X (compareOp .In) (rInM K) := by
  subst h
  exact OpR.or op_in_seq op_in_sign
theorem op_notInM {X : Cx} (h : X.K = K) : OpR X (compareOp .NotIn) (rNotInM K) := by
  subst h
  exact OpR.or op_notIn_seq op_notIn_sign
theorem in_cases {ι X : List Addr} {S : Store} {H : Hp} {x y : D} {v u : V} {b : Bool} (rel : Rel K ι X S H) (rx : RepD K ι X H x v) (ry : RepD K ι X H y u) (e : inD S x y = some b) :
    (∃ p xs, u = .ref p ∧ (SqL K H p xs ∨ SqT K H p xs) ∧ flatV v = true ∧ xs.all flatV = true ∧ inV v xs = b) ∨ ∃ (c : Nat) (z : Str), v = .str ⟨#[c]⟩ ∧ u = .str z ∧ decide (c ∈ z.cps.toList) = b := by
  unfold inD at e
  split at e
  · rename_i s z
    cases q : oneSign s with
    | none => rw [q] at e; cases e
    | some c =>
      rw [q] at e
      cases e
      exact .inr ⟨c, _, by rw [rS_inv rx, oneSign_eq q], rS_inv ry, rfl⟩
  · split at e
    · rename_i l e1
      split at e
      · rename_i h
        cases e
        obtain ⟨a, xs, rfl, f, g⟩ := seqP_rep rel e1 ry
        exact .inl ⟨a, xs, rfl, f, flat_rep h.1 rx, flats_rep h.2 g, inP_rep h.1 rx h.2 g⟩
      · cases e
    · cases e
  · cases e
theorem in_ok : R2S K (rInM K) aIn := by
  intro ι X S H x y v u d Q rel rx ry e k
  unfold aIn at e
  cases q : inD S x y with
  | none => rw [q] at e; cases e
  | some b =>
    rw [q] at e
    cases e
    rcases in_cases rel rx ry q with ⟨p, xs, h1, h2, h3, h4, h5⟩ | ⟨c, z, h1, h2, h3⟩
    · refine .inl ⟨p, xs, h1, h2, h3, h4, ?_⟩
      rw [if_neg Bool.false_ne_true, h5]
      exact k H _ Ext.refl rel rd_bl
    · exact .inr ⟨c, z, h1, h2, by rw [h3]; exact k H _ Ext.refl rel rd_bl⟩
theorem notIn_ok : R2S K (rNotInM K) aNotIn := by
  intro ι X S H x y v u d Q rel rx ry e k
  unfold aNotIn at e
  cases q : inD S x y with
  | none => rw [q] at e; cases e
  | some b =>
    rw [q] at e
    cases e
    rcases in_cases rel rx ry q with ⟨p, xs, h1, h2, h3, h4, h5⟩ | ⟨c, z, h1, h2, h3⟩
    · refine .inl ⟨p, xs, h1, h2, h3, h4, ?_⟩
      rw [if_pos rfl, h5]
      exact k H _ Ext.refl rel rd_bl
    · exact .inr ⟨c, z, h1, h2, by rw [h3]; exact k H _ Ext.refl rel rd_bl⟩
end
end M3
namespace PySem
open Sem (wp)
open AutoSeq1 (wpAny_loadPart')
theorem meets_enumerate_newT (l : Addr) (items : Array Value) (n : Nat) (dct : Option Addr) (sl : Array (Option Value)) :
    Meets (Builtin.«enumerate.__new__» ⟨[.type "enumerate", .ref l], []⟩) (fun _ R s => s.heap.get? l = some { cls := .type "tuple", dict := dct, data := .seq items n, slots := sl } ∧
      R (.ok (.ret (.ref (s.heap.push { cls := .type "tuple_iterator", data := .fields #[.ref l, .int 0 0] }).objs.size)))
        { s with heap := (s.heap.push { cls := .type "tuple_iterator", data := .fields #[.ref l, .int 0 0] }).push { cls := .type "enumerate", data := .fields #[.none, .bool false, .ref s.heap.objs.size, rawInt 0, .none, .none] } }) :=
  .of_wp fun prog w A R s h => by
    obtain ⟨hp, g, d, tk, os⟩ := s; obtain ⟨hl, h⟩ := h
    have hsub := sub_enumerate
    have hL : Heap.IsTuple (Shared.heap ⟨hp, g, d, tk, os⟩) l items := ⟨_, hl, rfl, n, rfl⟩
    wp_walk using wpAny_loadPart' hl
    refine wpAny_stack_any fun st => wpAny_pure ?_
    split
    · rename_i c _ _ _ _ _
      cases (c == Value.type "enumerate")
      · wp_walk using wpAny_loadPart' hl, wpAny_pyIter_tuple hL
        exact ⟨_, rfl, h⟩
      · wp_walk using wpAny_loadPart' hl, wpAny_pyIter_tuple hL
        exact ⟨_, rfl, h⟩
    · wp_walk using wpAny_loadPart' hl, wpAny_pyIter_tuple hL
      exact ⟨_, rfl, h⟩
section
variable {prog : Program} {w : World} {A : Around} {E : Value → Shared → Prop} {s : Shared}
theorem call_enumerate_tup {l : Addr} {items : Array Value} {Q : Value → Shared → Prop} (hL : s.heap.IsTuple l items)
    (h : ∀ h', IsEnum h' (s.heap.objs.size + 1) s.heap.objs.size 0 .none → h'.IsTupleIter s.heap.objs.size l 0 → h'.objs.size = s.heap.objs.size + 2 →
      (∀ b o, s.heap.get? b = some o → h'.get? b = some o) → Q (.ref (s.heap.objs.size + 1)) { s with heap := h' }) :
    wpAny (model prog w) A (call (.type "enumerate") [.ref l]) Q E s := by
  obtain ⟨⟨c, dct, dt, sl⟩, hl, hc, n, hd⟩ := hL
  replace hc : c = .type "tuple" := hc
  replace hd : dt = .seq items n := hd
  subst hc hd
  refine callType_new F.called_enumerate (by decide) (F.typeCall_enumerate_1 _) (F.newCall_enumerate_1 _) (fun obj => F.args_object_init_2 obj _) F.entry_enumerate_new
    (meets_enumerate_newT l items n dct sl) ⟨hl, ?_⟩
  have hz : (s.heap.push { cls := .type "tuple_iterator", data := .fields #[.ref l, .int 0 0] }).objs.size = s.heap.objs.size + 1 := Heap.size_push ..
  show _ ∧ _
  rw [hz]
  have he : IsEnum ((s.heap.push { cls := .type "tuple_iterator", data := .fields #[.ref l, .int 0 0] }).push
      { cls := .type "enumerate", data := .fields #[.none, .bool false, .ref s.heap.objs.size, rawInt 0, .none, .none] }) (s.heap.objs.size + 1) s.heap.objs.size 0 .none := by
    have := Heap.get?_push_size (s.heap.push { cls := .type "tuple_iterator", data := .fields #[.ref l, .int 0 0] })
      (o := { cls := .type "enumerate", data := .fields #[.none, .bool false, .ref s.heap.objs.size, rawInt 0, .none, .none] }) rfl
    rw [hz] at this; exact this
  refine ⟨⟨_, he, rfl⟩, h _ he ⟨_, Heap.get?_push_of_some _ (Heap.get?_push_size _ rfl), rfl, rfl⟩ (by rw [Heap.size_push, hz]) fun b o x => Heap.get?_push_of_some _ (Heap.get?_push_of_some _ x)⟩
theorem enum_endT {e it l : Addr} {i : Nat} {items : Array Value} {old : Value} {Q : Option Value → Shared → Prop} (hh : A.handled = none)
    (he : IsEnum s.heap e it i old) (hit : s.heap.IsTupleIter it l i) (hl : s.heap.IsTuple l items) (hx : items[i]? = none)
    (hQ : ∀ h', Heap.ExtBut it s.heap h' → Q none { s with heap := h' }) : wpAny (model prog w) A (pyNext (.ref e)) Q E s := by
  have hT : s.TypeIs (.ref e) "enumerate" := ⟨_, he, rfl⟩
  unfold pyNext
  refine wpAny_bind (wpAny_attempt (wpAny_callSpecial?_slot (name := Str.ofString "__next__") hT F.slot_enumerate_next
    (wpAny_call_entry F.slot_enumerate_next hT F.entry_enumerate_next ?_ (F.args_enumerate_next_1 _))))
  show wpAny _ _ (field (.ref e) 2 >>= _) _ _ _
  refine wpAny_bind (wpAny_field he rfl (x := .ref it) rfl ?_)
  refine wpAny_bind (RZ.nextOf_tuple_end hh hit hl hx fun h' x he' hx' => ?_)
  obtain ⟨o, ho, hc⟩ := hx'
  refine wpAny_bind (wpAny_isInstance (T := "StopIteration") (b := true) ⟨o, ho, hc⟩ isSubtype_stop ?_)
  exact wpAny_pure (hQ _ he')
end
end PySem
namespace W2
open PySem PySem.Spec PyProof.Rows L2
/-- the tuple at a as it stands at each turn, each item in a new pair -/
def IteT (K : PySem.W.Frag) (a : Addr) : It :=
  ⟨fun i H => ∃ (xs : List V) (x : V), SqT K H a xs ∧ xs[i]? = some x, fun i H v H' => ∃ T x, v = .ref T ∧ H T = none ∧ H' = upd H T (.tup [.int (i : Nat), x]) ∧ ∀ xs, SqT K H a xs → xs[i]? = some x, fun i H => ∃ xs : List V, SqT K H a xs ∧ xs.length ≤ i⟩
theorem turn_enumT {P : Program} {w : World} {K : PySem.W.Frag} {elts : List Expr} {kk : Nat} {tpos : Pos} (a e it : Addr) (hia : a ≠ it) :
    Turn P w K (.Tuple elts kk tpos) (IteT K a) [e, it] e (fun i h => (∃ old, IsEnum h e it ((i : Nat) : Int) old) ∧ h.IsTupleIter it a i ∧ e ≠ it ∧ e ≠ a) where
  mem := by simp
  obj := fun i h st b hb => by
    obtain ⟨⟨old, he⟩, ⟨o, ho, hc, hd⟩, _⟩ := st
    have e' : b = e ∨ b = it := by simpa using hb
    rcases e' with z | z
    · rw [z]; exact ⟨_, he, fun v q => nomatch q⟩
    · rw [z]; exact ⟨o, ho, fun v q => by rw [hd] at q; cases q⟩
  keep := fun i h h' st k => let ⟨⟨old, he⟩, hi, hne⟩ := st; ⟨⟨old, k e (by simp) _ he⟩, hi.at fun o q => k it (by simp) o q, hne⟩
  item := by
    intro X hP hw hK hc i pins s σ H E I hf st hg
    subst hP hw hK
    obtain ⟨⟨old, he⟩, hit, hne, hea⟩ := st
    obtain ⟨xs, x, hq, hx⟩ := hg
    obtain ⟨its, rv, p, hz⟩ := I.tuple hq
    obtain ⟨u, hu, ru⟩ := rv.get hx
    have hel : e < s.heap.objs.size := Heap.lt_size he
    have hil : it < s.heap.objs.size := by obtain ⟨_, q, _⟩ := hit; exact Heap.lt_size q
    have hi : i < its.toArray.size := by
      have := (List.getElem?_eq_some_iff.mp hu).1
      simpa using this
    refine wpAny_pyNext_enum_itemD (Draws.tuple (prog := X.prog) (w := X.w) (A := X.A.in1) (show X.A.in1.handled = none from I.ok.hd hc) it a hia its.toArray) he ⟨hit, p⟩ hi hne (by simp [hne, hea]) fun u' h' tk hP ho hit' hT hsz hk => ?_
    have eu : u' = u := by
      have h1 : its.toArray[i]? = some u := by simpa using hu
      rw [h1] at hP
      exact (Option.some.inj hP).symm
    subst eu
    refine ⟨_, rfl, wpAny_letOwnedTupleGo_enum (s := { s with heap := h', toks := tk + 1 }) ho fun h'' he' sb => ?_⟩
    have hT2 : h''.get? s.heap.objs.size = some { cls := .type "tuple", data := .seq #[.int i tk, u'] } := (sb.2 _ (Nat.ne_of_gt hel)).trans hT
    have new : ObjOk X.prog X.w (upd H s.heap.objs.size (.tup [.int (i : Nat), x])) h'' s.heap.objs.size (.tup [.int (i : Nat), x]) :=
      ⟨by show 2 ≤ sizeLine; decide, [.int i tk, u'], .cons ⟨_, rfl⟩ (.cons ru .nil), ⟨_, hT2, rfl, _, rfl⟩⟩
    have I1 : Inv X pins σ (upd H s.heap.objs.size (.tup [.int (i : Nat), x])) { s with heap := h'', toks := tk + 1 } :=
      I.turnedNew (ch := [e, it]) (fun b ob hb q => (sb.2 b (fun z => hb (by simp [z]))).trans (hk b ob (fun z => hb (by simp [z])) (fun z => hb (by simp [z])) q)) hf (Nat.le_refl _) new
    refine ⟨.ref s.heap.objs.size, _, I1, rfl, ⟨_, x, rfl, I.hok.fresh (Nat.le_refl _), rfl, fun ys hy => by rw [I.tuple_inj hy hq]; exact hx⟩, ⟨⟨u', ?_⟩, hit'.1.at fun o q => (sb.2 it (Ne.symm hne)).trans q, hne, hea⟩, fun b hb => ?_⟩
    · have e1 : ((i + 1 : Nat) : Int) = (i : Int) + 1 := by omega
      rw [e1]; exact he'
    · have hb' : b < s.heap.objs.size := by
        have e' : b = e ∨ b = it := by simpa using hb
        rcases e' with z | z
        · rw [z]; exact hel
        · rw [z]; exact hil
      rw [upd_ne (Nat.ne_of_lt hb')]
      exact (hf b hb).1
  done := by
    intro X hP hw hK hc i pins s σ H E I hf st hg
    subst hP hw hK
    obtain ⟨⟨old, he⟩, hit, hne, hea⟩ := st
    obtain ⟨xs, hq, hx⟩ := hg
    obtain ⟨its, rv, p, hz⟩ := I.tuple hq
    obtain ⟨f0, f1, f2, f3, f4, f5⟩ := hf it (by simp)
    have hl := rv.length
    exact enum_endT (I.ok.hd hc) he hit p (by simp; omega) fun h' eb => ⟨rfl, I.turned (t' := s.toks) (fun b o hb q => eb b o hb q) f0 f1 f3 f4 f5⟩
  self := fun A i s Q E st h => let ⟨⟨_, he⟩, _⟩ := st; wpAny_pyIter_enum he h
def iEnumA (K : PySem.W.Frag) (ta : TA) : TI := fun σ H R => ta σ H fun vs H1 => ∃ a xs, vs = [.ref a] ∧ ((SqL K H1 a xs ∧ R (Ite K a) H1) ∨ (SqT K H1 a xs ∧ R (IteT K a) H1))
theorem pi_enumA {X : Cx} {e : Expr} {ta : TA} {p pos tpos : Pos} {elts : List Expr} {kk : Nat} (hg : Gl X "enumerate") (hm : X.mg "enumerate" = none) (ha : PA X [e] ta) (hs : starEach [e] X.env = [(false, eval e X.env)] := by rfl) :
    PI X (.Tuple elts kk tpos) (.Call (.Name "enumerate" p) [e] [] pos) (iEnumA X.K ta) := by
  refine ⟨fun pins s σ H R I h => ?_⟩
  refine Call_ (ld_blt I hg hm boot_enumerate (PyProof.Rows.callWith_type1 (thn (ha.run pos pins s σ H _ I h) fun us s1 ⟨vs, H1, I1, r1, q1⟩ => ?_) hs rfl))
  obtain ⟨a, xs, ex, hq⟩ := q1
  subst ex
  cases r1 with
  | cons r rr =>
    cases rr
    cases r
    have fp : ∀ b, b ∈ [s1.heap.objs.size + 1, s1.heap.objs.size] → FpOk X pins H1 b := fun b hb => by
      have e' : b = s1.heap.objs.size + 1 ∨ b = s1.heap.objs.size := by simpa using hb
      have hle : s1.heap.objs.size ≤ b := by
        rcases e' with z | z
        · rw [z]; exact Nat.le_add_right _ _
        · rw [z]; exact Nat.le_refl _
      exact I1.fpOk hle (I1.hok.fresh hle)
    rcases hq with ⟨hq, q⟩ | ⟨hq, q⟩
    · obtain ⟨its, rv, p', hz⟩ := I1.list hq
      refine call_enumerate_list p'.isList fun h' he hit hsz hk => wpAny_pyIter_enum he ?_
      have I2 : Inv X pins σ H1 { s1 with heap := h' } := I1.kept (t' := s1.toks) hk
      exact ⟨s1.heap.objs.size + 1, [s1.heap.objs.size + 1, s1.heap.objs.size], _, _, H1, rfl, I2, turn_enum a (s1.heap.objs.size + 1) s1.heap.objs.size, ⟨⟨.none, he⟩, hit, Nat.succ_ne_self _⟩, fp, q⟩
    · obtain ⟨its, rv, p', hz⟩ := I1.tuple hq
      have hal : a < s1.heap.objs.size := by obtain ⟨o, ho, _⟩ := id p'; exact Heap.lt_size ho
      refine call_enumerate_tup (show s1.heap.IsTuple a its.toArray from p') fun h' he hit hsz hk => wpAny_pyIter_enum he ?_
      have I2 : Inv X pins σ H1 { s1 with heap := h' } := I1.kept (t' := s1.toks) hk
      exact ⟨s1.heap.objs.size + 1, [s1.heap.objs.size + 1, s1.heap.objs.size], _, _, H1, rfl, I2, turn_enumT a (s1.heap.objs.size + 1) s1.heap.objs.size (Nat.ne_of_lt hal), ⟨⟨.none, he⟩, hit, Nat.succ_ne_self _, Nat.ne_of_gt (Nat.lt_succ_of_lt hal)⟩, fp, q⟩
theorem walk_enumT {K : PySem.W.Frag} {a : Addr} {xs : List V} : Walk (IteT K a) xs.length (fun H => SqT K H a xs) (YPair (fun i => some (.int (i : Nat))) (fun i => xs[i]?)) := by
  refine ⟨fun i _ hi q => ⟨xs, xs[i], q, by simp [hi]⟩, fun _ q => ⟨xs, q, Nat.le_refl _⟩, fun i H v H' _ q y => ?_⟩
  obtain ⟨T, x, h1, h2, h3, h4⟩ := y
  exact ⟨T, .int (i : Nat), x, h1, h2, h3, rfl, h4 xs q⟩
theorem walk_zipT {K : PySem.W.Frag} {a b : Addr} {xs ys : List V} {n : Nat} (hn : n = min xs.length ys.length) : Walk (RZ.ItzT K a b) n (fun H => SqT K H a xs ∧ SqT K H b ys) (YPair (fun i => xs[i]?) (fun i => ys[i]?)) := by
  subst hn
  refine ⟨fun i _ hi q => ?_, fun _ q => ⟨xs, ys, q.1, q.2, by omega⟩, fun i H v H' _ q y => ?_⟩
  · have h1 : i < xs.length := by omega
    have h2 : i < ys.length := by omega
    exact ⟨xs, ys, xs[i], ys[i], q.1, q.2, by simp [h1], by simp [h2]⟩
  · obtain ⟨T, x, z, h1, h2, h3, h4, h5⟩ := y
    exact ⟨T, x, z, h1, h2, h3, h4 xs q.1, h5 ys q.2⟩
/-! ### xs[i], by values -/
theorem get_listK {X : Cx} {K : PySem.W.Frag} (h : X.K = K) : PGet X (fun x y H Q => ∃ (p : Addr) (xs : List V) (i : Nat) (v : V), x = .ref p ∧ y = .int (i : Int) ∧ SqL K H p xs ∧ xs[i]? = some v ∧ Q v H) := by
  subst h
  intro pins s σ H x y v u Q I rx ry h
  obtain ⟨p, xs, i, z, rfl, rfl, hq, he, q⟩ := h
  cases rx
  obtain ⟨t, rfl⟩ := ry
  obtain ⟨its, r, pl, hz⟩ := I.list hq
  obtain ⟨w, ew, rw'⟩ := r.get he
  have hl := (List.getElem?_eq_some_iff.mp ew).1
  have hrl := r.length
  have hn := line63
  exact wpAny_getItem_list pl.isList (by omega) (by omega) (by simpa using ew) ⟨z, H, I, rw', q⟩
/-! ### a dict of the top: text keys, any text asked for -/
/-- the written dict at d: its pairs, each value by what is read of it -/
structure KD (K : PySem.W.Frag) (w : World) (d : Addr) (kvs : List (Str × V)) : Prop where
  ex : ∃ es n, KDict K w d es n
  hit : ∀ z v, kvs.lookup z = some v → ∃ u, PySem.W.nsIn K d z = some (some u) ∧ RelV v u
  miss : ∀ z, kvs.lookup z = none → PySem.W.nsIn K d z = some none
theorem op_notInKD {X : Cx} {d : Addr} {kvs : List (Str × V)} (D : KD X.K X.w d kvs) : OpR X (compareOp .NotIn) (fun x y H Q => ∃ z : Str, x = .str z ∧ y = .ref d ∧ Q (.bl (!(kvs.lookup z).isSome)) H) := by
  obtain ⟨es, n, KDc⟩ := D.ex
  intro pins s σ H x y v u Q I rx ry h
  obtain ⟨z, hx, hy, q⟩ := h
  refine op_notIn_kd KDc pins s σ H x y v u Q I rx ry ?_
  cases e : kvs.lookup z with
  | none =>
    rw [e] at q
    exact ⟨z, none, hx, hy, D.miss z e, q⟩
  | some v0 =>
    rw [e] at q
    obtain ⟨u0, e2, _⟩ := D.hit z v0 e
    exact ⟨z, some u0, hx, hy, e2, q⟩
theorem ix_KD {X : Cx} {d : Addr} {kvs : List (Str × V)} (D : KD X.K X.w d kvs) : IxR X (fun x y H Q => ∃ (z : Str) (v : V), x = .ref d ∧ y = .str z ∧ kvs.lookup z = some v ∧ Q v H) := by
  obtain ⟨es, n, KDc⟩ := D.ex
  intro value slice pins s σ H x y v u Q I rx ry h hs
  obtain ⟨z, v0, hx, hy, e, q⟩ := h
  obtain ⟨u0, e2, r⟩ := D.hit z v0 e
  exact ix_kdict value slice pins s σ H x y v u Q I rx ry ⟨d, z, v0, hx, hy, ⟨es, n, u0, KDc.at_, KDc.lit, e2, r⟩, q⟩ hs
end W2
namespace M3
open PySem PySem.Spec PyProof.Rows L2
/-! ### what is walked -/
def iM (K : PySem.W.Frag) (te : TE) : TI := fun σ H R => te σ H fun x H1 => (∃ a, x = .ref a ∧ (∃ xs, SqL K H1 a xs) ∧ R (Itl K a) H1) ∨ (∃ a, x = .ref a ∧ (∃ xs, SqT K H1 a xs) ∧ R (Itt K a) H1) ∨ ∃ z, x = .str z ∧ R (Its z) H1
theorem pi_M {X : Cx} {K : PySem.W.Frag} {tg e : Expr} {te : TE} (hK : X.K = K) (he : PE X e te) : PI X tg e (iM K te) := by
  subst hK
  refine ⟨fun pins s σ H R I h => ?_⟩
  refine thn (he.run pins s σ H _ I h) fun v s1 ⟨x, H1, I1, r1, q1⟩ => ?_
  rcases q1 with ⟨a, e, ⟨xs, hq⟩, q⟩ | ⟨a, e, ⟨xs, hq⟩, q⟩ | ⟨z, e, q⟩
  · subst e
    cases r1
    obtain ⟨its, rv, p, hz⟩ := I1.list hq
    refine wpAny_pyIter_list p.isList ?_
    refine ⟨s1.heap.objs.size, [s1.heap.objs.size], _, _, H1, rfl, I1.kept (t' := s1.toks) fun b o e => Heap.get?_push_of_some _ e, turn_list a _, ⟨_, Heap.get?_push_size _ rfl, rfl, rfl⟩, fun b hb => ?_, q⟩
    have e : b = s1.heap.objs.size := by simpa using hb
    subst e
    exact I1.fpOk (Nat.le_refl _) (I1.hok.fresh (Nat.le_refl _))
  · subst e
    cases r1
    obtain ⟨its, rv, p, hz⟩ := I1.tuple hq
    refine wpAny_pyIter_tuple (show s1.heap.IsTuple a its.toArray from p) ?_
    refine ⟨s1.heap.objs.size, [s1.heap.objs.size], _, _, H1, rfl, I1.kept (t' := s1.toks) fun b o e => Heap.get?_push_of_some _ e, turn_tuple a _, ⟨_, Heap.get?_push_size _ rfl, rfl, rfl⟩, fun b hb => ?_, q⟩
    have e : b = s1.heap.objs.size := by simpa using hb
    subst e
    exact I1.fpOk (Nat.le_refl _) (I1.hok.fresh (Nat.le_refl _))
  · subst e
    obtain ⟨t, rfl⟩ := r1
    cases ha : z.cps.all (· < 128)
    · exact wpAny_pyIter_wide ha (pi_one (tk := s1.toks) I1 _ (turn_str _ z t "str_iterator" (.inr rfl)) ⟨_, Heap.get?_push_size _ rfl, rfl, rfl⟩ q)
    · exact wpAny_pyIter_ascii ha (pi_one (tk := s1.toks) I1 _ (turn_str _ z t "str_ascii_iterator" (.inl rfl)) ⟨_, Heap.get?_push_size _ rfl, rfl, rfl⟩ q)
/-- the signs of a text -/
def signs (z : Str) : List P := z.cps.toList.map fun c => .str ⟨#[c]⟩
def wkOf (S : Store) : D → Option Wk
  | .obj i => match S[i]? with
    | some (.lst _) => some (.ob i)
    | _ => none
  | .dat (.tup l) => some (.items (l.map .dat))
  | .dat (.lst l) => some (.items (l.map .dat))
  | .dat (.scr l) => some (.items (l.map fun i => .dat (.int i)))
  | .dat (.str z) => some (.items ((signs z).map .dat))
  | _ => none
def mWalk (a : DE) : DI := fun δ S => (a δ S).bind fun d S1 => oR (wkOf S1 d) S1
section
variable {K : PySem.W.Frag} {W : L2.St → WK}
theorem repPs_at {ι X : List Addr} {H : Hp} : ∀ {l : List P} {xs : List V} {i : Nat} {p : P}, RepPs K ι X H l xs → l[i]? = some p → ∃ x, xs[i]? = some x ∧ RepP K ι X H p x := by
  intro l xs i p r e
  obtain ⟨x, ex, rx⟩ := repDs_at (repDs_dat r) (d := .dat p) (i := i) (by rw [List.getElem?_map, e]; rfl)
  exact ⟨x, ex, rx⟩
theorem itOk_lst {ι X : List Addr} {H : Hp} {a : Addr} {xs : List V} {l : List D} (h : ∀ ι' X' H', Out1 ι X H ι' X' H' → H' a = some (.lst xs) ∧ RepDs K ι' X' H' l xs) : ItOk K (Itl K a) l ι X H := by
  intro ι' X' H' x
  obtain ⟨e, r⟩ := h ι' X' H' x
  have hl := repDs_len r
  refine ⟨fun i hi => ?_, ⟨xs, SqL.of e, by omega⟩, fun i x H'' d S y ed rel => ?_⟩
  · obtain ⟨v, ev, _⟩ := repDs_at r (List.getElem?_eq_getElem hi)
    exact ⟨xs, v, SqL.of e, ev⟩
  · obtain ⟨rfl, y⟩ := y
    obtain ⟨v, ev, rv⟩ := repDs_at r ed
    have := y xs (SqL.of e)
    rw [ev] at this
    cases this
    exact ⟨rel, Ext.refl, rv⟩
theorem itOk_sqL {ι X : List Addr} {H : Hp} {a : Addr} {xs : List V} {l : List D} (h : ∀ ι' X' H', Out1 ι X H ι' X' H' → SqL K H' a xs ∧ RepDs K ι' X' H' l xs) : ItOk K (Itl K a) l ι X H := by
  intro ι' X' H' x
  obtain ⟨e, r⟩ := h ι' X' H' x
  have hl := repDs_len r
  refine ⟨fun i hi => ?_, ⟨xs, e, by omega⟩, fun i x H'' d S y ed rel => ?_⟩
  · obtain ⟨v, ev, _⟩ := repDs_at r (List.getElem?_eq_getElem hi)
    exact ⟨xs, v, e, ev⟩
  · obtain ⟨rfl, y⟩ := y
    obtain ⟨v, ev, rv⟩ := repDs_at r ed
    have := y xs e
    rw [ev] at this
    cases this
    exact ⟨rel, Ext.refl, rv⟩
theorem itOk_tup {ι X : List Addr} {H : Hp} {a : Addr} {xs : List V} {l : List D} (h : ∀ ι' X' H', Out1 ι X H ι' X' H' → SqT K H' a xs ∧ RepDs K ι' X' H' l xs) : ItOk K (Itt K a) l ι X H := by
  intro ι' X' H' x
  obtain ⟨e, r⟩ := h ι' X' H' x
  have hl := repDs_len r
  refine ⟨fun i hi => ?_, ⟨xs, e, by omega⟩, fun i x H'' d S y ed rel => ?_⟩
  · obtain ⟨v, ev, _⟩ := repDs_at r (List.getElem?_eq_getElem hi)
    exact ⟨xs, v, e, ev⟩
  · obtain ⟨rfl, y⟩ := y
    obtain ⟨v, ev, rv⟩ := repDs_at r ed
    have := y xs e
    rw [ev] at this
    cases this
    exact ⟨rel, Ext.refl, rv⟩
theorem repDs_signs {ι X : List Addr} {H : Hp} : ∀ l : List Nat, RepDs K ι X H ((l.map fun c => P.str ⟨#[c]⟩).map .dat) (l.map fun c => V.str ⟨#[c]⟩)
  | [] => rfl
  | c :: l => ⟨_, _, rfl, rd_str, repDs_signs l⟩
theorem itOk_str {ι X : List Addr} {H : Hp} {z : Str} : ItOk K (Its z) ((signs z).map .dat) ι X H := by
  intro ι' X' H' x
  have hl : ((signs z).map D.dat).length = z.cps.size := by simp [signs]
  refine ⟨fun i hi => by show i < z.cps.size; omega, by show z.cps.size ≤ _; omega, fun i x H'' d S y ed rel => ?_⟩
  obtain ⟨rfl, c, ec, rfl⟩ := y
  refine ⟨rel, Ext.refl, ?_⟩
  unfold signs at ed
  rw [List.getElem?_map, List.getElem?_map, Array.getElem?_toList, ec] at ed
  cases ed
  exact rd_str
theorem itOk_rng {ι X : List Addr} {H : Hp} {lo : Int} {n : Nat} : ItOk K (Itr lo n) ((List.range n).map fun (i : Nat) => .dat (.int (lo + i))) ι X H := by
  intro ι' X' H' x
  have hl : ((List.range n).map fun (i : Nat) => (D.dat (.int (lo + i)))).length = n := by simp
  refine ⟨fun i hi => by show i < n; omega, by show n ≤ _; omega, fun i x H'' d S y ed rel => ?_⟩
  obtain ⟨rfl, rfl⟩ := y
  refine ⟨rel, Ext.refl, ?_⟩
  rw [List.getElem?_map] at ed
  cases q : (List.range n)[i]? with
  | none => rw [q] at ed; cases ed
  | some j =>
    rw [q] at ed
    cases ed
    have : j = i := by
      obtain ⟨h1, h2⟩ := List.getElem?_eq_some_iff.mp q
      rw [List.getElem_range] at h2
      exact h2.symm
    subst this
    exact rd_int
theorem si_walk {te : TE} {a : DE} (ha : SE K W te a) : SI K W (iM K te) (mWalk a) := by
  intro ι X S H σ δ Q rel re h
  refine ha ι X S H σ δ _ rel re ?_
  unfold mWalk at h
  cases e : a δ S with
  | fail => rw [e] at h; exact h
  | exc C x S1 => rw [e] at h; exact h
  | ok d S1 =>
    rw [e, R.bind_ok] at h
    intro ι1 H1 v x1 rel1 rv
    cases d with
    | obj o =>
      obtain ⟨b, eb, rfl⟩ := rv
      obtain ⟨ob, eo, ro⟩ := rel1.obj eb
      unfold wkOf at h
      simp only [eo] at h
      cases ob with
      | lst l =>
        obtain ⟨xs, f, g⟩ := ro
        exact .inl ⟨b, rfl, ⟨xs, SqL.of f⟩, h ι1 H1 b x1 rel1 eb⟩
      | ins C l => exact h.elim
      | dic l => exact h.elim
    | dat p =>
      cases p with
      | tup l =>
        obtain ⟨b, xs, rfl, f, g⟩ := rT_inv rv
        exact .inr (.inl ⟨b, rfl, ⟨xs, f.sq⟩, h ι1 H1 _ x1 rel1 (itOk_tup fun ι' X' H' x => ⟨(f.out x.p).sq, repDs_dat (RepPs.out x.p g)⟩)⟩)
      | lst l =>
        obtain ⟨b, xs, rfl, n, m, f, g⟩ := rL_inv rv
        exact .inl ⟨b, rfl, ⟨xs, SqL.of f⟩, h ι1 H1 _ x1 rel1 (itOk_lst fun ι' X' H' x => ⟨(x.ok b _ n m f).1, repDs_dat (RepPs.out x.p g)⟩)⟩
      | scr l =>
        have rv : RepP K ι1 X H1 (.scr l) v := rv
        rw [RepP] at rv
        obtain ⟨b, rfl, f⟩ := rv
        exact .inl ⟨b, rfl, ⟨_, f.sq⟩, h ι1 H1 _ x1 rel1 (itOk_sqL fun ι' X' H' x => ⟨(f.out x.p).sq, repDs_ints l⟩)⟩
      | str z =>
        rw [rS_inv rv]
        exact .inr (.inr ⟨z, rfl, h ι1 H1 _ x1 rel1 itOk_str⟩)
      | _ => exact h.elim
/-- range -/
def rngD (lo : Int) (n : Nat) : List D := (List.range n).map fun (i : Nat) => .dat (.int (lo + i))
def mRng1 (a : DA) : DI := fun δ S => (a δ S).bind fun ds S1 => match ds with
  | [.dat (.int j)] => if -1000000000 ≤ j ∧ j ≤ 1000000000 then .ok (.items (rngD 0 j.toNat)) S1 else .fail
  | _ => .fail
def mRng2 (a : DA) : DI := fun δ S => (a δ S).bind fun ds S1 => match ds with
  | [.dat (.int i), .dat (.int j)] => if (-1000000000 ≤ i ∧ i ≤ 1000000000) ∧ -1000000000 ≤ j ∧ j ≤ 1000000000 then .ok (.items (rngD i (j - i).toNat)) S1 else .fail
  | _ => .fail
theorem si_rng1 {ta : TA} {a : DA} (ha : SA K W ta a) : SI K W (iRng1 ta) (mRng1 a) := by
  intro ι X S H σ δ Q rel re h
  refine ha ι X S H σ δ _ rel re ?_
  unfold mRng1 at h
  cases e : a δ S with
  | fail => rw [e] at h; exact h
  | exc C x S1 => rw [e] at h; exact h
  | ok ds S1 =>
    rw [e, R.bind_ok] at h
    intro ι1 H1 vs x1 rel1 rv
    split at h
    · rename_i j
      split at h
      · rename_i hj
        obtain ⟨y, ys, rfl, r1, r2⟩ := rv
        rw [show ys = [] from r2, rI_inv r1]
        exact ⟨j, rfl, by omega, by omega, h ι1 H1 _ x1 rel1 itOk_rng⟩
      · exact h.elim
    · exact h.elim
theorem si_rng2 {ta : TA} {a : DA} (ha : SA K W ta a) : SI K W (iRng2 ta) (mRng2 a) := by
  intro ι X S H σ δ Q rel re h
  refine ha ι X S H σ δ _ rel re ?_
  unfold mRng2 at h
  cases e : a δ S with
  | fail => rw [e] at h; exact h
  | exc C x S1 => rw [e] at h; exact h
  | ok ds S1 =>
    rw [e, R.bind_ok] at h
    intro ι1 H1 vs x1 rel1 rv
    split at h
    · rename_i i j
      split at h
      · rename_i hj
        obtain ⟨y, ys, rfl, r1, z, zs, rfl, r2, r3⟩ := rv
        rw [show zs = [] from r3, rI_inv r1, rI_inv r2]
        exact ⟨i, j, rfl, by omega, h ι1 H1 _ x1 rel1 itOk_rng⟩
      · exact h.elim
    · exact h.elim
/-- enumerate, zip: new pairs -/
theorem itOk_pair {ι X : List Addr} {H : Hp} {J : It} {ps qs : List P}
    (h : ∀ ι' X' H', Out1 ι X H ι' X' H' → (∀ i, i < (ps.zip qs).length → J.go i H') ∧ J.stop (ps.zip qs).length H' ∧ (∀ i v H'', J.yld i H' v H'' → ∃ T x y, v = .ref T ∧ H' T = none ∧ H'' = upd H' T (.tup [x, y]) ∧ (∀ p, ps[i]? = some p → RepP K ι' X' H' p x) ∧ ∀ q, qs[i]? = some q → RepP K ι' X' H' q y)) :
    ItOk K J ((ps.zip qs).map fun z => .dat (.tup [z.1, z.2])) ι X H := by
  intro ι' X' H' x
  obtain ⟨h1, h2, h3⟩ := h ι' X' H' x
  have hz : ((ps.zip qs).map fun z => D.dat (.tup [z.1, z.2])).length = (ps.zip qs).length := List.length_map _
  refine ⟨fun i hi => h1 i (by omega), by rw [hz]; exact h2, fun i v H'' d S yy ed rel => ?_⟩
  obtain ⟨T, x, y, rfl, hT, rfl, hx, hy⟩ := h3 i v H'' yy
  rw [List.getElem?_map] at ed
  cases q : (ps.zip qs)[i]? with
  | none => rw [q] at ed; cases ed
  | some z =>
    rw [q] at ed
    cases ed
    obtain ⟨p, q'⟩ := z
    obtain ⟨e1, e2⟩ := List.getElem?_zip_eq_some.mp q
    have rp := hx p e1
    have rq := hy q' e2
    have x1 := ext_alloc (o := .tup [x, y]) rel hT
    obtain ⟨n, m⟩ := rel.nin hT
    refine ⟨rel.alloc hT, x1, ?_⟩
    show RepP K ι' X' _ _ _
    rw [RepP]
    refine ⟨T, [x, y], rfl, .inl ⟨n, m, .inl upd_same⟩, ?_⟩
    rw [RepPs]
    refine ⟨x, [y], rfl, rp.ext x1, ?_⟩
    rw [RepPs]
    refine ⟨y, [], rfl, rq.ext x1, ?_⟩
    rw [RepPs]
/-- a frozen list or tuple -/
def frzOf : D → Option (Bool × List P)
  | .dat (.lst l) => some (true, l)
  | .dat (.tup l) => some (false, l)
  | _ => none
/-- numbers from k on -/
def numsP (n : Nat) : List P := (List.range n).map fun (i : Nat) => .int i
def mEnum (a : DA) : DI := fun δ S => (a δ S).bind fun ds S1 => match ds with
  | [d] => match frzOf d with
    | some (_, l) => .ok (.items (((numsP l.length).zip l).map fun z => .dat (.tup [z.1, z.2]))) S1
    | none => .fail
  | _ => .fail
theorem numsP_at {n i : Nat} {p : P} (e : (numsP n)[i]? = some p) : p = .int (i : Nat) := by
  unfold numsP at e
  rw [List.getElem?_map] at e
  cases q : (List.range n)[i]? with
  | none => rw [q] at e; cases e
  | some j =>
    rw [q] at e
    cases e
    obtain ⟨h1, h2⟩ := List.getElem?_eq_some_iff.mp q
    rw [List.getElem_range] at h2
    rw [h2]
theorem repPs_nth {ι X : List Addr} {H : Hp} {l : List P} {xs : List V} (r : RepPs K ι X H l xs) {i : Nat} {p : P} {x : V} (e : l[i]? = some p) (f : xs[i]? = some x) : RepP K ι X H p x := by
  obtain ⟨y, ey, ry⟩ := repPs_at r e
  rw [f] at ey
  cases ey
  exact ry
theorem si_enum {ta : TA} {a : DA} (ha : SA K W ta a) : SI K W (W2.iEnumA K ta) (mEnum a) := by
  intro ι X S H σ δ Q rel re h
  refine ha ι X S H σ δ _ rel re ?_
  unfold mEnum at h
  cases e : a δ S with
  | fail => rw [e] at h; exact h
  | exc C x S1 => rw [e] at h; exact h
  | ok ds S1 =>
    rw [e, R.bind_ok] at h
    intro ι1 H1 vs x1 rel1 rv
    split at h
    · rename_i d
      obtain ⟨y, ys, rfl, r1, r2⟩ := rv
      rw [show ys = [] from r2]
      have ln : ∀ l : List P, ((numsP l.length).zip l).length = l.length := fun l => by simp [numsP]
      unfold frzOf at h
      split at h
      · rename_i l e2
        split at e2
        · rename_i l'
          cases e2
          obtain ⟨b, xs, rfl, n, m, f, g⟩ := rL_inv r1
          refine ⟨b, xs, rfl, .inl ⟨SqL.of f, h ι1 H1 _ x1 rel1 (itOk_pair fun ι' X' H' x => ?_)⟩⟩
          have fe := (x.ok b _ n m f).1
          have ge := RepPs.out x.p g
          have hl := repPs_len ge
          refine ⟨fun i hi => ?_, ⟨xs, SqL.of fe, by rw [ln]; omega⟩, fun i v H'' y => ?_⟩
          · have hx : i < xs.length := by rw [ln] at hi; omega
            exact ⟨xs, xs[i], SqL.of fe, List.getElem?_eq_getElem hx⟩
          · obtain ⟨T, x', ev, hT, eh, hy⟩ := y
            exact ⟨T, _, x', ev, hT, eh, fun p ep => by rw [numsP_at ep]; exact rp_int, fun q eq => repPs_nth ge eq (hy xs (SqL.of fe))⟩
        · rename_i l'
          cases e2
          obtain ⟨b, xs, rfl, f, g⟩ := rT_inv r1
          refine ⟨b, xs, rfl, .inr ⟨f.sq, h ι1 H1 _ x1 rel1 (itOk_pair fun ι' X' H' x => ?_)⟩⟩
          have fe := (f.out x.p).sq
          have ge := RepPs.out x.p g
          have hl := repPs_len ge
          refine ⟨fun i hi => ?_, ⟨xs, fe, by rw [ln]; omega⟩, fun i v H'' y => ?_⟩
          · have hx : i < xs.length := by rw [ln] at hi; omega
            exact ⟨xs, xs[i], fe, List.getElem?_eq_getElem hx⟩
          · obtain ⟨T, x', ev, hT, eh, hy⟩ := y
            exact ⟨T, _, x', ev, hT, eh, fun p ep => by rw [numsP_at ep]; exact rp_int, fun q eq => repPs_nth ge eq (hy xs fe)⟩
        · cases e2
      · exact h.elim
    · exact h.elim
def mZip (a : DA) : DI := fun δ S => (a δ S).bind fun ds S1 => match ds with
  | [d, e] => match frzOf d, frzOf e with
    | some (b, l), some (c, k) => if b = c then .ok (.items ((l.zip k).map fun z => .dat (.tup [z.1, z.2]))) S1 else .fail
    | _, _ => .fail
  | _ => .fail
theorem frzOf_rep {ι X : List Addr} {H : Hp} {d : D} {b : Bool} {l : List P} {v : V} (e : frzOf d = some (b, l)) (r : RepD K ι X H d v) :
    ∃ a xs, v = .ref a ∧ RepPs K ι X H l xs ∧ (if b = true then ∀ ι' X' H', Out1 ι X H ι' X' H' → SqL K H' a xs else ∀ ι' X' H', Out1 ι X H ι' X' H' → SqT K H' a xs) := by
  unfold frzOf at e
  split at e
  · cases e
    obtain ⟨b, xs, rfl, n, m, f, g⟩ := rL_inv r
    exact ⟨b, xs, rfl, g, by rw [if_pos rfl]; exact fun ι' X' H' x => SqL.of (x.ok b _ n m f).1⟩
  · cases e
    obtain ⟨b, xs, rfl, f, g⟩ := rT_inv r
    exact ⟨b, xs, rfl, g, by rw [if_neg Bool.false_ne_true]; exact fun ι' X' H' x => (f.out x.p).sq⟩
  · cases e
theorem si_zip {ta : TA} {a : DA} (ha : SA K W ta a) : SI K W (RZ.iZipA K ta) (mZip a) := by
  intro ι X S H σ δ Q rel re h
  refine ha ι X S H σ δ _ rel re ?_
  unfold mZip at h
  cases e : a δ S with
  | fail => rw [e] at h; exact h
  | exc C x S1 => rw [e] at h; exact h
  | ok ds S1 =>
    rw [e, R.bind_ok] at h
    intro ι1 H1 vs x1 rel1 rv
    split at h
    · rename_i d1 d2
      obtain ⟨y, ys, rfl, r1, z, zs, rfl, r2, r3⟩ := rv
      rw [show zs = [] from r3]
      split at h
      · rename_i b l c k e1 e2
        split at h
        · rename_i ebc
          subst ebc
          obtain ⟨a1, xs, rfl, g1, f1⟩ := frzOf_rep e1 r1
          obtain ⟨a2, ys, rfl, g2, f2⟩ := frzOf_rep e2 r2
          refine ⟨a1, a2, xs, ys, rfl, ?_⟩
          have lz : (l.zip k).length = min l.length k.length := List.length_zip
          cases b with
          | true =>
            rw [if_pos rfl] at f1 f2
            refine .inl ⟨f1 _ _ _ Out1.refl, f2 _ _ _ Out1.refl, h ι1 H1 _ x1 rel1 (itOk_pair fun ι' X' H' x => ?_)⟩
            have s1 := f1 _ _ _ x
            have s2 := f2 _ _ _ x
            have l1 := repPs_len g1
            have l2 := repPs_len g2
            refine ⟨fun i hi => ?_, ⟨xs, ys, s1, s2, by omega⟩, fun i v H'' y => ?_⟩
            · exact ⟨xs, ys, xs[i]'(by omega), ys[i]'(by omega), s1, s2, List.getElem?_eq_getElem _, List.getElem?_eq_getElem _⟩
            · obtain ⟨T, x', y', ev, hT, eh, hx, hy⟩ := y
              exact ⟨T, x', y', ev, hT, eh, fun p ep => repPs_nth (RepPs.out x.p g1) ep (hx xs s1), fun q eq => repPs_nth (RepPs.out x.p g2) eq (hy ys s2)⟩
          | false =>
            rw [if_neg Bool.false_ne_true] at f1 f2
            refine .inr ⟨f1 _ _ _ Out1.refl, f2 _ _ _ Out1.refl, h ι1 H1 _ x1 rel1 (itOk_pair fun ι' X' H' x => ?_)⟩
            have s1 := f1 _ _ _ x
            have s2 := f2 _ _ _ x
            have l1 := repPs_len g1
            have l2 := repPs_len g2
            refine ⟨fun i hi => ?_, ⟨xs, ys, s1, s2, by omega⟩, fun i v H'' y => ?_⟩
            · exact ⟨xs, ys, xs[i]'(by omega), ys[i]'(by omega), s1, s2, List.getElem?_eq_getElem _, List.getElem?_eq_getElem _⟩
            · obtain ⟨T, x', y', ev, hT, eh, hx, hy⟩ := y
              exact ⟨T, x', y', ev, hT, eh, fun p ep => repPs_nth (RepPs.out x.p g1) ep (hx xs s1), fun q eq => repPs_nth (RepPs.out x.p g2) eq (hy ys s2)⟩
        · exact h.elim
      · exact h.elim
    · exact h.elim
end
end M3
namespace M3
open PySem PySem.Spec PyProof.Rows L2
section
variable {K : PySem.W.Frag} {W : L2.St → WK}
/-! ### subscripts -/
theorem repDs_atI {ι X : List Addr} {H : Hp} {l : List D} {xs : List V} {i : Int} {d : D} (r : RepDs K ι X H l xs) (e : atI l i = some d) : ∃ x, atI xs i = some x ∧ RepD K ι X H d x := by
  unfold atI at e ⊢
  rw [repDs_len r]
  cases q : ixN l.length i with
  | none => rw [q] at e; cases e
  | some j => rw [q] at e; exact repDs_at r e
theorem repPs_atI {ι X : List Addr} {H : Hp} {l : List P} {xs : List V} {i : Int} {d : P} (r : RepPs K ι X H l xs) (e : atI l i = some d) : ∃ x, atI xs i = some x ∧ RepP K ι X H d x := by
  unfold atI at e ⊢
  rw [repPs_len r]
  cases q : ixN l.length i with
  | none => rw [q] at e; cases e
  | some j => rw [q] at e; exact repPs_at r e
def rIxM (K : PySem.W.Frag) : R2 := fun x y H Q => rIxL K x y H Q ∨ rIxT K x y H Q ∨ rIxS x y H Q
theorem ix_M {X : Cx} (h : X.K = K) : IxR X (rIxM K) := by
  subst h
  exact IxR.or ix_list (IxR.or ix_tup ix_str)
def aIx : Store → D → D → Option D := fun S x y => match x, y with
  | .dat (.tup l), .dat (.int i) => (atI l i).map .dat
  | .dat (.lst l), .dat (.int i) => (atI l i).map .dat
  | .dat (.str z), .dat (.int i) => if z.length ≤ 100000 then (atI z.cps.toList i).map fun c => .dat (.str ⟨#[c]⟩) else none
  | x, .dat (.int i) => match seqD S x with
    | some l => atI l i
    | none => none
  | _, _ => none
theorem ix_ok : R2S K (rIxM K) aIx := by
  intro ι X S H x y v u d Q rel rx ry e k
  unfold aIx at e
  split at e
  · rename_i l i
    obtain ⟨a, xs, rfl, f, g⟩ := rT_inv rx
    cases q : atI l i with
    | none => rw [q] at e; cases e
    | some p =>
      rw [q] at e
      cases e
      obtain ⟨w, ew, rw1⟩ := repPs_atI g q
      exact .inr (.inl ⟨a, xs, i, w, rfl, rI_inv ry, f.sq, ew, k H _ Ext.refl rel rw1⟩)
  · rename_i l i
    obtain ⟨a, xs, rfl, n, m, f, g⟩ := rL_inv rx
    cases q : atI l i with
    | none => rw [q] at e; cases e
    | some p =>
      rw [q] at e
      cases e
      obtain ⟨w, ew, rw1⟩ := repPs_atI g q
      exact .inl ⟨a, xs, i, w, rfl, rI_inv ry, SqL.of f, ew, k H _ Ext.refl rel rw1⟩
  · rename_i z i
    split at e
    · rename_i hz
      cases q : atI z.cps.toList i with
      | none => rw [q] at e; cases e
      | some c =>
        rw [q] at e
        cases e
        exact .inr (.inr ⟨z, i, c, rS_inv rx, rI_inv ry, small hz, q, k H _ Ext.refl rel rd_str⟩)
    · cases e
  · rename_i i _ _ _
    split at e
    · rename_i l e1
      obtain ⟨a, xs, rfl, f, g⟩ := seqD_rep rel e1 rx
      obtain ⟨w, ew, rw1⟩ := repDs_atI g e
      rcases f with f | f
      · exact .inl ⟨a, xs, i, w, rfl, rI_inv ry, f, ew, k H _ Ext.refl rel rw1⟩
      · exact .inr (.inl ⟨a, xs, i, w, rfl, rI_inv ry, f, ew, k H _ Ext.refl rel rw1⟩)
    · cases e
  · cases e
/-! ### slices -/
abbrev DO := DEnv → Store → R (Option Int)
def moN : DO := fun _ S => .ok none S
def moS (a : DE) : DO := fun δ S => (a δ S).bind fun d S1 => match d with
  | .dat (.int i) => .ok (some i) S1
  | _ => .fail
def SO (K : PySem.W.Frag) (W : L2.St → WK) (t : TO) (m : DO) : Prop := ∀ ι X S H σ δ Q, Rel K ι X S H → RepE K ι X H δ σ → Post K X ι H (W σ) (m δ S) (fun _ _ d v => v = d) Q → t σ H Q
theorem so_none : SO K W tNoPart moN := fun ι X S H σ δ Q rel re h => h ι H none Ext.refl rel rfl
theorem so_some {t : TE} {a : DE} (ha : SE K W t a) : SO K W (tPart t) (moS a) := by
  intro ι X S H σ δ Q rel re h
  refine ha ι X S H σ δ _ rel re (Post.bind h fun ι1 H1 x S1 v x1 rel1 rv h1 => ?_)
  split at h1
  · rename_i i
    exact ⟨i, rI_inv rv, h1 ι1 H1 _ Ext.refl rel1 rfl⟩
  · exact h1.elim
def cutL {α : Type} (xs : List α) (lo hi : Option Int) : List α := (xs.drop (HT.sIx xs.length 0 lo)).take (HT.sIx xs.length xs.length hi - HT.sIx xs.length 0 lo)
theorem repDs_drop {ι X : List Addr} {H : Hp} : ∀ {l : List D} {xs : List V} (n : Nat), RepDs K ι X H l xs → RepDs K ι X H (l.drop n) (xs.drop n)
  | [], xs, n, r => by rw [show xs = [] from r, List.drop_nil, List.drop_nil]; rfl
  | _ :: _, _, 0, r => r
  | _ :: _, _, n + 1, ⟨y, ys, rfl, f, g⟩ => repDs_drop n g
theorem repDs_take {ι X : List Addr} {H : Hp} : ∀ {l : List D} {xs : List V} (n : Nat), RepDs K ι X H l xs → RepDs K ι X H (l.take n) (xs.take n)
  | [], xs, n, r => by rw [show xs = [] from r, List.take_nil, List.take_nil]; rfl
  | _ :: _, xs, 0, r => rfl
  | _ :: _, _, n + 1, ⟨y, ys, rfl, f, g⟩ => ⟨y, _, rfl, f, repDs_take n g⟩
theorem repDs_cut {ι X : List Addr} {H : Hp} {l : List D} {xs : List V} (lo hi : Option Int) (r : RepDs K ι X H l xs) : RepDs K ι X H (cutL l lo hi) (cutV xs lo hi) := by
  unfold cutL cutV
  rw [repDs_len r]
  exact repDs_take _ (repDs_drop _ r)
theorem repPs_of {ι X : List Addr} {H : Hp} {l : List P} {xs : List V} (r : RepDs K ι X H (l.map .dat) xs) : RepPs K ι X H l xs := datAll_rep (datAll_map l) r
theorem repPs_cut {ι X : List Addr} {H : Hp} {l : List P} {xs : List V} (lo hi : Option Int) (r : RepPs K ι X H l xs) : RepPs K ι X H (cutL l lo hi) (cutV xs lo hi) := by
  refine repPs_of ?_
  have := repDs_cut lo hi (repDs_dat r)
  rwa [show cutL (l.map D.dat) lo hi = (cutL l lo hi).map D.dat by unfold cutL; rw [List.length_map, ← List.map_drop, ← List.map_take]] at this
def aSl (S : Store) (x : D) (lo hi : Option Int) : Option D := match x with
  | .dat (.tup l) => some (.dat (.tup (cutL l lo hi)))
  | .dat (.str z) => if z.length ≤ 100000 then some (.dat (.str (Txt.slice z lo hi))) else none
  | .dat (.scr l) => some (.dat (.lst ((cutL l lo hi).map .int)))
  | x => (listP S x).map fun l => .dat (.lst (cutL l lo hi))
def rSlM (K : PySem.W.Frag) : V → Option Int → Option Int → Hp → VK → Prop := fun x lo hi H Q => rSlA K x lo hi H Q ∨ rSlL K x lo hi H Q ∨ C8.rSlX x lo hi H Q
theorem sl_M {X : Cx} (h : X.K = K) : SlR X (rSlM K) := by
  subst h
  exact L2.SlR.or sl_tupA (L2.SlR.or sl_list C8.sl_txt)
def mSl (a : DE) (lo hi : DO) : DE := fun δ S => (a δ S).bind fun x S1 => (lo δ S1).bind fun l S2 => (hi δ S2).bind fun h S3 => oR (aSl S3 x l h) S3
theorem cut_all {α : Type} {xs : List α} {lo hi : Option Int} (h : HT.sIx xs.length 0 lo = 0 ∧ HT.sIx xs.length xs.length hi = xs.length) : cutL xs lo hi = xs := by
  unfold cutL
  rw [h.1, h.2, List.drop_zero, Nat.sub_zero, List.take_length]
theorem repPs_ints {ι X : List Addr} {H : Hp} (l : List Int) : RepPs K ι X H (l.map .int) (l.map V.int) := by
  refine repPs_of ?_
  rw [List.map_map]
  exact repDs_ints l
theorem sl_ok {ι X : List Addr} {S : Store} {H : Hp} {x : D} {v : V} {lo hi : Option Int} {d : D} {Q : VK} (rel : Rel K ι X S H) (rx : RepD K ι X H x v) (e : aSl S x lo hi = some d)
    (k : ∀ H' w, Ext ι H ι H' → Rel K ι X S H' → RepD K ι X H' d w → Q w H') : rSlM K v lo hi H Q := by
  unfold aSl at e
  split at e
  · rename_i l
    cases e
    obtain ⟨a, xs, rfl, f, g⟩ := rT_inv rx
    have hl := repPs_len g
    refine .inl ⟨a, xs, rfl, f.sq, fun h => ?_, fun h p hp => new_tup rel (repPs_cut lo hi g) hp k⟩
    rw [cut_all (xs := l) (by rw [hl] at h; exact h)] at k
    exact k H _ Ext.refl rel rx
  · rename_i z
    split at e
    · rename_i hz
      cases e
      exact .inr (.inr ⟨z, rS_inv rx, small hz, k H _ Ext.refl rel rd_str⟩)
    · cases e
  · rename_i l
    cases e
    have rx : RepP K ι X H (.scr l) v := rx
    rw [RepP] at rx
    obtain ⟨a, rfl, f⟩ := rx
    refine .inr (.inl ⟨a, _, rfl, f.sq, fun p hp => new_lst rel ?_ hp k⟩)
    have := repPs_cut lo hi (repPs_ints (K := K) (ι := ι) (X := X) (H := H) l)
    rwa [show cutL (l.map P.int) lo hi = (cutL l lo hi).map P.int by unfold cutL; rw [List.length_map, ← List.map_drop, ← List.map_take]] at this
  · rename_i h1 h2 h3
    cases q : listP S x with
    | none => rw [q] at e; cases e
    | some l =>
      rw [q] at e
      cases e
      obtain ⟨a, xs, rfl, f, g⟩ := listP_rep rel q rx
      exact .inr (.inl ⟨a, xs, rfl, SqL.of f, fun p hp => new_lst rel (repPs_cut lo hi g) hp k⟩)
theorem se_sl {te : TE} {tl th : TO} {a : DE} {lo hi : DO} (ha : SE K W te a) (hl : SO K W tl lo) (hh : SO K W th hi) : SE K W (tSl (rSlM K) te tl th) (mSl a lo hi) := by
  intro ι X S H σ δ Q rel re h
  refine ha ι X S H σ δ _ rel re (Post.bind h fun ι1 H1 x S1 v x1 rel1 rv h1 => ?_)
  refine hl ι1 X S1 H1 σ δ _ rel1 (re.ext x1) (Post.bind h1 fun ι2 H2 l S2 l' x2 rel2 rl h2 => ?_)
  subst rl
  refine hh ι2 X S2 H2 σ δ _ rel2 ((re.ext x1).ext x2) (Post.bind h2 fun ι3 H3 l S3 l' x3 rel3 rl h3 => ?_)
  subst rl
  obtain ⟨d, e, k⟩ := post_oR h3
  exact sl_ok rel3 ((rv.ext x2).ext x3) e k
/-- xs[::-1] -/
def mRev (a : DE) : DE := fun δ S => (a δ S).bind fun x S1 => oR ((listP S1 x).map fun l => .dat (.lst l.reverse)) S1
theorem repPs_rev {ι X : List Addr} {H : Hp} : ∀ {l : List P} {xs : List V}, RepPs K ι X H l xs → RepPs K ι X H l.reverse xs.reverse
  | [], xs, r => by
    rw [RepPs] at r
    rw [r]
    show RepPs K ι X H [] []
    rw [RepPs]
  | p :: l, xs, r => by
    rw [RepPs] at r
    obtain ⟨y, ys, rfl, f, g⟩ := r
    rw [List.reverse_cons, List.reverse_cons]
    refine repPs_app (repPs_rev g) ?_
    rw [RepPs]
    refine ⟨y, [], rfl, f, ?_⟩
    rw [RepPs]
theorem se_rev {te : TE} {a : DE} (ha : SE K W te a) : SE K W (tRevL K te) (mRev a) := by
  intro ι X S H σ δ Q rel re h
  refine ha ι X S H σ δ _ rel re (Post.bind h fun ι1 H1 x S1 v x1 rel1 rv h1 => ?_)
  obtain ⟨d, e, k⟩ := post_oR h1
  cases q : listP S1 x with
  | none => rw [q] at e; cases e
  | some l =>
    rw [q] at e
    cases e
    obtain ⟨b, xs, rfl, f, g⟩ := listP_rep rel1 q rv
    exact ⟨b, xs, rfl, SqL.of f, fun p hp => new_lst rel1 (repPs_rev g) hp k⟩
/-! ### built-in functions -/
def aLen : Store → List D → Option D := fun S ds => match ds with
  | [.dat (.str z)] => if z.length ≤ 100000 then some (dInt z.length) else none
  | [.dat (.dic l)] => some (dInt l.length)
  | [d] => (seqD S d).map fun l => dInt l.length
  | _ => none
def rLenM (K : PySem.W.Frag) : List V → Hp → VK → Prop := fun xs H Q => (∃ p ys, xs = [.ref p] ∧ (SqL K H p ys ∨ SqT K H p ys) ∧ Q (.int ys.length) H) ∨ (∃ z, xs = [.str z] ∧ z.length ≤ sizeLine ∧ Q (.int z.length) H) ∨ ∃ a kvs, xs = [V.ref a] ∧ H a = some (.dK kvs) ∧ Q (.int kvs.length) H
theorem call_lenM {X : Cx} (h : X.K = K) : CallR X (.builtin "len") (rLenM K) := by
  subst h
  exact CallR.or call_len_seq (CallR.or call_len_str call_lenD)
theorem repDs_one {ι X : List Addr} {H : Hp} {d : D} {vs : List V} (r : RepDs K ι X H [d] vs) : ∃ v, vs = [v] ∧ RepD K ι X H d v := by
  obtain ⟨y, ys, e, f, g⟩ := r
  exact ⟨y, by rw [e, show ys = [] from g], f⟩
theorem repDs_two {ι X : List Addr} {H : Hp} {d f : D} {vs : List V} (r : RepDs K ι X H [d, f] vs) : ∃ v u, vs = [v, u] ∧ RepD K ι X H d v ∧ RepD K ι X H f u := by
  obtain ⟨y, ys, e, f, z, zs, e2, g, h⟩ := r
  exact ⟨y, z, by rw [e, e2, show zs = [] from h], f, g⟩
theorem repKs_len {ι X : List Addr} {H : Hp} : ∀ {ps : List (P × P)} {vs : List (Key × V)}, RepKs K ι X H ps vs → vs.length = ps.length
  | [], vs, r => by rw [RepKs] at r; rw [r]; rfl
  | (_, _) :: ps, vs, r => by
    rw [RepKs] at r
    obtain ⟨c, y, ys, e, _, f, g⟩ := r
    rw [e, List.length_cons, List.length_cons, repKs_len g]
theorem len_ok : RCS K (rLenM K) aLen := by
  intro ι X S H ds vs d Q rel rv e k
  unfold aLen at e
  split at e
  · rename_i z
    split at e
    · rename_i hz
      cases e
      obtain ⟨v, rfl, r⟩ := repDs_one rv
      rw [rS_inv r]
      exact .inr (.inl ⟨z, rfl, small hz, k H _ Ext.refl rel rd_int⟩)
    · cases e
  · rename_i l
    cases e
    obtain ⟨v, rfl, r⟩ := repDs_one rv
    have r : RepP K ι X H (.dic l) v := r
    rw [RepP] at r
    obtain ⟨a, xs, rfl, _, _, f, g⟩ := r
    refine .inr (.inr ⟨a, xs, rfl, f, ?_⟩)
    rw [repKs_len g]
    exact k H _ Ext.refl rel rd_int
  · rename_i x _ _
    obtain ⟨v, rfl, r⟩ := repDs_one rv
    cases q : seqD S x with
    | none => rw [q] at e; cases e
    | some l =>
      rw [q] at e
      cases e
      obtain ⟨a, xs, rfl, f, g⟩ := seqD_rep rel q r
      refine .inl ⟨a, xs, rfl, f, ?_⟩
      rw [repDs_len g]
      exact k H _ Ext.refl rel rd_int
  · cases e
def rTupM (K : PySem.W.Frag) : List V → Hp → VK → Prop := fun xs H Q => ∃ p ys, xs = [.ref p] ∧ ((SqL K H p ys ∧ ∀ l, H l = none → Q (.ref l) (upd H l (.tup ys))) ∨ (SqT K H p ys ∧ Q (.ref p) H))
theorem call_tupM {X : Cx} (h : X.K = K) : CallR X (.type "tuple") (rTupM K) := h ▸ call_tuple_of
def aTuple : Store → List D → Option D := fun S ds => match ds with
  | [.dat (.tup l)] => some (.dat (.tup l))
  | [d] => (listP S d).map fun l => .dat (.tup l)
  | _ => none
theorem tuple_ok : RCS K (rTupM K) aTuple := by
  intro ι X S H ds vs d Q rel rv e k
  unfold aTuple at e
  split at e
  · cases e
    obtain ⟨v, rfl, r⟩ := repDs_one rv
    obtain ⟨a, xs, rfl, f, g⟩ := rT_inv r
    exact ⟨a, xs, rfl, .inr ⟨f.sq, k H _ Ext.refl rel r⟩⟩
  · rename_i x _
    obtain ⟨v, rfl, r⟩ := repDs_one rv
    cases q : listP S x with
    | none => rw [q] at e; cases e
    | some l =>
      rw [q] at e
      cases e
      obtain ⟨a, xs, rfl, f, g⟩ := listP_rep rel q r
      exact ⟨a, xs, rfl, .inl ⟨SqL.of f, fun p hp => new_tup rel g hp k⟩⟩
  · cases e
def rListM (K : PySem.W.Frag) : List V → Hp → VK → Prop := fun xs H Q => ∃ p ys, xs = [.ref p] ∧ (SqL K H p ys ∨ SqT K H p ys) ∧ ∀ l, H l = none → Q (.ref l) (upd H l (.lst ys))
theorem call_listM {X : Cx} (h : X.K = K) : CallR X (.type "list") (rListM K) := h ▸ call_list_of
/-- list(x): a new list -/
def mList (a : DA) : DA := fun δ S => (a δ S).bind fun ds S1 => match ds with
  | [d] => oR (seqD S1 d) S1
  | _ => .fail
theorem postL_of {X ι : List Addr} {H : Hp} {α β : Type} {W : WK} {r : R α} {f : α → Store → R (List D)} {Q : V → Hp → Prop} {Rp : List Addr → Hp → α → β → Prop} {Q1 : β → Hp → Prop} (h : PostL K X ι H W (r.bind f) Q)
    (k : ∀ ι1 H1 a S1 v, Ext ι H ι1 H1 → Rel K ι1 X S1 H1 → Rp ι1 H1 a v → PostL K X ι H W (f a S1) Q → Q1 v H1) : Post K X ι H W r Rp Q1 := by
  cases r with
  | ok a S => exact fun ι' H' v x rel rp => k ι' H' a S v x rel rp h
  | exc C z S => exact h
  | fail => exact h
theorem newL {X ι ι1 : List Addr} {H H1 : Hp} {S1 : Store} {ds : List D} {xs : List V} {Q : V → Hp → Prop} (x1 : Ext ι H ι1 H1) (rel1 : Rel K ι1 X S1 H1) (r : RepDs K ι1 X H1 ds xs)
    (h : ∀ ι' H' p xs, Ext ι H ι' H' → Rel K ι' (p :: X) S1 H' → H p = none → H' p = some (.lst xs) → RepDs K ι' (p :: X) H' ds xs → Q (.ref p) H') {p : Addr} (hp : H1 p = none) : Q (.ref p) (upd H1 p (.lst xs)) := by
  have x := ext_alloc (o := .lst xs) rel1 hp
  exact h ι1 _ p xs (x1.trans x) (rel1.more hp) (ext_free x1 (rel1.nin hp).1 hp) upd_same (r.out (Out1.more hp))
theorem sl_list {ta : TA} {a : DA} (ha : SA K W ta a) : SL K W (tCB (rListM K) ta) (mList a) := by
  intro ι X S H σ δ Q rel re h
  refine ha ι X S H σ δ _ rel re (postL_of h fun ι1 H1 ds S1 vs x1 rel1 rv h1 => ?_)
  split at h1
  · rename_i d
    obtain ⟨v, rfl, r⟩ := repDs_one rv
    cases q : seqD S1 d with
    | none => rw [q] at h1; exact h1.elim
    | some l =>
      rw [q] at h1
      obtain ⟨b, xs, rfl, f, g⟩ := seqD_rep rel1 q r
      exact ⟨b, xs, rfl, f, fun p hp => newL x1 rel1 g h1 hp⟩
  · exact h1.elim
/-- list(range(..)) -/
def mListRg1 (a : DE) : DA := fun δ S => (a δ S).bind fun d S1 => match d with
  | .dat (.int n) => if -100000 ≤ n ∧ n ≤ 100000 then .ok (rngD 0 n.toNat) S1 else .fail
  | _ => .fail
theorem repDs_rng {ι X : List Addr} {H : Hp} (lo : Int) : ∀ l : List Nat, RepDs K ι X H (l.map fun (i : Nat) => .dat (.int (lo + i))) (l.map fun (i : Nat) => V.int (lo + i))
  | [] => rfl
  | i :: l => ⟨_, _, rfl, rd_int, repDs_rng lo l⟩
theorem sl_listRg1 {te : TE} {a : DE} (ha : SE K W te a) : SL K W (tLstRg (tRg1 te)) (mListRg1 a) := by
  intro ι X S H σ δ Q rel re h
  refine ha ι X S H σ δ _ rel re (postL_of h fun ι1 H1 d S1 v x1 rel1 rv h1 => ?_)
  split at h1
  · rename_i n
    split at h1
    · rename_i hn
      refine ⟨n, rI_inv rv, ⟨by omega, by omega, by omega, by omega, by omega⟩, fun p hp => newL x1 rel1 ?_ h1 hp⟩
      unfold rngD
      unfold rgV
      rw [show (n - 0 : Int) = n by omega]
      exact repDs_rng 0 _
    · exact h1.elim
  · exact h1.elim
/-- ints among the data -/
def intsP : List P → Option (List Int)
  | [] => some []
  | .int i :: l => (intsP l).map (i :: ·)
  | _ :: _ => none
def boolsP : List P → Option (List Bool)
  | [] => some []
  | .bl i :: l => (boolsP l).map (i :: ·)
  | _ :: _ => none
@[simp] theorem intsP_map (l : List Int) : intsP (l.map .int) = some l := by
  induction l with
  | nil => rfl
  | cons i l ih => rw [List.map_cons, intsP, ih]; rfl
@[simp] theorem boolsP_map (l : List Bool) : boolsP (l.map .bl) = some l := by
  induction l with
  | nil => rfl
  | cons i l ih => rw [List.map_cons, boolsP, ih]; rfl
theorem intsP_rep {ι X : List Addr} {H : Hp} : ∀ {l : List P} {ns : List Int} {xs : List V}, intsP l = some ns → RepPs K ι X H l xs → xs = ns.map V.int
  | [], ns, xs, e, r => by
    cases e
    rw [RepPs] at r
    exact r
  | p :: l, ns, xs, e, r => by
    rw [RepPs] at r
    obtain ⟨y, ys, rfl, f, g⟩ := r
    cases p with
    | int i =>
      unfold intsP at e
      cases q : intsP l with
      | none => rw [q] at e; cases e
      | some ms =>
        rw [q] at e
        cases e
        rw [RepP] at f
        rw [f, intsP_rep q g]
        rfl
    | _ => cases e
theorem boolsP_rep {ι X : List Addr} {H : Hp} : ∀ {l : List P} {ns : List Bool} {xs : List V}, boolsP l = some ns → RepPs K ι X H l xs → xs = ns.map V.bl
  | [], ns, xs, e, r => by
    cases e
    rw [RepPs] at r
    exact r
  | p :: l, ns, xs, e, r => by
    rw [RepPs] at r
    obtain ⟨y, ys, rfl, f, g⟩ := r
    cases p with
    | bl i =>
      unfold boolsP at e
      cases q : boolsP l with
      | none => rw [q] at e; cases e
      | some ms =>
        rw [q] at e
        cases e
        rw [RepP] at f
        rw [f, boolsP_rep q g]
        rfl
    | _ => cases e
def aAll : Store → List D → Option D := fun S ds => match ds with
  | [d] => ((listP S d).bind boolsP).map fun l => dBl (l.all id)
  | _ => none
def aAny : Store → List D → Option D := fun S ds => match ds with
  | [d] => ((listP S d).bind boolsP).map fun l => dBl (l.any id)
  | _ => none
theorem bools_of {ι X : List Addr} {S : Store} {H : Hp} {d : D} {v : V} {l : List Bool} (rel : Rel K ι X S H) (e : (listP S d).bind boolsP = some l) (r : RepD K ι X H d v) : ∃ a, v = .ref a ∧ SqL K H a (l.map V.bl) := by
  cases q : listP S d with
  | none => rw [q] at e; cases e
  | some ps =>
    rw [q] at e
    obtain ⟨a, xs, rfl, f, g⟩ := listP_rep rel q r
    rw [boolsP_rep e g] at f
    exact ⟨a, rfl, SqL.of f⟩
theorem ints_of {ι X : List Addr} {S : Store} {H : Hp} {d : D} {v : V} {l : List Int} (rel : Rel K ι X S H) (e : (listP S d).bind intsP = some l) (r : RepD K ι X H d v) : ∃ a, v = .ref a ∧ SqL K H a (l.map V.int) := by
  cases q : listP S d with
  | none => rw [q] at e; cases e
  | some ps =>
    rw [q] at e
    obtain ⟨a, xs, rfl, f, g⟩ := listP_rep rel q r
    rw [intsP_rep e g] at f
    exact ⟨a, rfl, SqL.of f⟩
theorem all_ok : RCS K (rAll K) aAll := by
  intro ι X S H ds vs d Q rel rv e k
  unfold aAll at e
  split at e
  · rename_i x
    obtain ⟨v, rfl, r⟩ := repDs_one rv
    cases q : (listP S x).bind boolsP with
    | none => rw [q] at e; cases e
    | some l =>
      rw [q] at e
      cases e
      obtain ⟨a, rfl, f⟩ := bools_of rel q r
      exact ⟨a, l, rfl, f, k H _ Ext.refl rel rd_bl⟩
  · cases e
theorem any_ok : RCS K (rAny K) aAny := by
  intro ι X S H ds vs d Q rel rv e k
  unfold aAny at e
  split at e
  · rename_i x
    obtain ⟨v, rfl, r⟩ := repDs_one rv
    cases q : (listP S x).bind boolsP with
    | none => rw [q] at e; cases e
    | some l =>
      rw [q] at e
      cases e
      obtain ⟨a, rfl, f⟩ := bools_of rel q r
      exact ⟨a, l, rfl, f, k H _ Ext.refl rel rd_bl⟩
  · cases e
def aSum : Store → List D → Option D := fun S ds => match ds with
  | [d] => ((listP S d).bind intsP).map fun l => dInt l.sum
  | _ => none
theorem sum_ok : RCS K (rSum K) aSum := by
  intro ι X S H ds vs d Q rel rv e k
  unfold aSum at e
  split at e
  · rename_i x
    obtain ⟨v, rfl, r⟩ := repDs_one rv
    cases q : (listP S x).bind intsP with
    | none => rw [q] at e; cases e
    | some l =>
      rw [q] at e
      cases e
      obtain ⟨a, rfl, f⟩ := ints_of rel q r
      exact ⟨a, l, rfl, f, k H _ Ext.refl rel rd_int⟩
  · cases e
/-- the greatest, the least of some ints -/
def maxI : List Int → Option Int
  | [] => none
  | i :: l => some (l.foldl max i)
def minI : List Int → Option Int
  | [] => none
  | i :: l => some (l.foldl min i)
theorem foldl_max : ∀ (l : List Int) (i : Int), (l.foldl max i = i ∨ l.foldl max i ∈ l) ∧ i ≤ l.foldl max i ∧ ∀ y ∈ l, y ≤ l.foldl max i
  | [], i => ⟨.inl rfl, Int.le_refl _, fun y h => by cases h⟩
  | a :: l, i => by
    obtain ⟨h1, h2, h3⟩ := foldl_max l (max i a)
    rw [List.foldl_cons]
    refine ⟨?_, by omega, fun y hy => ?_⟩
    · rcases h1 with h1 | h1
      · by_cases z : i ≤ a
        · right; rw [h1, show max i a = a by omega]; exact List.mem_cons_self
        · left; rw [h1]; omega
      · right; exact List.mem_cons_of_mem _ h1
    · rcases List.mem_cons.mp hy with rfl | hy
      · omega
      · exact h3 y hy
theorem foldl_min : ∀ (l : List Int) (i : Int), (l.foldl min i = i ∨ l.foldl min i ∈ l) ∧ l.foldl min i ≤ i ∧ ∀ y ∈ l, l.foldl min i ≤ y
  | [], i => ⟨.inl rfl, Int.le_refl _, fun y h => by cases h⟩
  | a :: l, i => by
    obtain ⟨h1, h2, h3⟩ := foldl_min l (min i a)
    rw [List.foldl_cons]
    refine ⟨?_, by omega, fun y hy => ?_⟩
    · rcases h1 with h1 | h1
      · by_cases z : a ≤ i
        · right; rw [h1, show min i a = a by omega]; exact List.mem_cons_self
        · left; rw [h1]; omega
      · right; exact List.mem_cons_of_mem _ h1
    · rcases List.mem_cons.mp hy with rfl | hy
      · omega
      · exact h3 y hy
theorem maxI_spec {l : List Int} {m : Int} (e : maxI l = some m) : m ∈ l ∧ ∀ y ∈ l, y ≤ m := by
  cases l with
  | nil => cases e
  | cons i l =>
    cases e
    obtain ⟨h1, h2, h3⟩ := foldl_max l i
    refine ⟨?_, fun y hy => ?_⟩
    · rcases h1 with h1 | h1
      · rw [h1]; exact List.mem_cons_self
      · exact List.mem_cons_of_mem _ h1
    · rcases List.mem_cons.mp hy with rfl | hy
      · exact h2
      · exact h3 y hy
theorem minI_spec {l : List Int} {m : Int} (e : minI l = some m) : m ∈ l ∧ ∀ y ∈ l, m ≤ y := by
  cases l with
  | nil => cases e
  | cons i l =>
    cases e
    obtain ⟨h1, h2, h3⟩ := foldl_min l i
    refine ⟨?_, fun y hy => ?_⟩
    · rcases h1 with h1 | h1
      · rw [h1]; exact List.mem_cons_self
      · exact List.mem_cons_of_mem _ h1
    · rcases List.mem_cons.mp hy with rfl | hy
      · exact h2
      · exact h3 y hy
def aMax : Store → List D → Option D := fun S ds => match ds with
  | [.dat (.int i), .dat (.int j)] => some (dInt (if j > i then j else i))
  | [d] => (((listP S d).bind intsP).bind maxI).map dInt
  | _ => none
def aMin : Store → List D → Option D := fun S ds => match ds with
  | [.dat (.int i), .dat (.int j)] => some (dInt (if j < i then j else i))
  | [d] => (((listP S d).bind intsP).bind minI).map dInt
  | _ => none
def rMaxM (K : PySem.W.Frag) : List V → Hp → VK → Prop := fun xs H Q => (∃ i j, xs = [.int i, .int j] ∧ Q (.int (if j > i then j else i)) H) ∨ rMax K xs H Q
def rMinM (K : PySem.W.Frag) : List V → Hp → VK → Prop := fun xs H Q => (∃ i j, xs = [.int i, .int j] ∧ Q (.int (if j < i then j else i)) H) ∨ rMin K xs H Q
theorem call_maxM {X : Cx} (h : X.K = K) (hc : X.calm = true) : CallR X (.builtin "max") (rMaxM K) := by
  subst h
  exact CallR.or (call_max2 hc) (cr_max hc)
theorem call_minM {X : Cx} (h : X.K = K) (hc : X.calm = true) : CallR X (.builtin "min") (rMinM K) := by
  subst h
  exact CallR.or (call_min2 hc) (cr_min hc)
theorem max_ok : RCS K (rMaxM K) aMax := by
  intro ι X S H ds vs d Q rel rv e k
  unfold aMax at e
  split at e
  · cases e
    obtain ⟨v, u, rfl, r1, r2⟩ := repDs_two rv
    rw [rI_inv r1, rI_inv r2]
    exact .inl ⟨_, _, rfl, k H _ Ext.refl rel rd_int⟩
  · rename_i x
    obtain ⟨v, rfl, r⟩ := repDs_one rv
    cases q : (listP S x).bind intsP with
    | none => rw [q] at e; cases e
    | some l =>
      rw [q] at e
      cases q2 : maxI l with
      | none => simp only [Option.bind_some, q2] at e; cases e
      | some m =>
        simp only [Option.bind_some, q2, Option.map_some] at e
        cases e
        obtain ⟨a, rfl, f⟩ := ints_of rel q r
        obtain ⟨h1, h2⟩ := maxI_spec q2
        refine .inr ⟨a, l, rfl, f, List.length_pos_of_mem h1, fun m' h3 h4 => ?_⟩
        have : m' = m := Int.le_antisymm (h2 m' h3) (h4 m h1)
        subst this
        exact k H _ Ext.refl rel rd_int
  · cases e
theorem min_ok : RCS K (rMinM K) aMin := by
  intro ι X S H ds vs d Q rel rv e k
  unfold aMin at e
  split at e
  · cases e
    obtain ⟨v, u, rfl, r1, r2⟩ := repDs_two rv
    rw [rI_inv r1, rI_inv r2]
    exact .inl ⟨_, _, rfl, k H _ Ext.refl rel rd_int⟩
  · rename_i x
    obtain ⟨v, rfl, r⟩ := repDs_one rv
    cases q : (listP S x).bind intsP with
    | none => rw [q] at e; cases e
    | some l =>
      rw [q] at e
      cases q2 : minI l with
      | none => simp only [Option.bind_some, q2] at e; cases e
      | some m =>
        simp only [Option.bind_some, q2, Option.map_some] at e
        cases e
        obtain ⟨a, rfl, f⟩ := ints_of rel q r
        obtain ⟨h1, h2⟩ := minI_spec q2
        refine .inr ⟨a, l, rfl, f, List.length_pos_of_mem h1, fun m' h3 h4 => ?_⟩
        have : m' = m := Int.le_antisymm (h4 m h1) (h2 m' h3)
        subst this
        exact k H _ Ext.refl rel rd_int
  · cases e
def aAbs : Store → List D → Option D := fun _ ds => match ds with
  | [.dat (.int i)] => some (dInt (if i < 0 then -i else i))
  | _ => none
theorem abs_ok : RCS K (fun xs H Q => ∃ i, xs = [.int i] ∧ Q (.int (if i < 0 then -i else i)) H) aAbs := by
  intro ι X S H ds vs d Q rel rv e k
  unfold aAbs at e
  split at e
  · cases e
    obtain ⟨v, rfl, r⟩ := repDs_one rv
    exact ⟨_, by rw [rI_inv r], k H _ Ext.refl rel rd_int⟩
  · cases e
def aInt : Store → List D → Option D := fun _ ds => match ds with
  | [.dat (.int i)] => some (dInt i)
  | [.dat (.bl b)] => some (dInt (if b then 1 else 0))
  | _ => none
theorem int_ok : RCS K (fun xs H Q => (∃ i, xs = [.int i] ∧ Q (.int i) H) ∨ ∃ k, xs = [.bl k] ∧ Q (.int (if k then 1 else 0)) H) aInt := by
  intro ι X S H ds vs d Q rel rv e k
  unfold aInt at e
  split at e
  · cases e
    obtain ⟨v, rfl, r⟩ := repDs_one rv
    exact .inl ⟨_, by rw [rI_inv r], k H _ Ext.refl rel rd_int⟩
  · cases e
    obtain ⟨v, rfl, r⟩ := repDs_one rv
    exact .inr ⟨_, by rw [rB_inv r], k H _ Ext.refl rel rd_int⟩
  · cases e
end
end M3
namespace M3
open PySem PySem.Spec PyProof.Rows L2
/-! ### isinstance -/
/-- own classes, so that isinstance tells of their instances -/
structure OwnC (K : PySem.W.Frag) (C : Addr) : Prop where
  cl : Cls K C
  ha : PySem.W.findIn K (.ref C) "__class__" = some (some (.builtin "object.__class__"))
  hn : PySem.W.specialIn K (.builtin "object.__class__") "__get__" = some (some (.builtin "getset_descriptor.__get__"))
  htk : PySem.W.takesIn K (.builtin "object.__class__") = some true
  hm : PySem.W.mroIn K C (.type "object") = some true
def OwnCs (K : PySem.W.Frag) (CS : List Addr) : Prop := ∀ C ∈ CS, OwnC K C
theorem OwnCs.nil {K : PySem.W.Frag} : OwnCs K [] := fun _ h => nomatch h
/-- the type of a thing, as isinstance asks it -/
def tyD (CS : List Addr) (S : Store) : D → Option Value
  | .dat .non => some (.type "NoneType")
  | .dat (.bl _) => some (.type "bool")
  | .dat (.int _) => some (.type "int")
  | .dat (.str _) => some (.type "str")
  | .dat (.tup _) => some (.type "tuple")
  | .dat (.lst _) => some (.type "list")
  | .dat (.dic _) => some (.type "dict")
  | .dat (.scr _) => some (.type "list")
  | .dat (.ins C _) => if C ∈ CS then some (.ref C) else none
  | .dat (.con _) => none
  | .obj i => match S[i]? with
    | some (.lst _) => some (.type "list")
    | some (.dic _) => some (.type "dict")
    | some (.ins C _) => if C ∈ CS then some (.ref C) else none
    | none => none
section
variable {K : PySem.W.Frag} {CS : List Addr}
theorem tyD_rep {ι X : List Addr} {S : Store} {H : Hp} {d : D} {v : V} {t : Value} (O : OwnCs K CS) (rel : Rel K ι X S H) (e : tyD CS S d = some t) (r : RepD K ι X H d v) : TyX K H v t := by
  cases d with
  | obj i =>
    obtain ⟨a, ea, rfl⟩ := r
    obtain ⟨o, eo, ro⟩ := rel.obj ea
    unfold tyD at e
    simp only [eo] at e
    cases o with
    | lst l => cases e; obtain ⟨xs, f, _⟩ := ro; exact .base (.lst f)
    | dic l => cases e; obtain ⟨xs, f, _⟩ := ro; exact .base (.dK f)
    | ins C l =>
      simp only at e
      split at e
      · rename_i m
        cases e
        obtain ⟨dx, xs, f, _⟩ := ro
        have o := O C m
        exact .base (.ins f o.cl o.ha o.hn o.htk o.hm)
      · cases e
  | dat p =>
    have r : RepP K ι X H p v := r
    cases p with
    | non => cases e; rw [RepP] at r; rw [r]; exact .base .non
    | bl b => cases e; rw [RepP] at r; rw [r]; exact .base (.bl b)
    | int b => cases e; rw [RepP] at r; rw [r]; exact .base (.int b)
    | str b => cases e; rw [RepP] at r; rw [r]; exact .base (.str b)
    | tup l =>
      cases e
      rw [RepP] at r
      obtain ⟨a, xs, rfl, f, _⟩ := r
      rcases f with ⟨_, _, f | ⟨o, f⟩⟩ | ⟨o, its, n, h1, h2, _⟩
      · exact .base (.tup f)
      · exact .fTuple f
      · exact .kTuple h1 h2
    | lst l => cases e; rw [RepP] at r; obtain ⟨a, xs, rfl, _, _, f, _⟩ := r; exact .base (.lst f)
    | dic l => cases e; rw [RepP] at r; obtain ⟨a, xs, rfl, _, _, f, _⟩ := r; exact .base (.dK f)
    | ins C l =>
      rw [RepP] at r
      obtain ⟨a, dx, xs, rfl, _, _, f, _⟩ := r
      unfold tyD at e
      simp only at e
      split at e
      · rename_i m
        cases e
        have o := O C m
        exact .base (.ins f o.cl o.ha o.hn o.htk o.hm)
      · cases e
    | con w => cases e
    | scr l =>
      cases e
      rw [RepP] at r
      obtain ⟨a, rfl, f⟩ := r
      rcases f with ⟨_, _, f | ⟨o, f⟩⟩ | ⟨o, its, n, h1, h2, _⟩
      · exact .base (.lst f)
      · exact .base (.frz f)
      · exact .kList h1 h2
/-- a class, as a value -/
def clsD : D → Option Value
  | .dat (.con (.ty n)) => some (.type n)
  | .dat (.con (.ref C)) => some (.ref C)
  | _ => none
theorem clsD_rep {ι X : List Addr} {H : Hp} {d : D} {v : V} {u : Value} (e : clsD d = some u) (r : RepD K ι X H d v) : ClsV v u := by
  unfold clsD at e
  split at e
  · cases e
    rw [rC_inv r]
    exact .ty _
  · cases e
    rw [rC_inv r]
    exact .own _
  · cases e
def aIsi (K : PySem.W.Frag) (CS : List Addr) : Store → List D → Option D := fun S ds => match ds with
  | [x, c] => match tyD CS S x, clsD c with
    | some t, some u => (PySem.W.kitOne K t u).map dBl
    | _, _ => none
  | _ => none
theorem call_isiM {X : Cx} (h : X.K = K) : CallR X (.builtin "isinstance") (rIsi K) := h ▸ call_isi
theorem isi_ok (O : OwnCs K CS) : RCS K (rIsi K) (aIsi K CS) := by
  intro ι X S H ds vs d Q rel rv e k
  unfold aIsi at e
  split at e
  · rename_i x c
    obtain ⟨v, w, rfl, r1, r2⟩ := repDs_two rv
    split at e
    · rename_i t u e1 e2
      cases q : PySem.W.kitOne K t u with
      | none => rw [q] at e; cases e
      | some b =>
        rw [q] at e
        cases e
        exact ⟨v, w, t, u, b, rfl, clsD_rep e2 r2, tyD_rep O rel e1 r1, q, k H _ Ext.refl rel rd_bl⟩
    · cases e
  · cases e
/-- isinstance(x, (c1, c2, ..)): the tuple of classes is just laid -/
def clssD : List P → Option (List Value)
  | [] => some []
  | .con (.ty n) :: l => (clssD l).map (.type n :: ·)
  | .con (.ref C) :: l => (clssD l).map (.ref C :: ·)
  | _ :: _ => none
theorem clssD_rep {ι X : List Addr} {H : Hp} : ∀ {l : List P} {us : List Value} {vs : List V}, clssD l = some us → RepPs K ι X H l vs → Paired ClsV vs us
  | [], us, vs, e, r => by
    cases e
    rw [RepPs] at r
    rw [r]
    exact .nil
  | p :: l, us, vs, e, r => by
    rw [RepPs] at r
    obtain ⟨y, ys, rfl, f, g⟩ := r
    unfold clssD at e
    split at e
    · rename_i heq; cases heq
    · rename_i heq
      cases heq
      cases q : clssD l with
      | none => rw [q] at e; cases e
      | some ws =>
        rw [q] at e
        cases e
        rw [RepP] at f
        rw [f]
        exact .cons (.ty _) (clssD_rep q g)
    · rename_i heq
      cases heq
      cases q : clssD l with
      | none => rw [q] at e; cases e
      | some ws =>
        rw [q] at e
        cases e
        rw [RepP] at f
        rw [f]
        exact .cons (.own _) (clssD_rep q g)
    · cases e
def aIsiT (K : PySem.W.Frag) (CS : List Addr) : Store → List D → Option D := fun S ds => match ds with
  | [x, .dat (.tup l)] => match tyD CS S x, clssD l with
    | some t, some us => (PySem.W.kitAny K t us).map dBl
    | _, _ => none
  | _ => none
def rIsiTM (K : PySem.W.Frag) : List V → Hp → VK → Prop := rIsiT K
theorem call_isiTM {X : Cx} (h : X.K = K) : CallR X (.builtin "isinstance") (rIsiTM K) := h ▸ call_isiT
theorem clssD_tup {l : List P} {us : List Value} (e : clssD l = some us) : True := trivial
end
/-! ### what a call of a built-in method does -/
def MSim (K : PySem.W.Frag) (r : V → List V → Hp → VK → Prop) (f : D → List D → Store → R D) : Prop := ∀ ι X S H x v ds vs Q, Rel K ι X S H → RepD K ι X H x v → RepDs K ι X H ds vs →
  Post K X ι H (fun _ _ _ => False) (f x ds S) (fun ι' H' d w => RepD K ι' X H' d w) Q → r v vs H Q
def isKind (T : String) (S : Store) (d : D) : Bool :=
  if T = "list" then (listD S d).isSome else if T = "str" then (match d with
    | .dat (.str _) => true
    | _ => false) else false
def mBM (T : String) (f : D → List D → Store → R D) (a : DE) (b : DA) : DE := fun δ S => (a δ S).bind fun x S1 => if isKind T S1 x = true then (b δ S1).bind fun ds S2 => (match f x ds S2 with
    | .ok d S3 => .ok d S3
    | _ => .fail) else .fail
section
variable {K : PySem.W.Frag} {W : L2.St → WK}
theorem isKind_ty {ι X : List Addr} {S : Store} {H : Hp} {T : String} {d : D} {v : V} (rel : Rel K ι X S H) (e : isKind T S d = true) (r : RepD K ι X H d v) : tyV K T v H := by
  unfold isKind at e
  split at e
  · rename_i hT
    subst hT
    cases q : listD S d with
    | none => rw [q] at e; cases e
    | some l =>
      obtain ⟨a, xs, rfl, f, _⟩ := listD_rep rel q r
      exact .inl ⟨rfl, xs, SqL.of f⟩
  · split at e
    · rename_i hT
      subst hT
      split at e
      · rw [rS_inv r]; rfl
      · cases e
    · cases e
theorem noexc {X ι : List Addr} {H : Hp} {W : WK} {r : R D} {Rp : List Addr → Hp → D → V → Prop} {Q : V → Hp → Prop} (h : Post K X ι H W (match r with
    | .ok d S3 => .ok d S3
    | _ => .fail) Rp Q) : Post K X ι H (fun _ _ _ => False) r Rp Q := by
  cases r with
  | ok d S => exact h
  | exc C x S => exact h.elim
  | fail => exact h
theorem se_bm {T : String} {r : V → List V → Hp → VK → Prop} {f : D → List D → Store → R D} {to : TE} {t : TA} {a : DE} {b : DA} (hr : MSim K r f) (ha : SE K W to a) (hb : SA K W t b) : SE K W (tBM K T r to t) (mBM T f a b) := by
  intro ι X S H σ δ Q rel re h
  refine ha ι X S H σ δ _ rel re (Post.bind h fun ι1 H1 x S1 v x1 rel1 rv h1 => ?_)
  split at h1
  · rename_i hk
    refine ⟨isKind_ty rel1 hk rv, ?_⟩
    refine hb ι1 X S1 H1 σ δ _ rel1 (re.ext x1) (Post.bind h1 fun ι2 H2 ds S2 vs x2 rel2 rvs h2 => ?_)
    exact hr ι2 X S2 H2 x v ds vs Q rel2 (rv.ext x2) rvs (noexc h2)
  · exact h1.elim
theorem se_bm0 {T : String} {r : V → List V → Hp → VK → Prop} {f : D → List D → Store → R D} {to : TE} {a : DE} (hr : MSim K r f) (ha : SE K W to a) : SE K W (tBM0 K T r to) (mBM T f a mNil) := by
  intro ι X S H σ δ Q rel re h
  refine ha ι X S H σ δ _ rel re (Post.bind h fun ι1 H1 x S1 v x1 rel1 rv h1 => ?_)
  split at h1
  · rename_i hk
    refine ⟨isKind_ty rel1 hk rv, ?_⟩
    exact hr ι1 X S1 H1 x v [] [] Q rel1 rv rfl (noexc h1)
  · exact h1.elim
/-- a change of a list among the objects -/
def updL (f : List D → List D → Option (D × List D)) : D → List D → Store → R D := fun x ds S => match x with
  | .obj i => match S[i]? with
    | some (.lst l) => (match f l ds with
      | some (d, l') => .ok d (S.set i (.lst l'))
      | none => .fail)
    | _ => .fail
  | _ => .fail
theorem updL_ok {r : V → List V → Hp → VK → Prop} {f : List D → List D → Option (D × List D)}
    (h : ∀ ι X S H a xs l ds vs d l' Q, Rel K ι X S H → H a = some (.lst xs) → RepDs K ι X H l xs → RepDs K ι X H ds vs → f l ds = some (d, l') →
      (∀ v ys, RepD K ι X H d v → RepDs K ι X H l' ys → Q v (upd H a (.lst ys))) → r (.ref a) vs H Q) : MSim K r (updL f) := by
  intro ι X S H x v ds vs Q rel rx rvs hp
  unfold updL at hp
  cases x with
  | dat p => exact hp.elim
  | obj i =>
    obtain ⟨a, ea, rfl⟩ := rx
    simp only at hp
    cases es : S[i]? with
    | none => rw [es] at hp; exact hp.elim
    | some o =>
      cases o with
      | ins C l => simp only [es] at hp; exact hp.elim
      | dic l => simp only [es] at hp; exact hp.elim
      | lst l =>
        simp only [es] at hp
        cases q : f l ds with
        | none => rw [q] at hp; exact hp.elim
        | some z =>
          obtain ⟨d, l'⟩ := z
          simp only [q] at hp
          obtain ⟨xs, ex, rxs⟩ := rel.at_ i _ a es ea
          refine h ι X S H a xs l ds vs d l' Q rel ex rxs rvs q fun v ys rv rys => ?_
          have ma : a ∈ ι := List.mem_of_getElem? ea
          have o1 : Out1 ι X H ι X (upd H a (.lst ys)) := Out1.ext ⟨⟨[], by simp⟩, fun b w n h => by rw [upd_ne (fun z => n (by rw [z]; exact ma))]; exact h, fun b m n => absurd m n⟩
          obtain ⟨r2, x2⟩ := rel.put (o := .lst l') (u := .lst ys) ea ⟨ys, upd_same, rys.out o1⟩
          exact hp ι _ v x2 r2 (rv.ext x2)
def fAppend : List D → List D → Option (D × List D) := fun l ds => match ds with
  | [d] => if l.length < 100000 then some (.dat .non, l ++ [d]) else none
  | _ => none
theorem append_ok : MSim K rAppend (updL fAppend) := updL_ok fun ι X S H a xs l ds vs d l' Q rel ex rxs rvs e k => by
  unfold fAppend at e
  split at e
  · split at e
    · rename_i hl
      cases e
      obtain ⟨v, rfl, rv⟩ := repDs_one rvs
      exact ⟨a, xs, v, rfl, rfl, ex, smalls (by rw [repDs_len rxs]; exact hl), k _ _ rd_non (repDs_snoc rxs rv)⟩
    · cases e
  · cases e
def fPop : List D → List D → Option (D × List D) := fun l ds => match ds with
  | [] => match l[l.length - 1]? with
    | some d => some (d, l.dropLast)
    | none => none
  | _ => none
theorem repDs_dropLast {ι X : List Addr} {H : Hp} {l : List D} {xs : List V} (r : RepDs K ι X H l xs) : RepDs K ι X H l.dropLast xs.dropLast := by
  rw [List.dropLast_eq_take, List.dropLast_eq_take, repDs_len r]
  exact repDs_take _ r
theorem pop_ok : MSim K rPop (updL fPop) := updL_ok fun ι X S H a xs l ds vs d l' Q rel ex rxs rvs e k => by
  unfold fPop at e
  split at e
  · split at e
    · rename_i d' ed
      cases e
      rw [show vs = [] from rvs]
      obtain ⟨y, ey, ry⟩ := repDs_at rxs ed
      exact ⟨a, xs, y, rfl, rfl, ex, by rw [repDs_len rxs]; exact ey, k _ _ ry (repDs_dropLast rxs)⟩
    · cases e
  · cases e
theorem repDs_erase {ι X : List Addr} {H : Hp} : ∀ {l : List D} {xs : List V} (k : Nat), RepDs K ι X H l xs → RepDs K ι X H (l.eraseIdx k) (xs.eraseIdx k)
  | [], xs, k, r => by rw [show xs = [] from r]; rfl
  | _ :: _, _, 0, ⟨y, ys, rfl, f, g⟩ => g
  | _ :: _, _, k + 1, ⟨y, ys, rfl, f, g⟩ => ⟨y, _, rfl, f, repDs_erase k g⟩
def fPopAt : List D → List D → Option (D × List D) := fun l ds => match ds with
  | [.dat (.int i)] => match ixN l.length i with
    | some k => if -100000 ≤ i ∧ i ≤ 100000 then (l[k]?).map fun d => (d, l.eraseIdx k) else none
    | none => none
  | _ => none
theorem popAt_ok : MSim K rPopAt (updL fPopAt) := updL_ok fun ι X S H a xs l ds vs d l' Q rel ex rxs rvs e k => by
  unfold fPopAt at e
  split at e
  · rename_i i
    split at e
    · rename_i j hj
      split at e
      · rename_i hi
        cases q : l[j]? with
        | none => rw [q] at e; cases e
        | some d' =>
          rw [q] at e
          cases e
          obtain ⟨v, rfl, rv⟩ := repDs_one rvs
          obtain ⟨y, ey, ry⟩ := repDs_at rxs q
          rw [← repDs_len rxs] at hj
          exact ⟨a, xs, i, j, y, rfl, by rw [rI_inv rv], ex, by omega, by omega, (ixN_seq hj).1, ey, k _ _ ry (repDs_erase j rxs)⟩
      · cases e
    · cases e
  · cases e
theorem repDs_app {ι X : List Addr} {H : Hp} : ∀ {l k : List D} {xs ys : List V}, RepDs K ι X H l xs → RepDs K ι X H k ys → RepDs K ι X H (l ++ k) (xs ++ ys)
  | [], k, xs, ys, r, q => by rw [show xs = [] from r]; exact q
  | _ :: _, k, _, ys, ⟨y, zs, rfl, f, g⟩, q => ⟨y, zs ++ ys, rfl, f, repDs_app g q⟩
def rInsM : V → List V → Hp → VK → Prop := fun x vs H Q => ∃ (l : Addr) (xs : List V) (i : Int) (y : V), x = .ref l ∧ vs = [.int i, y] ∧ H l = some (.lst xs) ∧ xs.length < sizeLine ∧ 0 ≤ i ∧ i < 2 ^ 63 ∧
    Q .non (upd H l (.lst (xs.take i.toNat ++ [y] ++ xs.drop i.toNat)))
def fInsert : List D → List D → Option (D × List D) := fun l ds => match ds with
  | [.dat (.int i), d] => if l.length < 100000 ∧ 0 ≤ i ∧ i ≤ 100000 then some (.dat .non, l.take i.toNat ++ [d] ++ l.drop i.toNat) else none
  | _ => none
theorem insert_ok : MSim K rInsM (updL fInsert) := updL_ok fun ι X S H a xs l ds vs d l' Q rel ex rxs rvs e k => by
  unfold fInsert at e
  split at e
  · rename_i i d'
    split at e
    · rename_i h
      cases e
      obtain ⟨v, u, rfl, r1, r2⟩ := repDs_two rvs
      exact ⟨a, xs, i, u, rfl, by rw [rI_inv r1], ex, smalls (by rw [repDs_len rxs]; exact h.1), h.2.1, by omega, k _ _ rd_non (repDs_app (repDs_app (repDs_take _ rxs) ⟨u, [], rfl, r2, rfl⟩) (repDs_drop _ rxs))⟩
    · cases e
  · cases e
/-- xs.extend(ys), ys another list -/
def fExt (S : Store) : List D → List D → Option (D × List D) := fun l ds => match ds with
  | [d] => match listP S d with
    | some k => if l.length + k.length ≤ 100000 then some (.dat .non, l ++ k.map .dat) else none
    | none => none
  | _ => none
theorem extend_ok : MSim K rExtend (fun x ds S => updL (fExt S) x ds S) := by
  intro ι X S H x v ds vs Q rel rx rvs hp
  unfold updL at hp
  cases x with
  | dat p => exact hp.elim
  | obj i =>
    obtain ⟨a, ea, rfl⟩ := rx
    simp only at hp
    cases es : S[i]? with
    | none => rw [es] at hp; exact hp.elim
    | some o =>
      cases o with
      | ins C l => simp only [es] at hp; exact hp.elim
      | dic l => simp only [es] at hp; exact hp.elim
      | lst l =>
        simp only [es] at hp
        unfold fExt at hp
        match ds, rvs, hp with
        | [], _, hp => exact hp.elim
        | [d], rvs, hp =>
          simp only at hp
          obtain ⟨u, rfl, ru⟩ := repDs_one rvs
          cases q : listP S d with
          | none => rw [q] at hp; exact hp.elim
          | some k =>
            simp only [q] at hp
            by_cases hl : l.length + k.length ≤ 100000
            · rw [if_pos hl] at hp
              obtain ⟨xs, ex, rxs⟩ := rel.at_ i _ a es ea
              obtain ⟨b, ys, rfl, eb, rys⟩ := listP_rep rel q ru
              refine ⟨a, b, xs, ys, rfl, rfl, ex, eb, small (by rw [repDs_len rxs, repPs_len rys]; exact hl), ?_⟩
              have ma : a ∈ ι := List.mem_of_getElem? ea
              have r3 := repDs_app rxs (repDs_dat rys)
              have o1 : Out1 ι X H ι X (upd H a (.lst (xs ++ ys))) := Out1.ext ⟨⟨[], by simp⟩, fun b w n h => by rw [upd_ne (fun z => n (by rw [z]; exact ma))]; exact h, fun b m n => absurd m n⟩
              obtain ⟨r2, x2⟩ := rel.put (o := .lst (l ++ k.map .dat)) (u := .lst (xs ++ ys)) ea ⟨_, upd_same, r3.out o1⟩
              exact hp ι _ _ x2 r2 rd_non
            · rw [if_neg hl] at hp; exact hp.elim
        | _ :: _ :: _, _, hp => exact hp.elim
/-- reading methods -/
def rdM (f : Store → D → List D → Option D) : D → List D → Store → R D := fun x ds S => oR (f S x ds) S
theorem rdM_ok {r : V → List V → Hp → VK → Prop} {f : Store → D → List D → Option D}
    (h : ∀ ι X S H x v ds vs d Q, Rel K ι X S H → RepD K ι X H x v → RepDs K ι X H ds vs → f S x ds = some d → (∀ H' w, Ext ι H ι H' → Rel K ι X S H' → RepD K ι X H' d w → Q w H') → r v vs H Q) : MSim K r (rdM f) := by
  intro ι X S H x v ds vs Q rel rx rvs hp
  unfold rdM at hp
  cases q : f S x ds with
  | none => rw [q] at hp; exact hp.elim
  | some d =>
    rw [q] at hp
    exact h ι X S H x v ds vs d Q rel rx rvs q fun H' w x r k => hp ι H' w x r k
/-- the first place -/
def idxF (y : P) : List P → Option Nat
  | [] => none
  | p :: l => if eqF p y = true then some 0 else (idxF y l).map (· + 1)
def fIndex : Store → D → List D → Option D := fun S x ds => match ds with
  | [.dat y] => match listP S x with
    | some l => if flatP y = true ∧ l.all flatP = true then (idxF y l).map fun j => dInt (j : Nat) else none
    | none => none
  | _ => none
theorem idxF_spec {y : P} : ∀ {l : List P} {j : Nat}, idxF y l = some j → (∃ z, l[j]? = some z ∧ eqF z y = true) ∧ ∀ (m : Nat) z, m < j → l[m]? = some z → eqF z y = false
  | [], j, e => by cases e
  | p :: l, j, e => by
    unfold idxF at e
    split at e
    · rename_i h
      cases e
      exact ⟨⟨p, rfl, h⟩, fun m z hm => by omega⟩
    · rename_i h
      cases q : idxF y l with
      | none => rw [q] at e; cases e
      | some k =>
        rw [q] at e
        cases e
        obtain ⟨⟨z, h1, h2⟩, h3⟩ := idxF_spec q
        refine ⟨⟨z, by simpa using h1, h2⟩, fun m w hm hw => ?_⟩
        have hm : m < k + 1 := hm
        cases m with
        | zero =>
          have e2 : p = w := by simpa using hw
          subst e2
          exact Bool.eq_false_iff.mpr h
        | succ m => exact h3 m w (by omega) (by simpa using hw)
theorem index_ok : MSim K (fun x xs H Q => rIndex K x xs H Q) (rdM fIndex) := rdM_ok fun ι X S H x v ds vs d Q rel rx rvs e k => by
  unfold fIndex at e
  split at e
  · rename_i y
    split at e
    · rename_i l e1
      split at e
      · rename_i h
        cases q : idxF y l with
        | none => rw [q] at e; cases e
        | some j =>
          rw [q] at e
          cases e
          obtain ⟨u, rfl, ru⟩ := repDs_one rvs
          obtain ⟨a, xs, rfl, f, g⟩ := listP_rep rel e1 rx
          obtain ⟨⟨z, h1, h2⟩, h3⟩ := idxF_spec q
          obtain ⟨w, ew, rw1⟩ := repPs_at g h1
          have ru : RepP K ι X H y u := ru
          have fz : flatP z = true := List.all_eq_true.mp h.2 z (List.mem_of_getElem? h1)
          refine ⟨a, xs, u, j, w, rfl, rfl, SqL.of f, flat_rep h.1 ru, flats_rep h.2 g, ew, by rw [eqF_rep fz h.1 rw1 ru]; exact h2, fun m z' hm hz => ?_, k H _ Ext.refl rel rd_int⟩
          have hl := repPs_len g
          have hm2 : m < l.length := by have := (List.getElem?_eq_some_iff.mp hz).1; omega
          have e2 := List.getElem?_eq_getElem hm2
          have fz2 : flatP l[m] = true := List.all_eq_true.mp h.2 _ (List.getElem_mem hm2)
          rw [eqF_rep fz2 h.1 (repPs_nth g e2 hz) ru]
          exact h3 m _ hm e2
      · cases e
    · cases e
  · cases e
/-- list.count of flags, ints -/
def fCountI : Store → D → List D → Option D := fun S x ds => match ds with
  | [.dat (.int k)] => ((listP S x).bind intsP).map fun l => dInt (l.count k : Nat)
  | _ => none
theorem countI_ok : MSim K (fun x xs H Q => rCntI K x xs H Q) (rdM fCountI) := rdM_ok fun ι X S H x v ds vs d Q rel rx rvs e k => by
  unfold fCountI at e
  split at e
  · rename_i n
    cases q : (listP S x).bind intsP with
    | none => rw [q] at e; cases e
    | some l =>
      rw [q] at e
      cases e
      obtain ⟨u, rfl, ru⟩ := repDs_one rvs
      obtain ⟨a, rfl, f⟩ := ints_of rel q rx
      exact ⟨a, l, n, rfl, by rw [rI_inv ru], f, k H _ Ext.refl rel rd_int⟩
  · cases e
/-- list.remove of ints -/
def fRemI : List D → List D → Option (D × List D) := fun l ds => match ds with
  | [.dat (.int k)] => match (datAll l).bind intsP with
    | some ns => (ns.idxOf? k).map fun j => (.dat .non, (ns.eraseIdx j).map fun i => .dat (.int i))
    | none => none
  | _ => none
/-! ### stores -/
def setD (x y v : D) (S : Store) : Option Store := match x, y with
  | .obj i, .dat (.int k) => match S[i]? with
    | some (.lst l) => (ixN l.length k).map fun j => S.set i (.lst (l.set j v))
    | _ => none
  | _, _ => none
theorem repDs_set {ι X : List Addr} {H : Hp} {d : D} {v : V} : ∀ {l : List D} {xs : List V} (k : Nat), RepDs K ι X H l xs → RepD K ι X H d v → RepDs K ι X H (l.set k d) (xs.set k v)
  | [], xs, k, r, q => by rw [show xs = [] from r]; rfl
  | _ :: _, _, 0, ⟨y, ys, rfl, f, g⟩, q => ⟨v, ys, rfl, q, g⟩
  | _ :: _, _, k + 1, ⟨y, ys, rfl, f, g⟩, q => ⟨y, _, rfl, f, repDs_set k g q⟩
theorem setD_ok {ι X : List Addr} {S S' : Store} {H : Hp} {x y d : D} {v u w : V} {Q : Hp → Prop} (rel : Rel K ι X S H) (rx : RepD K ι X H x v) (ry : RepD K ι X H y u) (rd : RepD K ι X H d w) (e : setD x y d S = some S')
    (k : ∀ H', Ext ι H ι H' → Rel K ι X S' H' → Q H') : rSetL v u w H Q := by
  unfold setD at e
  split at e
  · rename_i i n
    obtain ⟨a, ea, rfl⟩ := rx
    cases es : S[i]? with
    | none => rw [es] at e; cases e
    | some o =>
      cases o with
      | ins C l => simp only [es] at e; cases e
      | dic l => simp only [es] at e; cases e
      | lst l =>
        simp only [es] at e
        cases q : ixN l.length n with
        | none => rw [q] at e; cases e
        | some j =>
          rw [q] at e
          cases e
          obtain ⟨xs, ex, rxs⟩ := rel.at_ i _ a es ea
          refine ⟨a, xs, n, j, rfl, rI_inv ry, ex, by rw [repDs_len rxs]; exact q, ?_⟩
          have ma : a ∈ ι := List.mem_of_getElem? ea
          have o1 : Out1 ι X H ι X (upd H a (.lst (xs.set j w))) := Out1.ext ⟨⟨[], by simp⟩, fun b w n h => by rw [upd_ne (fun z => n (by rw [z]; exact ma))]; exact h, fun b m n => absurd m n⟩
          obtain ⟨r2, x2⟩ := rel.put (o := .lst (l.set j d)) (u := .lst (xs.set j w)) ea ⟨_, upd_same, (repDs_set j rxs rd).out o1⟩
          exact k _ x2 r2
  · cases e
def gmSub (a b : DE) : DG := fun d δ S => (a δ S).bind fun x S1 => (b δ S1).bind fun y S2 => match setD x y d S2 with
  | some S3 => .ok δ S3
  | none => .fail
theorem sg_sub {to ti : TE} {a b : DE} (ha : SE K W to a) (hb : SE K W ti b) : SG K W (gSub to ti rSetL) (gmSub a b) := by
  intro ι X S H σ δ d w N rel re rd h
  refine ha ι X S H σ δ _ rel re (Post.bind h fun ι1 H1 x S1 v x1 rel1 rv h1 => ?_)
  refine hb ι1 X S1 H1 σ δ _ rel1 (re.ext x1) (Post.bind h1 fun ι2 H2 y S2 u x2 rel2 ru h2 => ?_)
  cases q : setD x y d S2 with
  | none => simp only [q] at h2; exact h2.elim
  | some S3 =>
    simp only [q] at h2
    exact setD_ok rel2 (rv.ext x2) ru ((rd.ext x1).ext x2) q fun H3 x3 rel3 => h2 ι2 H3 σ x3 rel3 (((re.ext x1).ext x2).ext x3)
/-- xs[i] += e -/
def getD (S : Store) (x y : D) : Option D := match y with
  | .dat (.int (.ofNat k)) => match listD S x with
    | some l => l[k]?
    | none => none
  | _ => none
def mAugS (a b c : DE) : DS := fun δ S => (a δ S).st δ fun x S1 => (b δ S1).st δ fun y S2 => match getD S2 x y with
  | some (.dat (.int old)) => (c δ S2).st δ fun z S3 => (match z with
    | .dat (.int n) => (match setD x y (.dat (.int (old + n))) S3 with
      | some S4 => .ok (.nx δ) S4
      | none => .fail)
    | _ => .fail)
  | _ => .fail
def rGetK (K : PySem.W.Frag) : V → V → Hp → VK → Prop := fun x y H Q => ∃ (p : Addr) (xs : List V) (i : Nat) (v : V), x = .ref p ∧ y = .int (i : Int) ∧ SqL K H p xs ∧ xs[i]? = some v ∧ Q v H
theorem ss_augS {to ti te : TE} {a b c : DE} (ha : SE K W to a) (hb : SE K W ti b) (hc : SE K W te c) : SS K W (tAugS to ti te (rGetK K) (ipI fun i j => i + j) rSetL) (mAugS a b c) := by
  intro ι X S H σ δ E rel re h
  refine ha ι X S H σ δ _ rel re (PostS.st re h fun ι1 H1 x S1 v x1 rel1 rv h1 => ?_)
  refine hb ι1 X S1 H1 σ δ _ rel1 (re.ext x1) (PostS.st (re.ext x1) h1 fun ι2 H2 y S2 u x2 rel2 ru h2 => ?_)
  have re2 := (re.ext x1).ext x2
  cases q : getD S2 x y with
  | none => simp only [q] at h2; exact h2.elim
  | some o =>
    cases o with
    | obj i => simp only [q] at h2; exact h2.elim
    | dat p =>
      cases p with
      | int old =>
        simp only [q] at h2
        have rv2 := rv.ext x2
        unfold getD at q
        split at q
        · rename_i k
          split at q
          · rename_i l el
            obtain ⟨pa, xs, rfl, f, g⟩ := listD_rep rel2 el rv2
            obtain ⟨w, ew, rw1⟩ := repDs_at g q
            refine ⟨pa, xs, k, w, rfl, rI_inv ru, SqL.of f, ew, ?_⟩
            refine hc ι2 X S2 H2 σ δ _ rel2 re2 (PostS.st re2 h2 fun ι3 H3 z S3 t x3 rel3 rt h3 => ?_)
            split at h3
            · rename_i n
              split at h3
              · rename_i S4 e4
                refine ⟨old, n, rI_inv rw1, rI_inv rt, ?_⟩
                exact setD_ok rel3 (rv2.ext x3) (ru.ext x3) rd_int e4 fun H4 x4 rel4 => h3 ι3 H4 σ x4 rel4 ((re2.ext x3).ext x4)
              · exact h3.elim
            · exact h3.elim
          · cases q
        · cases q
      | _ => simp only [q] at h2; exact h2.elim
/-- x op= e -/
def mAug (i : Nat) (f : Store → D → D → Option D) (a : DE) : DS := fun δ S => match δ[i]? with
  | some (some x) => (a δ S).st δ fun y S1 => (match f S1 x y with
    | some z => .ok (.nx (δ.set i (some z))) S1
    | none => .fail)
  | _ => .fail
theorem ss_aug {i : Nat} {te : TE} {ti : TIp} {f : Store → D → D → Option D} {a : DE} (ha : SE K W te a)
    (hf : ∀ ι X S H x y v u d Q, Rel K ι X S H → RepD K ι X H x v → RepD K ι X H y u → f S x y = some d → (∀ H' w, Ext ι H ι H' → Rel K ι X S H' → RepD K ι X H' d w → Q w H') → ti v u H Q) : SS K W (tAug i te ti) (mAug i f a) := by
  intro ι X S H σ δ E rel re h
  unfold mAug at h
  split at h
  · rename_i x ex
    obtain ⟨v, ev, rv⟩ := re.2 i x ex
    refine ⟨v, ev, ha ι X S H σ δ _ rel re (PostS.st re h fun ι1 H1 y S1 u x1 rel1 ru h1 => ?_)⟩
    split at h1
    · rename_i z ez
      exact hf ι1 X S1 H1 x y v u z _ rel1 (rv.ext x1) ru ez fun H2 w x2 rel2 rw2 => h1 ι1 H2 _ x2 rel2 (((re.ext x1).ext x2).set rw2)
    · exact h1.elim
  · exact h.elim
theorem ip_add_ok : ∀ ι X S H x y v u d Q, Rel K ι X S H → RepD K ι X H x v → RepD K ι X H y u → iop (fun i j => dInt (i + j)) yes2 S x y = some d → (∀ H' w, Ext ι H ι H' → Rel K ι X S H' → RepD K ι X H' d w → Q w H') → ipI (fun i j => i + j) v u H Q := by
  intro ι X S H x y v u d Q rel rx ry e k
  unfold iop yes2 at e
  split at e
  · rename_i i j
    rw [if_pos rfl] at e
    cases e
    exact ⟨i, j, rI_inv rx, rI_inv ry, k H _ Ext.refl rel rd_int⟩
  · cases e
end
end M3
namespace M3
open PySem PySem.Spec PyProof.Rows L2
/-! ### == by an own __eq__ -/
def rEqI (K : PySem.W.Frag) (C : Addr) (sp : Sp) : R2 := fun x y H Q => ∃ a dx fs t, x = .ref a ∧ H a = some (.ins C dx fs) ∧ TyX K H y t ∧ PySem.W.notFirst K C t = true ∧ sp [x, y] H Q E0
theorem op_eqI {X : Cx} {C g : Addr} {n j : Nat} {fd : FuncData} {ps : List Str} {sp : Sp} (hs : PySem.W.findIn X.K (.ref C) "__eq__" = some (some (.ref g))) (hf : PySem.W.isFn X.K (.ref g) = true) (F : FnOk X.prog X.w X.K X.mg X.base CX0 n g fd ps sp) (hb : Binds X.K fd ps [])
    (hr : Room j X.A) (hj : n ≤ j) : OpR X (compareOp .Eq) (rEqI X.K C sp) := by
  intro pins s σ H x y v u Q I rx ry h
  obtain ⟨a, dx, fs, t, rfl, ea, ty, hn, q⟩ := h
  cases (show v = Value.ref a from rx)
  obtain ⟨mA, O, _⟩ := ins_get I.hok ea
  obtain ⟨od, J, _⟩ := O.look
  obtain ⟨P, Z, p, hx⟩ := kit_of I ry ty
  obtain ⟨m, hF⟩ := I.fr
  refine PySem.W.cmp_K (op := .Eq) (tb := t) hr.units0 hF I.ok.mod.kin J (Z.ty _ _ I.kIn p) hn hs hf ?_
  refine wpAny_mono (run_fn (us := [.ref a, u]) (vs := [.ref a, y]) F (hr.mono hj) hb .nil pass0 I (.cons rfl (.cons ry .nil)) q) (fun w s' z => ?_) fun _ _ x => x
  obtain ⟨z', H', I', rz, qz⟩ := z
  exact SlX.cmpback rz ⟨z', H', I', rz, qz⟩
/-! ### a new instance, what is raised wished for at the slots -/
def tMakeS (C : Addr) (sp : Sp) (E : L2.St → XK) (t : TA) : TE := fun σ H Q => t σ H fun vs H1 => ∀ x dx, H1 x = none → H1 dx = none → dx ≠ x → sp (.ref x :: vs) (upd (upd H1 dx (.own x)) x (.ins C dx [])) (fun v H2 => v = .non ∧ Q (.ref x) H2) (E σ)
section
variable {X : Cx} {C f : Addr} {k : Nat} {fd : FuncData} {ps : List Str} {sp : Sp} {CX : CXT} {x : Str} {e : Expr} {es : List Expr} {t : TA} {p pos : Pos} {E : L2.St → XK}
theorem pe_makeS (M : Mk X.K C f) (F : FnOk X.prog X.w X.K X.mg X.base CX k f fd ps sp) (hr : Room (k + 1) X.A) (hg : Gl X x) (hm : X.mg x = some (.ref C)) (hb : Binds X.K fd ps []) (hx : ∀ σ, PassesAt CX X σ (E σ))
    (ha : PA X (e :: es) t) (hdb : (x == ("__debug__" : Str)) = false := by decide) (he : starEach (e :: es) X.env = (false, eval e X.env) :: starEach es X.env := by rfl) (hpl : (backTo pos (starEach es X.env)).any (·.1) = false := by rfl) :
    PE X (.Call (.Name x p) (e :: es) [] pos) (tMakeS C sp E t) := by
  refine ⟨fun pins s σ H Q I h => ?_⟩
  refine wpAny_Call_Name_kw (ld_glob I hg hm ?_ hdb)
  refine PySem.W.callWith_K (h₀ := X.base) I.ok.mod.kin M.kp (thn (ha.run pos pins s σ H _ I h) fun us s1 ⟨vs, H1, I1, r, q⟩ => ⟨I1.kIn, ?_⟩) he hpl
  have hq := q (s1.heap.objs.size + 1) s1.heap.objs.size (I1.hok.fresh (Nat.le_succ _)) (I1.hok.fresh (Nat.le_refl _)) (Nat.ne_of_lt (Nat.lt_succ_self _))
  have I2 := Inv.made (C := C) I1
  have r2 : Vals (V.ref (s1.heap.objs.size + 1) :: vs) (Value.ref (s1.heap.objs.size + 1) :: us) := .cons rfl r
  have hl : (Value.ref (s1.heap.objs.size + 1) :: us ++ []).length = ps.length := by
    have e := r2.length
    rw [F.len _ _ _ _ hq] at e
    rw [List.append_nil]
    exact e.symm
  have b := hb _ (Value.ref (s1.heap.objs.size + 1) :: us) I2.kIn hl
  rw [List.append_nil] at b
  refine wpAny_call (make_map (f := f) I1.kIn M.makes M.init (beq_iff_eq.mp M.fn) (codeAny_mono (F.run _ X.stack _ _ ⟨Value.ref (s1.heap.objs.size + 1) :: us, []⟩ (Value.ref (s1.heap.objs.size + 1) :: us) _ _ (E σ) (hr.make C us [])
    (I2.env0.make C us []) b r2 hq) fun r s' hq' => ?_))
  cases r with
  | error e => exact hx σ pins _ _ e s' I2 hq'
  | ok fl =>
    cases fl with
    | ret u =>
      obtain ⟨v, H', I3, rv, ev, q3⟩ := I2.after hq'
      subst ev
      exact ⟨rv, ⟨V.ref (s1.heap.objs.size + 1), H', I3, rfl, q3⟩⟩
    | next => exact False.elim hq'
    | brk => exact False.elim hq'
    | cont => exact False.elim hq'
end

/-! ### attributes -/
/-- attributes that may be read and written -/
def FlOk (K : PySem.W.Frag) (FL : List (Addr × Str)) : Prop := ∀ z ∈ FL, Cls K z.1 ∧ NoAttr K z.1 z.2
def lookD (f : Str) : List (Str × D) → Option D
  | [] => none
  | (g, d) :: l => if f = g then some d else lookD f l
def lookPf (f : Str) : List (Str × P) → Option P
  | [] => none
  | (g, d) :: l => if f = g then some d else lookPf f l
def fldD (FL : List (Addr × Str)) (f : Str) (S : Store) : D → Option D
  | .obj i => match S[i]? with
    | some (.ins C l) => if (C, f) ∈ FL then lookD f l else none
    | _ => none
  | .dat (.ins C l) => if (C, f) ∈ FL then (lookPf f l).map .dat else none
  | _ => none
def mFld (FL : List (Addr × Str)) (f : Str) (a : DE) : DE := fun δ S => (a δ S).bind fun d S1 => oR (fldD FL f S1 d) S1
def putD (f : Str) (d : D) : List (Str × D) → List (Str × D)
  | [] => [(f, d)]
  | (g, x) :: r => if g = f then (g, d) :: r else (g, x) :: putD f d r
section
variable {K : PySem.W.Frag} {W : L2.St → WK} {FL : List (Addr × Str)}
theorem lookup_cons {β : Type} (f g : Str) (v : β) (l : List (Str × β)) : List.lookup f ((g, v) :: l) = if f = g then some v else List.lookup f l := by
  rw [List.lookup]
  by_cases h : f = g
  · rw [if_pos h]
    have : (f == g) = true := by simpa using h
    rw [this]
  · rw [if_neg h]
    have : (f == g) = false := by simpa using h
    rw [this]
theorem lookD_rep {ι X : List Addr} {H : Hp} {f : Str} : ∀ {l : List (Str × D)} {xs : List (Str × V)} {d : D}, RepDF K ι X H l xs → lookD f l = some d → ∃ v, xs.lookup f = some v ∧ RepD K ι X H d v
  | [], xs, d, r, e => by cases e
  | (g, d') :: l, xs, d, ⟨y, ys, ex, h, k⟩, e => by
    unfold lookD at e
    rw [ex, lookup_cons]
    split at e
    · rename_i hfg
      cases e
      exact ⟨y, by rw [if_pos hfg], h⟩
    · rename_i hfg
      obtain ⟨v, h1, h2⟩ := lookD_rep k e
      exact ⟨v, by rw [if_neg hfg]; exact h1, h2⟩
theorem lookPf_rep {ι X : List Addr} {H : Hp} {f : Str} : ∀ {l : List (Str × P)} {xs : List (Str × V)} {d : P}, RepFs K ι X H l xs → lookPf f l = some d → ∃ v, xs.lookup f = some v ∧ RepP K ι X H d v
  | [], xs, d, r, e => by cases e
  | (g, d') :: l, xs, d, r, e => by
    rw [RepFs] at r
    obtain ⟨y, ys, ex, h, k⟩ := r
    unfold lookPf at e
    rw [ex, lookup_cons]
    split at e
    · rename_i hfg
      cases e
      exact ⟨y, by rw [if_pos hfg], h⟩
    · rename_i hfg
      obtain ⟨v, h1, h2⟩ := lookPf_rep k e
      exact ⟨v, by rw [if_neg hfg]; exact h1, h2⟩
theorem fldD_rep {ι X : List Addr} {S : Store} {H : Hp} {f : Str} {x d : D} {v : V} (FO : FlOk K FL) (rel : Rel K ι X S H) (rx : RepD K ι X H x v) (e : fldD FL f S x = some d) :
    ∃ a C dx fs w, v = .ref a ∧ H a = some (.ins C dx fs) ∧ Cls K C ∧ NoAttr K C f ∧ fs.lookup f = some w ∧ RepD K ι X H d w := by
  cases x with
  | obj i =>
    obtain ⟨a, ea, rfl⟩ := rx
    unfold fldD at e
    simp only at e
    cases es : S[i]? with
    | none => rw [es] at e; cases e
    | some o =>
      cases o with
      | lst l => simp only [es] at e; cases e
      | dic l => simp only [es] at e; cases e
      | ins C l =>
        simp only [es] at e
        split at e
        · rename_i m
          obtain ⟨dx, xs, ex, rxs⟩ := rel.at_ i _ a es ea
          obtain ⟨w, ew, rw1⟩ := lookD_rep rxs e
          exact ⟨a, C, dx, xs, w, rfl, ex, (FO _ m).1, (FO _ m).2, ew, rw1⟩
        · cases e
  | dat p =>
    cases p with
    | ins C l =>
      unfold fldD at e
      simp only at e
      split at e
      · rename_i m
        cases q : lookPf f l with
        | none => rw [q] at e; cases e
        | some p =>
          rw [q] at e
          cases e
          have rx : RepP K ι X H (.ins C l) v := rx
          rw [RepP] at rx
          obtain ⟨a, dx, xs, rfl, _, _, ex, rxs⟩ := rx
          obtain ⟨w, ew, rw1⟩ := lookPf_rep rxs q
          exact ⟨a, C, dx, xs, w, rfl, ex, (FO _ m).1, (FO _ m).2, ew, rw1⟩
      · cases e
    | _ => cases e
theorem se_fld {f : Str} {ta : TE} {a : DE} (FO : FlOk K FL) (ha : SE K W ta a) : SE K W (tFld K ta f) (mFld FL f a) := by
  intro ι X S H σ δ Q rel re h
  refine ha ι X S H σ δ _ rel re (Post.bind h fun ι1 H1 x S1 v x1 rel1 rv h1 => ?_)
  obtain ⟨d, e, k⟩ := post_oR h1
  obtain ⟨a, C, dx, fs, w, h1, h2, h3, h4, h5, h6⟩ := fldD_rep FO rel1 rv e
  exact ⟨a, C, dx, fs, w, h1, h2, h3, h4, h5, k H1 w Ext.refl rel1 h6⟩
theorem putD_rep {ι X : List Addr} {H : Hp} {f : Str} {d : D} {v : V} (rd : RepD K ι X H d v) : ∀ {l : List (Str × D)} {xs : List (Str × V)}, RepDF K ι X H l xs → RepDF K ι X H (putD f d l) (putF f v xs)
  | [], xs, r => by
    rw [show xs = [] from r]
    exact ⟨v, [], rfl, rd, rfl⟩
  | (g, d') :: l, xs, ⟨y, ys, ex, h, k⟩ => by
    subst ex
    unfold putD putF
    by_cases hg : g = f
    · rw [if_pos hg, if_pos hg]
      exact ⟨v, ys, rfl, rd, k⟩
    · rw [if_neg hg, if_neg hg]
      exact ⟨y, _, rfl, h, putD_rep rd k⟩
theorem repDF_len {ι X : List Addr} {H : Hp} : ∀ {l : List (Str × D)} {xs : List (Str × V)}, RepDF K ι X H l xs → xs.length = l.length
  | [], xs, r => by rw [show xs = [] from r]; rfl
  | (g, d') :: l, xs, ⟨y, ys, ex, h, k⟩ => by rw [ex, List.length_cons, List.length_cons, repDF_len k]
def setF (FL : List (Addr × Str)) (f : Str) (x d : D) (S : Store) : Option Store := match x with
  | .obj i => match S[i]? with
    | some (.ins C l) => if (C, f) ∈ FL ∧ l.length < 1000 then some (S.set i (.ins C (putD f d l))) else none
    | _ => none
  | _ => none
def mSetF (FL : List (Addr × Str)) (f : Str) (a v : DE) : DS := fun δ S => (v δ S).st δ fun d S1 => (a δ S1).st δ fun x S2 => match setF FL f x d S2 with
  | some S3 => .ok (.nx δ) S3
  | none => .fail
theorem setF_ok {ι X : List Addr} {S S' : Store} {H : Hp} {f : Str} {x d : D} {v w : V} (FO : FlOk K FL) (rel : Rel K ι X S H) (rx : RepD K ι X H x v) (rd : RepD K ι X H d w) (e : setF FL f x d S = some S') :
    ∃ a C dx fs, v = .ref a ∧ H a = some (.ins C dx fs) ∧ Cls K C ∧ NoAttr K C f ∧ fs.length < 1000 ∧ Ext ι H ι (upd H a (.ins C dx (putF f w fs))) ∧ Rel K ι X S' (upd H a (.ins C dx (putF f w fs))) := by
  unfold setF at e
  split at e
  · rename_i i
    obtain ⟨a, ea, rfl⟩ := rx
    cases es : S[i]? with
    | none => rw [es] at e; cases e
    | some o =>
      cases o with
      | lst l => simp only [es] at e; cases e
      | dic l => simp only [es] at e; cases e
      | ins C l =>
        simp only [es] at e
        split at e
        · rename_i m
          cases e
          obtain ⟨dx, xs, ex, rxs⟩ := rel.at_ i _ a es ea
          have ma : a ∈ ι := List.mem_of_getElem? ea
          have o1 : Out1 ι X H ι X (upd H a (.ins C dx (putF f w xs))) := Out1.ext ⟨⟨[], by simp⟩, fun b w n h => by rw [upd_ne (fun z => n (by rw [z]; exact ma))]; exact h, fun b m n => absurd m n⟩
          obtain ⟨r2, x2⟩ := rel.put (o := .ins C (putD f d l)) (u := .ins C dx (putF f w xs)) ea ⟨dx, _, upd_same, (putD_rep rd rxs).out o1⟩
          exact ⟨a, C, dx, xs, rfl, ex, (FO _ m.1).1, (FO _ m.1).2, by rw [repDF_len rxs]; exact m.2, x2, r2⟩
        · cases e
  · cases e
theorem ss_setF {f : Str} {ta tv : TE} {a v : DE} (FO : FlOk K FL) (ha : SE K W ta a) (hv : SE K W tv v) : SS K W (sFld K ta tv f) (mSetF FL f a v) := by
  intro ι X S H σ δ E rel re h
  refine hv ι X S H σ δ _ rel re (PostS.st re h fun ι1 H1 d S1 w x1 rel1 rd h1 => ?_)
  refine ha ι1 X S1 H1 σ δ _ rel1 (re.ext x1) (PostS.st (re.ext x1) h1 fun ι2 H2 x S2 u x2 rel2 rx h2 => ?_)
  cases q : setF FL f x d S2 with
  | none => simp only [q] at h2; exact h2.elim
  | some S3 =>
    simp only [q] at h2
    obtain ⟨a, C, dx, fs, e1, e2, e3, e4, e5, x3, rel3⟩ := setF_ok FO rel2 rx (rd.ext x2) q
    exact ⟨a, C, dx, fs, e1, e2, e3, e4, e5, h2 ι2 _ σ x3 rel3 (((re.ext x1).ext x2).ext x3)⟩
/-- the class of an object -/
def clsO (S : Store) : D → Option Addr
  | .obj i => match S[i]? with
    | some (.ins C _) => some C
    | _ => none
  | _ => none
theorem clsO_rep {ι X : List Addr} {S : Store} {H : Hp} {a C dx : Addr} {fs : List (Str × V)} {i : Nat} (rel : Rel K ι X S H) (rx : RepD K ι X H (.obj i) (.ref a)) (e : H a = some (.ins C dx fs)) : clsO S (.obj i) = some C := by
  obtain ⟨b, eb, ev⟩ := rx
  cases ev
  obtain ⟨o, eo, ro⟩ := rel.obj eb
  unfold clsO
  simp only [eo]
  cases o with
  | lst l => obtain ⟨xs, f, _⟩ := ro; rw [e] at f; cases f
  | dic l => obtain ⟨xs, f, _⟩ := ro; rw [e] at f; cases f
  | ins C' l => obtain ⟨dx', xs, f, _⟩ := ro; rw [e] at f; cases f; rfl
/-- o.f op= e -/
def mAugF (FL : List (Addr × Str)) (f : Str) (g : Store → D → D → Option D) (a v : DE) : DS := fun δ S => (a δ S).st δ fun x S1 => match fldD FL f S1 x with
  | some old => (v δ S1).st δ fun y S2 => (match g S2 old y with
    | some z => (match setF FL f x z S2 with
      | some S3 => if clsO S1 x = clsO S2 x then .ok (.nx δ) S3 else .fail
      | none => .fail)
    | none => .fail)
  | none => .fail
theorem ss_augF {f : Str} {ta tv : TE} {g : Store → D → D → Option D} {a v : DE} {rd : V → V → Hp → VK → Prop} (FO : FlOk K FL)
    (hg : ∀ ι X S H x y v u d Q, Rel K ι X S H → RepD K ι X H x v → RepD K ι X H y u → g S x y = some d → (∀ w, RepD K ι X H d w → Q w H) → rd v u H Q) (ha : SE K W ta a) (hv : SE K W tv v) : SS K W (sFldAug K ta tv rd f) (mAugF FL f g a v) := by
  intro ι X S H σ δ E rel re h
  refine ha ι X S H σ δ _ rel re (PostS.st re h fun ι1 H1 x S1 u x1 rel1 rx h1 => ?_)
  cases q : fldD FL f S1 x with
  | none => simp only [q] at h1; exact h1.elim
  | some old =>
    simp only [q] at h1
    obtain ⟨a, C, dx, fs, w, e1, e2, e3, e4, e5, r6⟩ := fldD_rep FO rel1 rx q
    refine ⟨a, C, dx, fs, w, e1, e2, e3, e4, e5, ?_⟩
    refine hv ι1 X S1 H1 σ δ _ rel1 (re.ext x1) (PostS.st (re.ext x1) h1 fun ι2 H2 y S2 t x2 rel2 ry h2 => ?_)
    split at h2
    · rename_i z ez
      split at h2
      · rename_i S3 eS
        refine hg ι2 X S2 H2 old y w t z _ rel2 (r6.ext x2) ry ez fun zv rz => ?_
        obtain ⟨a', C', dx', fs', e1', e2', e3', e4', e5', x3, rel3⟩ := setF_ok FO rel2 (rx.ext x2) rz eS
        have ea : a' = a := by rw [e1] at e1'; cases e1'; rfl
        subst ea
        split at h2
        · rename_i hc
          -- of the same class
          have eC : C' = C := by
            cases x with
            | dat p => unfold setF at eS; cases eS
            | obj i =>
              subst e1
              have q1 := clsO_rep rel1 rx e2
              have q2 := clsO_rep rel2 (rx.ext x2) e2'
              rw [q1, q2] at hc
              exact (Option.some.inj hc).symm
          subst eC
          exact ⟨dx', fs', e2', e5', h2 ι2 _ σ x3 rel3 (((re.ext x1).ext x2).ext x3)⟩
        · exact h2.elim
      · exact h2.elim
    · exact h2.elim
/-! ### raise, try -/
def mRaise0 (C : Addr) : DS := fun δ S => .ok (.ex C none δ) S
def mRaise1 (C : Addr) (f : Str) (a : DA) : DS := fun δ S => (a δ S).st δ fun ds S1 => match ds with
  | [.dat p] => .ok (.ex C (some (f, p)) δ) S1
  | _ => .fail
theorem ss_raise0 {C : Addr} {W : WX} : SS K (wk W) (fun _ σ H => W (.ref C) none σ H) (mRaise0 C) := fun ι X S H σ δ E rel re h => h ι H none σ Ext.refl rel rfl re
theorem ss_raise1 {C : Addr} {f : Str} {W : WX} {ta : TA} {a : DA} (ha : SA K (wk W) ta a) : SS K (wk W) (fun _ σ H => ta σ H fun vs H1 => ∃ v, vs = [v] ∧ ∀ d, H1 d = none → W (.ref C) (some d) σ (upd H1 d (.xd [(f, v)]))) (mRaise1 C f a) := by
  intro ι X S H σ δ E rel re h
  refine ha ι X S H σ δ _ rel re (PostS.st re h fun ι1 H1 ds S1 vs x1 rel1 rv h1 => ?_)
  split at h1
  · rename_i p
    obtain ⟨v, rfl, r⟩ := repDs_one rv
    refine ⟨v, rfl, fun d hd => ?_⟩
    have x2 := ext_alloc (o := .xd [(f, v)]) rel1 hd
    exact h1 ι1 _ (some d) σ x2 (rel1.alloc hd) ⟨d, v, rfl, upd_same, RepP.ext x2 r⟩ ((re.ext x1).ext x2)
  · exact h1.elim
/-- a statement that was handed a result -/
def noEx (r : R Out) : R Out := match r with
  | .ok (.ex _ _ _) _ => .fail
  | r => r
def mTryOnly (K : PySem.W.Frag) (c : Value) (b h : DS) : DS := fun δ S => match b δ S with
  | .ok (.ex C x δ1) S1 => (match PySem.W.exmOne K (.ref C) c with
    | some true => noEx (h δ1 S1)
    | some false => .ok (.ex C x δ1) S1
    | none => .fail)
  | r => r
theorem PostS.noEx {X ι : List Addr} {H : Hp} {r : R Out} {E : Ends} (h : PostS K W X ι H (noEx r) E) : PostS K WF X ι H r E := by
  cases r with
  | fail => exact h
  | exc C x S => exact h
  | ok o S => cases o with
    | ex C x δ => exact h.elim
    | nx δ => exact h
    | bk δ => exact h
    | ct δ => exact h
    | rt d => exact h
theorem ss_tryOnly {c : Value} {tb : WX → TS} {ts : Addr → Value → Option Addr → TS} {Wout : WX} {b h : DS} (hb : ∀ W' : WX, SS K (wk W') (tb W') b) (hh : ∀ a cls d, SS K WF (ts a cls d) h) :
    SS K (wk Wout) (fun D σ H => tb (wOnly K c ts Wout D) D σ H) (mTryOnly K c b h) := by
  intro ι X S H σ δ E rel re hp
  refine hb _ ι X S H σ δ E rel re ?_
  unfold mTryOnly at hp
  cases e : b δ S with
  | fail => rw [e] at hp; exact hp
  | exc C x S1 => rw [e] at hp; exact hp
  | ok o S1 =>
    rw [e] at hp
    cases o with
    | nx δ1 => exact hp
    | bk δ1 => exact hp
    | ct δ1 => exact hp
    | rt d => exact hp
    | ex C x δ1 =>
      simp only at hp
      intro ι1 H1 da σ1 x1 rel1 rx re1
      cases q : PySem.W.exmOne K (.ref C) c with
      | none => rw [q] at hp; exact hp.elim
      | some bb =>
        rw [q] at hp
        refine ⟨bb, q, fun eb a ha => ?_, fun eb => ?_⟩
        · subst eb
          exact hh a _ da ι1 X S1 H1 σ1 δ1 _ rel1 re1 (PostS.noEx (PostS.ext x1 hp))
        · subst eb
          exact hp ι1 H1 da σ1 x1 rel1 rx re1
end
end M3
namespace M3
open PySem PySem.Spec PyProof.Rows L2
section
variable {X : Cx} {K : PySem.W.Frag} {W : L2.St → WK} {CS : List Addr}
/-! ### rules that name K -/
theorem call_allM (h : X.K = K) (hc : X.calm = true) : CallR X (.builtin "all") (rAll K) := h ▸ cr_all hc
theorem call_anyM (h : X.K = K) (hc : X.calm = true) : CallR X (.builtin "any") (rAny K) := h ▸ cr_any hc
theorem call_sumM (h : X.K = K) (hc : X.calm = true) : CallR X (.builtin "sum") (rSum K) := h ▸ cr_sum hc
theorem mt_indexM (h : X.K = K) : MtR X "list.index" (fun x xs H Q => rIndex K x xs H Q) := h ▸ mt_index
theorem mt_countM (h : X.K = K) : MtR X "list.count" (fun x xs H Q => rCntI K x xs H Q) := h ▸ mt_lcount
theorem mt_insertM : MtR X "list.insert" rInsM := mt_insert
theorem get_K (h : X.K = K) : PGet X (rGetK K) := W2.get_listK h
theorem pe_revLK {e : Expr} {te : TE} {k : Nat} {p1 p2 p3 pos : Pos} (h : X.K = K) (he : PE X e te) : PE X (.Subscript e (.Slice none none (some (.UnaryOp .USub (.Constant (.int 1) k p1) p2)) p3) pos) (tRevL K te) := h ▸ pe_revL he
theorem pe_fldK {f : Str} {e : Expr} {te : TE} {pos : Pos} (h : X.K = K) (ha : PE X e te) (hb : attributeBase e f X.env (eval e X.env) = eval e X.env := by rfl) : PE X (.Attribute e f pos) (tFld K te f) := h ▸ pe_fld ha hb
theorem pe_bmK {o e : Expr} {es : List Expr} {to : TE} {t : TA} {name : Str} {apos cpos : Pos} {T id : String} {r : V → List V → Hp → VK → Prop} (h : X.K = K) (pa : PlainAttrs T) (slot : Slot T name id) (hty : typeOf (.builtin id) = pure (.type "method_descriptor")) (hm : MtR X id r) (ho : PE X o to) (ha : PA X (e :: es) t)
    (hbase : attributeBase o name X.env (eval o X.env) = eval o X.env := by rfl)
    (hfew : ((backTo cpos (starEach (e :: es) X.env)).all (fun x => !x.1) && (backToKw cpos (keywordEach [] X.env)).all (fun x => x.1.isSome)
      && decide ((e :: es).length + ([] : List Keyword).length + (if ([] : List Keyword).isEmpty then 0 else 1) < 30)) = true := by rfl)
    (hline : (apos.endLine == cpos.line) = true := by rfl) (hs : starEach (e :: es) X.env = (false, eval e X.env) :: starEach es X.env := by rfl) (hplain : (backTo cpos (starEach es X.env)).any (·.1) = false := by rfl) :
    PE X (.Call (.Attribute o name apos) (e :: es) [] cpos) (tBM K T r to t) := h ▸ pe_bm pa slot hty hm ho ha hbase hfew hline hs hplain
theorem pe_bm0K {o : Expr} {to : TE} {name : Str} {apos cpos : Pos} {T id : String} {r : V → List V → Hp → VK → Prop} (h : X.K = K) (pa : PlainAttrs T) (slot : Slot T name id) (hty : typeOf (.builtin id) = pure (.type "method_descriptor")) (hm : MtR X id r) (ho : PE X o to)
    (hbase : attributeBase o name X.env (eval o X.env) = eval o X.env := by rfl) (hline : (apos.endLine == cpos.line) = true := by rfl) : PE X (.Call (.Attribute o name apos) [] [] cpos) (tBM0 K T r to) := h ▸ pe_bm0 pa slot hty hm ho hbase hline
/-! ### bit_length -/
def aBits : Store → D → Option D := fun _ x => match x with
  | .dat (.int i) => some (dInt (Builtin.Int.intBits i : Nat))
  | _ => none
theorem se_bits {to : TE} {a : DE} (ha : SE K W to a) : SE K W (tBits to) (mUn aBits a) := by
  intro ι X S H σ δ Q rel re h
  refine ha ι X S H σ δ _ rel re (Post.bind h fun ι1 H1 x S1 v x1 rel1 rv h1 => ?_)
  obtain ⟨d, e, k⟩ := post_oR h1
  unfold aBits at e
  split at e
  · cases e
    exact ⟨_, rI_inv rv, k H1 _ Ext.refl rel1 rd_int⟩
  · cases e
/-! ### isinstance of a tuple of classes -/
theorem se_isiT {te : TE} {ta : TA} {a : DE} {b : DA} (O : OwnCs K CS) (ha : SE K W te a) (hb : SA K W ta b) : SE K W (tCB (rIsiTM K) (tCons te (tCons (tTup ta) tNil))) (mCall (aIsiT K CS) (mCons a (mCons (mTup b) mNil))) := by
  intro ι X S H σ δ Q rel re h
  refine ha ι X S H σ δ _ rel re ?_
  unfold mCall mCons mNil mTup at h
  cases e : a δ S with
  | fail => rw [e] at h; exact h
  | exc C x S1 => rw [e] at h; exact h
  | ok d S1 =>
    rw [e, R.bind_ok] at h
    intro ι1 H1 v x1 rel1 rv
    refine hb ι1 X S1 H1 σ δ _ rel1 (re.ext x1) ?_
    cases e2 : b δ S1 with
    | fail => rw [e2] at h; exact h
    | exc C x S2 => rw [e2] at h; exact (fun ι' H' da x rel rx => h ι' H' da (x1.trans x) rel rx)
    | ok cs S2 =>
      rw [e2, R.bind_ok] at h
      intro ι2 H2 us x2 rel2 rus
      cases q : datAll cs with
      | none => simp only [q] at h; exact h.elim
      | some ps =>
        simp only [q] at h
        by_cases hl : ps.length ≤ 100000
        · rw [if_pos hl] at h
          have rp := datAll_rep q rus
          refine ⟨small (by rw [repPs_len rp]; exact hl), fun p hp => ?_⟩
          simp only [R.bind_ok] at h
          cases q2 : aIsiT K CS S2 [d, .dat (.tup ps)] with
          | none => rw [q2] at h; exact h.elim
          | some r =>
            rw [q2] at h
            have xa := ext_alloc (o := .tup us) rel2 hp
            have ra := rel2.alloc (o := .tup us) hp
            unfold aIsiT at q2
            simp only at q2
            split at q2
            · rename_i t ws e3 e4
              cases q5 : PySem.W.kitAny K t ws with
              | none => rw [q5] at q2; cases q2
              | some bb =>
                rw [q5] at q2
                cases q2
                refine ⟨v, p, us, t, ws, bb, rfl, upd_same, clssD_rep e4 rp, tyD_rep O ra e3 ((rv.ext x2).ext xa), q5, ?_⟩
                exact h ι2 _ _ ((x1.trans x2).trans xa) ra rd_bl
            · cases q2
        · rw [if_neg hl] at h
          exact h.elim
end
section
variable {K : PySem.W.Frag} {W : L2.St → WK}
/-! ### new lists by + and * -/
def mAddL (a b : DE) : DA := fun δ S => (a δ S).bind fun x S1 => (b δ S1).bind fun y S2 => match listD S2 x, listD S2 y with
  | some l, some k => if l.length + k.length ≤ 100000 then .ok (l ++ k) S2 else .fail
  | _, _ => .fail
theorem sl_addL {ta tb : TE} {a b : DE} (ha : SE K W ta a) (hb : SE K W tb b) : SL K W (tOp (rAddM K) ta tb) (mAddL a b) := by
  intro ι X S H σ δ Q rel re h
  refine ha ι X S H σ δ _ rel re (postL_of h fun ι1 H1 x S1 v x1 rel1 rv h1 => ?_)
  refine hb ι1 X S1 H1 σ δ _ rel1 (re.ext x1) ?_
  cases e : b δ S1 with
  | fail => rw [e] at h1; exact h1
  | exc C z S2 => rw [e] at h1; exact fun ι' H' da y rel rx => h1 ι' H' da (x1.trans y) rel rx
  | ok y S2 =>
    rw [e, R.bind_ok] at h1
    intro ι2 H2 u x2 rel2 ru
    split at h1
    · rename_i l k e1 e2
      split at h1
      · rename_i hl
        obtain ⟨p, xs, rfl, f, g⟩ := listD_rep rel2 e1 (rv.ext x2)
        obtain ⟨q, ys, rfl, f2, g2⟩ := listD_rep rel2 e2 ru
        exact .inr (.inr (.inr ⟨p, q, xs, ys, rfl, rfl, f, f2, small (by rw [repDs_len g, repDs_len g2]; exact hl), fun r hr => newL (x1.trans x2) rel2 (repDs_app g g2) h1 hr⟩))
      · exact h1.elim
    · exact h1.elim
def repD (n : Nat) (l : List D) : List D := (List.replicate n l).flatten
theorem repD_rep {ι X : List Addr} {H : Hp} {l : List D} {xs : List V} (r : RepDs K ι X H l xs) : ∀ n, RepDs K ι X H (repD n l) (List.replicate n xs).flatten
  | 0 => rfl
  | n + 1 => by
    unfold repD
    rw [List.replicate_succ, List.flatten_cons, List.replicate_succ, List.flatten_cons]
    exact repDs_app r (repD_rep r n)
def mMulL (a b : DE) : DA := fun δ S => (a δ S).bind fun x S1 => (b δ S1).bind fun y S2 => match listD S2 x, y with
  | some l, .dat (.int j) => if j ≤ 1000000 ∧ 0 ≤ j ∧ l.length * j.toNat ≤ 100000 then .ok (repD j.toNat l) S2 else .fail
  | _, _ => .fail
theorem sl_mulL {ta tb : TE} {a b : DE} (ha : SE K W ta a) (hb : SE K W tb b) : SL K W (tOp (rMulM K) ta tb) (mMulL a b) := by
  intro ι X S H σ δ Q rel re h
  refine ha ι X S H σ δ _ rel re (postL_of h fun ι1 H1 x S1 v x1 rel1 rv h1 => ?_)
  refine hb ι1 X S1 H1 σ δ _ rel1 (re.ext x1) ?_
  cases e : b δ S1 with
  | fail => rw [e] at h1; exact h1
  | exc C z S2 => rw [e] at h1; exact fun ι' H' da y rel rx => h1 ι' H' da (x1.trans y) rel rx
  | ok y S2 =>
    rw [e, R.bind_ok] at h1
    intro ι2 H2 u x2 rel2 ru
    split at h1
    · rename_i l j e1
      split at h1
      · rename_i hl
        obtain ⟨p, xs, rfl, f, g⟩ := listD_rep rel2 e1 (rv.ext x2)
        exact .inr (.inl ⟨p, j, xs, rfl, rI_inv ru, f, by omega, by omega, small (by rw [repDs_len g]; exact hl.2.2), fun r hr => newL (x1.trans x2) rel2 (repD_rep g _) h1 hr⟩)
      · exact h1.elim
    · exact h1.elim
def aAddI := iop (fun i j => dInt (i + j)) yes2
theorem in_add_ok : ∀ ι X S H x y v u d Q, Rel K ι X S H → RepD K ι X H x v → RepD K ι X H y u → aAddI S x y = some d → (∀ w, RepD K ι X H d w → Q w H) → rAdd v u H Q := by
  intro ι X S H x y v u d Q rel rx ry e k
  unfold aAddI iop yes2 at e
  split at e
  · rename_i i j
    rw [if_pos rfl] at e
    cases e
    exact ⟨i, j, rI_inv rx, rI_inv ry, k _ rd_int⟩
  · cases e
end
/-! ### what a law's text gives: the written part, the classes, the attributes -/
structure G where
  K : PySem.W.Frag
  CS : List Addr
  FL : List (Addr × Str)
  (ForestError BadForest NoHouse NoDeed BadDeeds NoNumber NoAsk NoShape NoTurn BadAccount NoMoment NoWeight Full BadHistory NoParcel NoRow BadRow NoCut NoBlocks NoDisk OtherForest NoThing BadThing BadText NothingDone NoLine NoName : Addr)
  (Forest Stand Kept Account Roads History Disk SavedKept Reel Work Desk : Addr)
  (FORMS FLAGS OF_FORESTS OF_ACCOUNTS : Addr)
end M3
namespace M3
open PySem PySem.Spec PyProof.Rows L2
/-! ### x is True, x is False, whatever x is -/
def rIsBo : R2 := fun x y H Q => ∃ b : Bool, y = .bl b ∧ Q (.bl (decide (x = .bl b))) H
theorem op_isB {X : Cx} : OpR X (compareOp .Is) rIsBo := by
  intro pins s σ H x y v u Q I rx ry h
  obtain ⟨b, rfl, q⟩ := h
  cases (show u = Value.bool b from ry)
  by_cases e : x = .bl b
  · subst e
    cases (show v = Value.bool b from rx)
    exact wpAny_is_self rfl ⟨.bl true, H, I, rfl, by simpa using q⟩
  · have nv : v ≠ Value.bool b := fun z => e (rx.inj (show RelV (.bl b) v from z))
    have q' : Q (.bl false) H := by rw [decide_eq_false e] at q; exact q
    cases x with
    | non => cases (show v = Value.none from rx); exact wpAny_is_other rfl (fun z => nomatch z) ⟨.bl false, H, I, rfl, q'⟩
    | bl a => cases (show v = Value.bool a from rx); exact wpAny_is_other rfl nv ⟨.bl false, H, I, rfl, q'⟩
    | int i => obtain ⟨t, rfl⟩ := rx; exact wpAny_is_other rfl nv ⟨.bl false, H, I, rfl, q'⟩
    | str i => obtain ⟨t, rfl⟩ := rx; exact wpAny_is_other rfl nv ⟨.bl false, H, I, rfl, q'⟩
    | byt i => obtain ⟨t, rfl⟩ := rx; exact wpAny_is_other rfl nv ⟨.bl false, H, I, rfl, q'⟩
    | flt i => obtain ⟨t, rfl⟩ := rx; exact wpAny_is_other rfl nv ⟨.bl false, H, I, rfl, q'⟩
    | ref a => cases (show v = Value.ref a from rx); exact wpAny_is_other rfl nv ⟨.bl false, H, I, rfl, q'⟩
    | ty n => cases (show v = Value.type n from rx); exact wpAny_is_other rfl nv ⟨.bl false, H, I, rfl, q'⟩
section
variable {K : PySem.W.Frag}
def isB (b : Bool) : D → Option Bool
  | .dat (.bl c) => some (decide (c = b))
  | .dat (.con _) => none
  | _ => some false
def aIsB : Store → D → D → Option D := fun _ x y => match y with
  | .dat (.bl b) => (isB b x).map dBl
  | _ => none
theorem isB_ok {ι X : List Addr} {H : Hp} {x : D} {v : V} {b c : Bool} (r : RepD K ι X H x v) (e : isB b x = some c) : decide (v = .bl b) = c := by
  cases x with
  | obj i =>
    obtain ⟨a, _, rfl⟩ := r
    cases e
    rfl
  | dat p =>
    have r : RepP K ι X H p v := r
    cases p <;> rw [RepP] at r
    · cases e; rw [r]; rfl
    · cases e
      rw [r]
      rename_i d _
      by_cases h : d = b
      · rw [h]; simp
      · rw [decide_eq_false h]; exact decide_eq_false fun z => h (by cases z; rfl)
    · cases e; rw [r]; rfl
    · cases e; rw [r]; rfl
    · cases e; obtain ⟨a, xs, rfl, _⟩ := r; rfl
    · cases e; obtain ⟨a, xs, rfl, _⟩ := r; rfl
    · cases e; obtain ⟨a, xs, rfl, _⟩ := r; rfl
    · cases e; obtain ⟨a, dx, xs, rfl, _⟩ := r; rfl
    · cases e
    · cases e; obtain ⟨a, rfl, _⟩ := r; rfl
theorem isB_okR : R2S K rIsBo aIsB := by
  intro ι X S H x y v u d Q rel rx ry e k
  unfold aIsB at e
  split at e
  · rename_i b
    cases q : isB b x with
    | none => rw [q] at e; cases e
    | some c =>
      rw [q] at e
      cases e
      refine ⟨b, rB_inv ry, ?_⟩
      rw [isB_ok rx q]
      exact k H _ Ext.refl rel rd_bl
  · cases e
/-! ### shifts -/
def aShl := iop (fun i j => dInt (i * 2 ^ j.toNat)) fun i j => decide (0 ≤ j) && (decide (j ≤ 1000000) && decide (i.natAbs < 2 ^ 64))
theorem shl_ok : R2S K (rI CPow fun i j => .int (i * 2 ^ j.toNat)) aShl := iop_ok (fun _ _ h => by
  rw [Bool.and_eq_true, Bool.and_eq_true] at h
  exact ⟨of_decide_eq_true h.1, of_decide_eq_true h.2.1, of_decide_eq_true h.2.2⟩) fun _ _ _ _ _ => rd_int
def aShr := iop (fun i j => dInt (i / 2 ^ j.toNat)) fun _ j => decide (0 ≤ j)
theorem shr_ok : R2S K (rI (fun _ j => 0 ≤ j) fun i j => .int (i / 2 ^ j.toNat)) aShr := iop_ok (fun _ _ h => of_decide_eq_true h) fun _ _ _ _ _ => rd_int
def aAndI := iop (fun i j => dInt (Builtin.bitAnd i j)) yes2
theorem andI_ok : R2S K (rI0 fun i j => .int (Builtin.bitAnd i j)) aAndI := iop0_ok fun _ _ _ _ _ => rd_int
end
/-! ### attributes as targets -/
def gFldM (K : PySem.W.Frag) (ta : TE) (f : Str) : TG := fun v σ H Q => ta σ H fun x H2 => ∃ a C dx fs, x = .ref a ∧ H2 a = some (.ins C dx fs) ∧ Cls K C ∧ NoAttr K C f ∧ fs.length < 1000 ∧ Q σ (upd H2 a (.ins C dx (putF f v fs)))
theorem pg_fldK {X : Cx} {K : PySem.W.Frag} {o : Expr} {f : Str} {pos : Pos} {ta : TE} (hK : X.K = K) (ha : PE X o ta) : PG X (.Attribute o f pos) (gFldM K ta f) := by
  subst hK
  refine ⟨fun pins s σ H v u Q I r h => ?_⟩
  rw [assign_Attribute]
  refine wpAny_bind (wpAny_holding (thn (ha.run pins s σ H _ I h) fun ov s1 ⟨x, H1, I1, rx, a, C, dx, fs, ex, ea, c, n, l, q⟩ => ?_))
  subst ex
  obtain rfl : ov = Value.ref a := rx
  refine wpAny_bind (wpAny_standAt (wpAny_bind (wpAny_holding ?_)))
  refine setattr_ok I1 ea c n l r fun s3 I3 => ?_
  exact wpAny_release ⟨σ, _, I3, q⟩
section
variable {K : PySem.W.Frag} {W : L2.St → WK} {FL : List (Addr × Str)}
def gmFld (FL : List (Addr × Str)) (f : Str) (a : DE) : DG := fun d δ S => (a δ S).bind fun x S1 => match setF FL f x d S1 with
  | some S2 => .ok δ S2
  | none => .fail
theorem sg_fld {f : Str} {ta : TE} {a : DE} (FO : FlOk K FL) (ha : SE K W ta a) : SG K W (gFldM K ta f) (gmFld FL f a) := by
  intro ι X S H σ δ d w N rel re rd h
  refine ha ι X S H σ δ _ rel re (Post.bind h fun ι1 H1 x S1 v x1 rel1 rv h1 => ?_)
  cases q : setF FL f x d S1 with
  | none => simp only [q] at h1; exact h1.elim
  | some S2 =>
    simp only [q] at h1
    obtain ⟨a, C, dx, fs, e1, e2, e3, e4, e5, x2, rel2⟩ := setF_ok FO rel1 rv (rd.ext x1) q
    exact ⟨a, C, dx, fs, e1, e2, e3, e4, e5, h1 ι1 _ σ x2 rel2 ((re.ext x1).ext x2)⟩
end
/-! ### a new instance within a comprehension -/
section
variable {X : Cx} {C f : Addr} {k j : Nat} {fd : FuncData} {ps : List Str} {sp : Sp} {x : Str} {e : Expr} {es : List Expr} {t : TA} {p pos : Pos}
theorem pe_makeF (M : Mk X.K C f) (F : FnOk X.prog X.w X.K X.mg X.base (L2.CX X.prog X.w) k f fd ps sp) (hr : Room (k + 1) X.A) (hg : Gl X x) (hm : X.mg x = some (.ref C)) (hb : Binds X.K fd ps [])
    (ha : PA X (e :: es) t) (hdb : (x == ("__debug__" : Str)) = false := by decide) (he : starEach (e :: es) X.env = (false, eval e X.env) :: starEach es X.env := by rfl) (hpl : (backTo pos (starEach es X.env)).any (·.1) = false := by rfl) :
    PE X (.Call (.Name x p) (e :: es) [] pos) (tMakeS C sp (fun _ => E0) t) := pe_makeS M F hr hg hm hb (fun _ pins H s e s' _ ⟨_, _, _, _, _, _, _, _, _, _, _, _, h⟩ => h.elim) ha hdb he hpl
end
end M3
namespace M3
open PySem PySem.Spec PyProof.Rows L2
/-! ### the end -/
inductive AllM {α : Type} (p : α → Prop) : List α → Prop
  | nil : AllM p []
  | cons {a : α} {l : List α} (h : p a) (t : AllM p l) : AllM p (a :: l)
theorem AllM.mem {α : Type} {p : α → Prop} {l : List α} (h : AllM p l) : ∀ a ∈ l, p a := by
  induction h with
  | nil => exact fun _ m => nomatch m
  | cons h t ih =>
    intro a m
    cases m with
    | head => exact h
    | tail _ m => exact ih a m
theorem ownCs_mk {K : PySem.W.Frag} {l : List Addr} (h : AllM (OwnC K) l) : OwnCs K l := h.mem
theorem flOk_mk {K : PySem.W.Frag} {l : List (Addr × Str)} (h : AllM (fun z => Cls K z.1 ∧ NoAttr K z.1 z.2) l) : FlOk K l := h.mem
/-- an error of the class at S, and what «except D» names -/
theorem exm_ab {K : PySem.W.Frag} {S D : Addr} (b : Bool) (h1 : PySem.W.subIn K (.ref D) (.type "BaseException") = some true) (h2 : PySem.W.isClsIn K D = true) (h3 : PySem.W.typeIn K (.ref D) = some (.type "type")) (h4 : PySem.W.subIn K (.ref S) (.ref D) = some b) :
    PySem.W.exmOne K (.ref S) (.ref D) = some b := by
  have e1 : (PySem.W.subIn K (.ref D) (.type "BaseException") == some true) = true := by rw [h1] <;> rfl
  have e2 : ((PySem.W.clsIn K D).isSome && PySem.W.typeIn K (.ref D) == some (.type "type")) = true := by
    have h2' : (PySem.W.clsIn K D).isSome = true := h2
    rw [h2', h3] <;> rfl
  show (if (PySem.W.subIn K (.ref D) (.type "BaseException") == some true) = true then (if ((PySem.W.clsIn K D).isSome && PySem.W.typeIn K (.ref D) == some (.type "type")) = true then PySem.W.subIn K (.ref S) (.ref D) else none) else none) = some b
  rw [if_pos e1, if_pos e2]
  exact h4
/-- what the law promises -/
def spLaw (K : PySem.W.Frag) : Sp := fun vs H Q _ => ∃ (a : Addr) (ns : List Int), vs = [.ref a] ∧ SqL K H a (ns.map V.int) ∧ ns.length ≤ 63 ∧ ∀ H', Q (.bl true) H'
theorem law_sp {K : PySem.W.Frag} {m : List D → Store → R D} (h : ∀ ns : List Int, ns.length ≤ 63 → ∃ S, m [.dat (.scr ns)] [] = .ok (.dat (.bl true)) S) : ∀ vs H Q E, spLaw K vs H Q E → spM K 1 m vs H Q E := by
  rintro vs H Q E ⟨a, ns, rfl, hs, hl, hq⟩
  obtain ⟨S, e⟩ := h ns hl
  refine ⟨rfl, [], [], [], [.dat (.scr ns)], ⟨rfl, List.nodup_nil, fun i o a e => by simp at e, fun a m => by simp at m⟩, ?_, ?_⟩
  · refine ⟨.ref a, [], rfl, ?_, rfl⟩
    show RepP K [] [] H (.scr ns) _
    rw [RepP]
    refine ⟨a, rfl, hs.imp (fun x => ⟨by simp, by simp, x⟩) id⟩
  · rw [e]
    intro ι' H' v _ _ rv
    have := rB_inv rv
    rw [this]
    exact hq H'
end M3
namespace M3
open PySem PySem.Spec PyProof.Rows L2
/-! ### running functions of data -/
theorem R.bind_congr {α β : Type} {r r' : R α} (f : α → Store → R β) (h : r = r') : r.bind f = r'.bind f := by rw [h]
theorem R.bnf_congr {α β : Type} {r r' : R α} (f : α → Store → R β) (h : r = r') : r.bnf f = r'.bnf f := by rw [h]
theorem R.st_congr {α : Type} {r r' : R α} (δ : DEnv) (f : α → Store → R Out) (h : r = r') : r.st δ f = r'.st δ f := by rw [h]

/-- the end of a def -/
def fin (r : R Out) : R D := match r with
  | .ok (.nx _) S' => .ok (.dat .non) S'
  | .ok (.rt d) S' => .ok d S'
  | .ok (.ex C x _) S' => .exc C x S'
  | _ => .fail
theorem mBody_fin {N : Nat} {b : DS} {ds : List D} {S : Store} : mBody N b ds S = fin (b (ds.map some ++ List.replicate (N - ds.length) none) S) := rfl
theorem fin_nx {δ : DEnv} {S : Store} : fin (.ok (.nx δ) S) = .ok (.dat .non) S := rfl
theorem fin_rt {d : D} {S : Store} : fin (.ok (.rt d) S) = .ok d S := rfl
theorem fin_ex {C : Addr} {x : Option (Str × P)} {δ : DEnv} {S : Store} : fin (.ok (.ex C x δ) S) = .exc C x S := rfl
/-- one statement, then the rest -/
def thenS (r : R Out) (b : DS) : R Out := match r with
  | .ok (.nx δ1) S1 => b δ1 S1
  | r => r
theorem mSeq_then {a b : DS} {δ : DEnv} {S : Store} : mSeq a b δ S = thenS (a δ S) b := rfl
theorem then_nx {δ : DEnv} {S : Store} {b : DS} : thenS (.ok (.nx δ) S) b = b δ S := rfl
theorem then_rt {d : D} {S : Store} {b : DS} : thenS (.ok (.rt d) S) b = .ok (.rt d) S := rfl
theorem then_bk {δ : DEnv} {S : Store} {b : DS} : thenS (.ok (.bk δ) S) b = .ok (.bk δ) S := rfl
theorem then_ct {δ : DEnv} {S : Store} {b : DS} : thenS (.ok (.ct δ) S) b = .ok (.ct δ) S := rfl
theorem then_ex {C : Addr} {x : Option (Str × P)} {δ : DEnv} {S : Store} {b : DS} : thenS (.ok (.ex C x δ) S) b = .ok (.ex C x δ) S := rfl
theorem thenS_congr {r r' : R Out} (b : DS) (h : r = r') : thenS r b = thenS r' b := by rw [h]

/-- which way -/
def pick2 {α : Type} (x : Bool) (a b : α) : α := match x with
  | true => a
  | false => b
theorem mIfS_eq {c : DT} {a b : DS} {δ : DEnv} {S : Store} : mIfS c a b δ S = (c δ S).st δ fun x S1 => pick2 x a b δ S1 := by
  unfold mIfS pick2
  cases c δ S with
  | ok x S1 => cases x <;> rfl
  | _ => rfl
theorem mIf_eq {c : DT} {a b : DE} {δ : DEnv} {S : Store} : mIf c a b δ S = (c δ S).bind fun x S1 => pick2 x a b δ S1 := by
  unfold mIf pick2
  cases c δ S with
  | ok x S1 => cases x <;> rfl
  | _ => rfl
theorem mAndT_eq {a b : DT} {δ : DEnv} {S : Store} : mAndT a b δ S = (a δ S).bind fun x S1 => pick2 x (b δ S1) (.ok false S1) := by
  unfold mAndT pick2
  cases a δ S with
  | ok x S1 => cases x <;> rfl
  | _ => rfl
theorem mOrT_eq {a b : DT} {δ : DEnv} {S : Store} : mOrT a b δ S = (a δ S).bind fun x S1 => pick2 x (.ok true S1) (b δ S1) := by
  unfold mOrT pick2
  cases a δ S with
  | ok x S1 => cases x <;> rfl
  | _ => rfl
def andK (x : D) (b : R D) (S : Store) : R D := match asB x with
  | some true => b
  | some false => .ok (.dat (.bl false)) S
  | none => .fail
def orK (x : D) (b : R D) (S : Store) : R D := match asB x with
  | some true => .ok (.dat (.bl true)) S
  | some false => b
  | none => .fail
theorem mAnd_eq {a b : DE} {δ : DEnv} {S : Store} : mAnd a b δ S = (a δ S).bind fun x S1 => andK x (b δ S1) S1 := rfl
theorem mOr_eq {a b : DE} {δ : DEnv} {S : Store} : mOr a b δ S = (a δ S).bind fun x S1 => orK x (b δ S1) S1 := rfl
theorem mChain_eq {f h : Store → D → D → Option D} {a b c : DE} {δ : DEnv} {S : Store} : mChain f h a b c δ S = (a δ S).bind fun x S1 => (b δ S1).bind fun y S2 => (oR (f S2 x y) S2).bind fun z S3 => andK z ((c δ S3).bind fun w S4 => oR (h S4 y w) S4) S3 := rfl
theorem andK_t {b : R D} {S : Store} : andK (.dat (.bl true)) b S = b := rfl
theorem andK_f {b : R D} {S : Store} : andK (.dat (.bl false)) b S = .ok (.dat (.bl false)) S := rfl
theorem andK_ok {x y : Bool} {S : Store} : andK (.dat (.bl x)) (.ok (.dat (.bl y)) S) S = .ok (.dat (.bl (x && y))) S := by cases x <;> rfl
theorem orK_t {b : R D} {S : Store} : orK (.dat (.bl true)) b S = .ok (.dat (.bl true)) S := rfl
theorem orK_f {b : R D} {S : Store} : orK (.dat (.bl false)) b S = b := rfl
theorem orK_ok {x y : Bool} {S : Store} : orK (.dat (.bl x)) (.ok (.dat (.bl y)) S) S = .ok (.dat (.bl (x || y))) S := by cases x <;> rfl
theorem pick2_t {α : Type} {a b : α} : pick2 true a b = a := rfl
theorem pick2_f {α : Type} {a b : α} : pick2 false a b = b := rfl
theorem pick2_congr {α : Type} {x y : Bool} (a b : α) (h : x = y) : pick2 x a b = pick2 y a b := by rw [h]

theorem mNot_b {a : DE} {δ : DEnv} {S : Store} : mNot a δ S = (a δ S).bind fun x S1 => match asB x with
  | some b => .ok (.dat (.bl (!b))) S1
  | none => .fail := rfl
theorem oR_eq {α : Type} {o : Option α} {a : α} {S : Store} (h : o = some a) : oR o S = .ok a S := by rw [h]; rfl
/-! ### types -/
section
variable {K : PySem.W.Frag} {CS : List Addr} {S : Store}
theorem isi_non_int  : aIsi K CS S [.dat .non, .dat (.con (.ty "int"))] = some (.dat (.bl false)) := by
  show (PySem.W.kitOne K (.type "NoneType") (.type "int")).map dBl = _
  rw [kit_ty (r := false) (by decide +kernel)]; rfl
theorem isi_non_bool  : aIsi K CS S [.dat .non, .dat (.con (.ty "bool"))] = some (.dat (.bl false)) := by
  show (PySem.W.kitOne K (.type "NoneType") (.type "bool")).map dBl = _
  rw [kit_ty (r := false) (by decide +kernel)]; rfl
theorem isi_non_str  : aIsi K CS S [.dat .non, .dat (.con (.ty "str"))] = some (.dat (.bl false)) := by
  show (PySem.W.kitOne K (.type "NoneType") (.type "str")).map dBl = _
  rw [kit_ty (r := false) (by decide +kernel)]; rfl
theorem isi_non_tuple  : aIsi K CS S [.dat .non, .dat (.con (.ty "tuple"))] = some (.dat (.bl false)) := by
  show (PySem.W.kitOne K (.type "NoneType") (.type "tuple")).map dBl = _
  rw [kit_ty (r := false) (by decide +kernel)]; rfl
theorem isi_non_list  : aIsi K CS S [.dat .non, .dat (.con (.ty "list"))] = some (.dat (.bl false)) := by
  show (PySem.W.kitOne K (.type "NoneType") (.type "list")).map dBl = _
  rw [kit_ty (r := false) (by decide +kernel)]; rfl
theorem isi_non_dict  : aIsi K CS S [.dat .non, .dat (.con (.ty "dict"))] = some (.dat (.bl false)) := by
  show (PySem.W.kitOne K (.type "NoneType") (.type "dict")).map dBl = _
  rw [kit_ty (r := false) (by decide +kernel)]; rfl
theorem isi_bl_int {b : Bool} : aIsi K CS S [.dat (.bl b), .dat (.con (.ty "int"))] = some (.dat (.bl true)) := by
  show (PySem.W.kitOne K (.type "bool") (.type "int")).map dBl = _
  rw [kit_ty (r := true) (by decide +kernel)]; rfl
theorem isi_bl_bool {b : Bool} : aIsi K CS S [.dat (.bl b), .dat (.con (.ty "bool"))] = some (.dat (.bl true)) := by
  show (PySem.W.kitOne K (.type "bool") (.type "bool")).map dBl = _
  rw [kit_ty (r := true) (by decide +kernel)]; rfl
theorem isi_bl_str {b : Bool} : aIsi K CS S [.dat (.bl b), .dat (.con (.ty "str"))] = some (.dat (.bl false)) := by
  show (PySem.W.kitOne K (.type "bool") (.type "str")).map dBl = _
  rw [kit_ty (r := false) (by decide +kernel)]; rfl
theorem isi_bl_tuple {b : Bool} : aIsi K CS S [.dat (.bl b), .dat (.con (.ty "tuple"))] = some (.dat (.bl false)) := by
  show (PySem.W.kitOne K (.type "bool") (.type "tuple")).map dBl = _
  rw [kit_ty (r := false) (by decide +kernel)]; rfl
theorem isi_bl_list {b : Bool} : aIsi K CS S [.dat (.bl b), .dat (.con (.ty "list"))] = some (.dat (.bl false)) := by
  show (PySem.W.kitOne K (.type "bool") (.type "list")).map dBl = _
  rw [kit_ty (r := false) (by decide +kernel)]; rfl
theorem isi_bl_dict {b : Bool} : aIsi K CS S [.dat (.bl b), .dat (.con (.ty "dict"))] = some (.dat (.bl false)) := by
  show (PySem.W.kitOne K (.type "bool") (.type "dict")).map dBl = _
  rw [kit_ty (r := false) (by decide +kernel)]; rfl
theorem isi_int_int {i : Int} : aIsi K CS S [.dat (.int i), .dat (.con (.ty "int"))] = some (.dat (.bl true)) := by
  show (PySem.W.kitOne K (.type "int") (.type "int")).map dBl = _
  rw [kit_ty (r := true) (by decide +kernel)]; rfl
theorem isi_int_bool {i : Int} : aIsi K CS S [.dat (.int i), .dat (.con (.ty "bool"))] = some (.dat (.bl false)) := by
  show (PySem.W.kitOne K (.type "int") (.type "bool")).map dBl = _
  rw [kit_ty (r := false) (by decide +kernel)]; rfl
theorem isi_int_str {i : Int} : aIsi K CS S [.dat (.int i), .dat (.con (.ty "str"))] = some (.dat (.bl false)) := by
  show (PySem.W.kitOne K (.type "int") (.type "str")).map dBl = _
  rw [kit_ty (r := false) (by decide +kernel)]; rfl
theorem isi_int_tuple {i : Int} : aIsi K CS S [.dat (.int i), .dat (.con (.ty "tuple"))] = some (.dat (.bl false)) := by
  show (PySem.W.kitOne K (.type "int") (.type "tuple")).map dBl = _
  rw [kit_ty (r := false) (by decide +kernel)]; rfl
theorem isi_int_list {i : Int} : aIsi K CS S [.dat (.int i), .dat (.con (.ty "list"))] = some (.dat (.bl false)) := by
  show (PySem.W.kitOne K (.type "int") (.type "list")).map dBl = _
  rw [kit_ty (r := false) (by decide +kernel)]; rfl
theorem isi_int_dict {i : Int} : aIsi K CS S [.dat (.int i), .dat (.con (.ty "dict"))] = some (.dat (.bl false)) := by
  show (PySem.W.kitOne K (.type "int") (.type "dict")).map dBl = _
  rw [kit_ty (r := false) (by decide +kernel)]; rfl
theorem isi_str_int {z : Str} : aIsi K CS S [.dat (.str z), .dat (.con (.ty "int"))] = some (.dat (.bl false)) := by
  show (PySem.W.kitOne K (.type "str") (.type "int")).map dBl = _
  rw [kit_ty (r := false) (by decide +kernel)]; rfl
theorem isi_str_bool {z : Str} : aIsi K CS S [.dat (.str z), .dat (.con (.ty "bool"))] = some (.dat (.bl false)) := by
  show (PySem.W.kitOne K (.type "str") (.type "bool")).map dBl = _
  rw [kit_ty (r := false) (by decide +kernel)]; rfl
theorem isi_str_str {z : Str} : aIsi K CS S [.dat (.str z), .dat (.con (.ty "str"))] = some (.dat (.bl true)) := by
  show (PySem.W.kitOne K (.type "str") (.type "str")).map dBl = _
  rw [kit_ty (r := true) (by decide +kernel)]; rfl
theorem isi_str_tuple {z : Str} : aIsi K CS S [.dat (.str z), .dat (.con (.ty "tuple"))] = some (.dat (.bl false)) := by
  show (PySem.W.kitOne K (.type "str") (.type "tuple")).map dBl = _
  rw [kit_ty (r := false) (by decide +kernel)]; rfl
theorem isi_str_list {z : Str} : aIsi K CS S [.dat (.str z), .dat (.con (.ty "list"))] = some (.dat (.bl false)) := by
  show (PySem.W.kitOne K (.type "str") (.type "list")).map dBl = _
  rw [kit_ty (r := false) (by decide +kernel)]; rfl
theorem isi_str_dict {z : Str} : aIsi K CS S [.dat (.str z), .dat (.con (.ty "dict"))] = some (.dat (.bl false)) := by
  show (PySem.W.kitOne K (.type "str") (.type "dict")).map dBl = _
  rw [kit_ty (r := false) (by decide +kernel)]; rfl
theorem isi_tup_int {l : List P} : aIsi K CS S [.dat (.tup l), .dat (.con (.ty "int"))] = some (.dat (.bl false)) := by
  show (PySem.W.kitOne K (.type "tuple") (.type "int")).map dBl = _
  rw [kit_ty (r := false) (by decide +kernel)]; rfl
theorem isi_tup_bool {l : List P} : aIsi K CS S [.dat (.tup l), .dat (.con (.ty "bool"))] = some (.dat (.bl false)) := by
  show (PySem.W.kitOne K (.type "tuple") (.type "bool")).map dBl = _
  rw [kit_ty (r := false) (by decide +kernel)]; rfl
theorem isi_tup_str {l : List P} : aIsi K CS S [.dat (.tup l), .dat (.con (.ty "str"))] = some (.dat (.bl false)) := by
  show (PySem.W.kitOne K (.type "tuple") (.type "str")).map dBl = _
  rw [kit_ty (r := false) (by decide +kernel)]; rfl
theorem isi_tup_tuple {l : List P} : aIsi K CS S [.dat (.tup l), .dat (.con (.ty "tuple"))] = some (.dat (.bl true)) := by
  show (PySem.W.kitOne K (.type "tuple") (.type "tuple")).map dBl = _
  rw [kit_ty (r := true) (by decide +kernel)]; rfl
theorem isi_tup_list {l : List P} : aIsi K CS S [.dat (.tup l), .dat (.con (.ty "list"))] = some (.dat (.bl false)) := by
  show (PySem.W.kitOne K (.type "tuple") (.type "list")).map dBl = _
  rw [kit_ty (r := false) (by decide +kernel)]; rfl
theorem isi_tup_dict {l : List P} : aIsi K CS S [.dat (.tup l), .dat (.con (.ty "dict"))] = some (.dat (.bl false)) := by
  show (PySem.W.kitOne K (.type "tuple") (.type "dict")).map dBl = _
  rw [kit_ty (r := false) (by decide +kernel)]; rfl
theorem isi_lst_int {l : List P} : aIsi K CS S [.dat (.lst l), .dat (.con (.ty "int"))] = some (.dat (.bl false)) := by
  show (PySem.W.kitOne K (.type "list") (.type "int")).map dBl = _
  rw [kit_ty (r := false) (by decide +kernel)]; rfl
theorem isi_lst_bool {l : List P} : aIsi K CS S [.dat (.lst l), .dat (.con (.ty "bool"))] = some (.dat (.bl false)) := by
  show (PySem.W.kitOne K (.type "list") (.type "bool")).map dBl = _
  rw [kit_ty (r := false) (by decide +kernel)]; rfl
theorem isi_lst_str {l : List P} : aIsi K CS S [.dat (.lst l), .dat (.con (.ty "str"))] = some (.dat (.bl false)) := by
  show (PySem.W.kitOne K (.type "list") (.type "str")).map dBl = _
  rw [kit_ty (r := false) (by decide +kernel)]; rfl
theorem isi_lst_tuple {l : List P} : aIsi K CS S [.dat (.lst l), .dat (.con (.ty "tuple"))] = some (.dat (.bl false)) := by
  show (PySem.W.kitOne K (.type "list") (.type "tuple")).map dBl = _
  rw [kit_ty (r := false) (by decide +kernel)]; rfl
theorem isi_lst_list {l : List P} : aIsi K CS S [.dat (.lst l), .dat (.con (.ty "list"))] = some (.dat (.bl true)) := by
  show (PySem.W.kitOne K (.type "list") (.type "list")).map dBl = _
  rw [kit_ty (r := true) (by decide +kernel)]; rfl
theorem isi_lst_dict {l : List P} : aIsi K CS S [.dat (.lst l), .dat (.con (.ty "dict"))] = some (.dat (.bl false)) := by
  show (PySem.W.kitOne K (.type "list") (.type "dict")).map dBl = _
  rw [kit_ty (r := false) (by decide +kernel)]; rfl
theorem isi_dic_int {l : List (P × P)} : aIsi K CS S [.dat (.dic l), .dat (.con (.ty "int"))] = some (.dat (.bl false)) := by
  show (PySem.W.kitOne K (.type "dict") (.type "int")).map dBl = _
  rw [kit_ty (r := false) (by decide +kernel)]; rfl
theorem isi_dic_bool {l : List (P × P)} : aIsi K CS S [.dat (.dic l), .dat (.con (.ty "bool"))] = some (.dat (.bl false)) := by
  show (PySem.W.kitOne K (.type "dict") (.type "bool")).map dBl = _
  rw [kit_ty (r := false) (by decide +kernel)]; rfl
theorem isi_dic_str {l : List (P × P)} : aIsi K CS S [.dat (.dic l), .dat (.con (.ty "str"))] = some (.dat (.bl false)) := by
  show (PySem.W.kitOne K (.type "dict") (.type "str")).map dBl = _
  rw [kit_ty (r := false) (by decide +kernel)]; rfl
theorem isi_dic_tuple {l : List (P × P)} : aIsi K CS S [.dat (.dic l), .dat (.con (.ty "tuple"))] = some (.dat (.bl false)) := by
  show (PySem.W.kitOne K (.type "dict") (.type "tuple")).map dBl = _
  rw [kit_ty (r := false) (by decide +kernel)]; rfl
theorem isi_dic_list {l : List (P × P)} : aIsi K CS S [.dat (.dic l), .dat (.con (.ty "list"))] = some (.dat (.bl false)) := by
  show (PySem.W.kitOne K (.type "dict") (.type "list")).map dBl = _
  rw [kit_ty (r := false) (by decide +kernel)]; rfl
theorem isi_dic_dict {l : List (P × P)} : aIsi K CS S [.dat (.dic l), .dat (.con (.ty "dict"))] = some (.dat (.bl true)) := by
  show (PySem.W.kitOne K (.type "dict") (.type "dict")).map dBl = _
  rw [kit_ty (r := true) (by decide +kernel)]; rfl
theorem isi_scr_int {l : List Int} : aIsi K CS S [.dat (.scr l), .dat (.con (.ty "int"))] = some (.dat (.bl false)) := by
  show (PySem.W.kitOne K (.type "list") (.type "int")).map dBl = _
  rw [kit_ty (r := false) (by decide +kernel)]; rfl
theorem isi_scr_bool {l : List Int} : aIsi K CS S [.dat (.scr l), .dat (.con (.ty "bool"))] = some (.dat (.bl false)) := by
  show (PySem.W.kitOne K (.type "list") (.type "bool")).map dBl = _
  rw [kit_ty (r := false) (by decide +kernel)]; rfl
theorem isi_scr_str {l : List Int} : aIsi K CS S [.dat (.scr l), .dat (.con (.ty "str"))] = some (.dat (.bl false)) := by
  show (PySem.W.kitOne K (.type "list") (.type "str")).map dBl = _
  rw [kit_ty (r := false) (by decide +kernel)]; rfl
theorem isi_scr_tuple {l : List Int} : aIsi K CS S [.dat (.scr l), .dat (.con (.ty "tuple"))] = some (.dat (.bl false)) := by
  show (PySem.W.kitOne K (.type "list") (.type "tuple")).map dBl = _
  rw [kit_ty (r := false) (by decide +kernel)]; rfl
theorem isi_scr_list {l : List Int} : aIsi K CS S [.dat (.scr l), .dat (.con (.ty "list"))] = some (.dat (.bl true)) := by
  show (PySem.W.kitOne K (.type "list") (.type "list")).map dBl = _
  rw [kit_ty (r := true) (by decide +kernel)]; rfl
theorem isi_scr_dict {l : List Int} : aIsi K CS S [.dat (.scr l), .dat (.con (.ty "dict"))] = some (.dat (.bl false)) := by
  show (PySem.W.kitOne K (.type "list") (.type "dict")).map dBl = _
  rw [kit_ty (r := false) (by decide +kernel)]; rfl
end
/-! ### operators -/
section
variable {S : Store} {i j : Int}
theorem add_ii : aAdd S (.dat (.int i)) (.dat (.int j)) = some (.dat (.int (i + j))) := rfl
theorem sub_ii : aSub S (.dat (.int i)) (.dat (.int j)) = some (.dat (.int (i - j))) := rfl
theorem lt_ii : aLt S (.dat (.int i)) (.dat (.int j)) = some (.dat (.bl (decide (i < j)))) := rfl
theorem le_ii : aLe S (.dat (.int i)) (.dat (.int j)) = some (.dat (.bl (decide (i ≤ j)))) := rfl
theorem gt_ii : aGt S (.dat (.int i)) (.dat (.int j)) = some (.dat (.bl (decide (j < i)))) := rfl
theorem ge_ii : aGe S (.dat (.int i)) (.dat (.int j)) = some (.dat (.bl (decide (j ≤ i)))) := rfl
theorem mul_ii : aMul S (.dat (.int i)) (.dat (.int j)) = if cMul i j = true then some (.dat (.int (i * j))) else none := rfl
theorem mul_l (h : i.natAbs < 2 ^ 64) : aMul S (.dat (.int i)) (.dat (.int j)) = some (.dat (.int (i * j))) := by rw [mul_ii, if_pos (by unfold cMul; simp [h])]
theorem mul_r (h : j.natAbs < 2 ^ 64) : aMul S (.dat (.int i)) (.dat (.int j)) = some (.dat (.int (i * j))) := by rw [mul_ii, if_pos (by unfold cMul; simp [h])]
theorem mod_ii (h : 0 < j) : aMod S (.dat (.int i)) (.dat (.int j)) = some (.dat (.int (i % j))) := by show (if decide (0 < j) = true then _ else _) = _; rw [if_pos (by simpa using h)]; rfl
theorem div_ii (h : 0 < j) (h2 : j < 2 ^ 64) : aDiv S (.dat (.int i)) (.dat (.int j)) = some (.dat (.int (i / j))) := by
  show (if (decide (0 < j) && decide (j.natAbs.log2 < 9000)) = true then _ else _) = _
  have q : j.natAbs.log2 < 64 := (Nat.log2_lt (by omega)).mpr (by omega)
  rw [if_pos (by rw [Bool.and_eq_true]; exact ⟨decide_eq_true h, decide_eq_true (by omega)⟩)]; rfl
theorem pow_ii (h : 0 ≤ j) (h1 : j ≤ 1000000) (h2 : i.natAbs < 2 ^ 64) : aPow S (.dat (.int i)) (.dat (.int j)) = some (.dat (.int (i ^ j.toNat))) := by
  show (if _ = true then _ else _) = _
  rw [if_pos (by rw [Bool.and_eq_true, Bool.and_eq_true]; exact ⟨⟨decide_eq_true h, decide_eq_true h1⟩, decide_eq_true h2⟩)]; rfl
theorem neg_i : aNeg S (.dat (.int i)) = some (.dat (.int (-i))) := rfl
theorem eq_ii : aEq S (.dat (.int i)) (.dat (.int j)) = some (.dat (.bl (decide (i = j)))) := rfl
theorem ne_ii : aNe S (.dat (.int i)) (.dat (.int j)) = some (.dat (.bl (!decide (i = j)))) := rfl
theorem eq_ss {s z : Str} : aEq S (.dat (.str s)) (.dat (.str z)) = some (.dat (.bl (decide (s = z)))) := rfl
theorem ne_ss {s z : Str} : aNe S (.dat (.str s)) (.dat (.str z)) = some (.dat (.bl (!decide (s = z)))) := rfl
theorem eq_bb {a b : Bool} : aEq S (.dat (.bl a)) (.dat (.bl b)) = some (.dat (.bl (decide (a = b)))) := rfl
theorem ne_bb {a b : Bool} : aNe S (.dat (.bl a)) (.dat (.bl b)) = some (.dat (.bl (!decide (a = b)))) := rfl
theorem isN_n : aIsN S (.dat .non) (.dat .non) = some (.dat (.bl true)) := rfl
theorem notN_n : aNotN S (.dat .non) (.dat .non) = some (.dat (.bl false)) := rfl
theorem isN_i : aIsN S (.dat (.int i)) (.dat .non) = some (.dat (.bl false)) := rfl
theorem notN_i : aNotN S (.dat (.int i)) (.dat .non) = some (.dat (.bl true)) := rfl
theorem isN_b {b : Bool} : aIsN S (.dat (.bl b)) (.dat .non) = some (.dat (.bl false)) := rfl
theorem notN_b {b : Bool} : aNotN S (.dat (.bl b)) (.dat .non) = some (.dat (.bl true)) := rfl
theorem isN_s {b : Str} : aIsN S (.dat (.str b)) (.dat .non) = some (.dat (.bl false)) := rfl
theorem notN_s {b : Str} : aNotN S (.dat (.str b)) (.dat .non) = some (.dat (.bl true)) := rfl
theorem isN_t {b : List P} : aIsN S (.dat (.tup b)) (.dat .non) = some (.dat (.bl false)) := rfl
theorem notN_t {b : List P} : aNotN S (.dat (.tup b)) (.dat .non) = some (.dat (.bl true)) := rfl
theorem isN_l {b : List P} : aIsN S (.dat (.lst b)) (.dat .non) = some (.dat (.bl false)) := rfl
theorem notN_l {b : List P} : aNotN S (.dat (.lst b)) (.dat .non) = some (.dat (.bl true)) := rfl
theorem isB_n {c : Bool} : aIsB S (.dat .non) (.dat (.bl c)) = some (.dat (.bl false)) := rfl
theorem isB_i {c : Bool} : aIsB S (.dat (.int i)) (.dat (.bl c)) = some (.dat (.bl false)) := rfl
theorem isB_b {b c : Bool} : aIsB S (.dat (.bl b)) (.dat (.bl c)) = some (.dat (.bl (decide (b = c)))) := rfl
theorem isB_s {b : Str} {c : Bool} : aIsB S (.dat (.str b)) (.dat (.bl c)) = some (.dat (.bl false)) := rfl
theorem isB_t {b : List P} {c : Bool} : aIsB S (.dat (.tup b)) (.dat (.bl c)) = some (.dat (.bl false)) := rfl
theorem isB_l {b : List P} {c : Bool} : aIsB S (.dat (.lst b)) (.dat (.bl c)) = some (.dat (.bl false)) := rfl
theorem int_i : aInt S [.dat (.int i)] = some (.dat (.int i)) := rfl
theorem int_b {b : Bool} : aInt S [.dat (.bl b)] = some (.dat (.int (if b then 1 else 0))) := rfl
theorem max_ii : aMax S [.dat (.int i), .dat (.int j)] = some (.dat (.int (if j > i then j else i))) := rfl
theorem min_ii : aMin S [.dat (.int i), .dat (.int j)] = some (.dat (.int (if j < i then j else i))) := rfl
/-! ### rows -/
theorem seqD_t {l : List P} : seqD S (.dat (.tup l)) = some (l.map .dat) := rfl
theorem seqD_l {l : List P} : seqD S (.dat (.lst l)) = some (l.map .dat) := rfl
theorem seqD_s {l : List Int} : seqD S (.dat (.scr l)) = some (l.map fun i => .dat (.int i)) := rfl
theorem seqP_t {l : List P} : seqP S (.dat (.tup l)) = some l := by show datAll _ = _; exact datAll_map l
theorem seqP_l {l : List P} : seqP S (.dat (.lst l)) = some l := by show datAll _ = _; exact datAll_map l
theorem listP_l {l : List P} : listP S (.dat (.lst l)) = some l := by show datAll _ = _; exact datAll_map l
theorem len_t {l : List P} : aLen S [.dat (.tup l)] = some (.dat (.int l.length)) := by show some (dInt ((l.map D.dat).length : Nat)) = _; rw [List.length_map]; rfl
theorem len_l {l : List P} : aLen S [.dat (.lst l)] = some (.dat (.int l.length)) := by show some (dInt ((l.map D.dat).length : Nat)) = _; rw [List.length_map]; rfl
theorem len_scr {l : List Int} : aLen S [.dat (.scr l)] = some (.dat (.int l.length)) := by show some (dInt ((l.map fun i => D.dat (.int i)).length : Nat)) = _; rw [List.length_map]; rfl
theorem len_o {o : Nat} {l : List D} (h : S[o]? = some (.lst l)) : aLen S [.obj o] = some (.dat (.int l.length)) := by
  have q : seqD S (.obj o) = some l := by show (match S[o]? with | some (.lst l) => some l | _ => none) = _; rw [h]
  show (seqD S (.obj o)).map _ = _
  rw [q]; rfl
theorem tuple_l {l : List P} : aTuple S [.dat (.lst l)] = some (.dat (.tup l)) := by show (listP S _).map _ = _; rw [listP_l]; rfl
theorem tuple_t {l : List P} : aTuple S [.dat (.tup l)] = some (.dat (.tup l)) := rfl
theorem listP_o {o : Nat} {l : List P} (h : S[o]? = some (.lst (l.map .dat))) : listP S (.obj o) = some l := by
  show (match S[o]? with | some (.lst l) => some l | _ => none : Option (List D)).bind datAll = _
  rw [h]; exact datAll_map l
theorem tuple_o {o : Nat} {l : List P} (h : S[o]? = some (.lst (l.map .dat))) : aTuple S [.obj o] = some (.dat (.tup l)) := by show (listP S _).map _ = _; rw [listP_o h]; rfl
theorem add_tt {l k : List P} (h : l.length + k.length ≤ 100000) : aAdd S (.dat (.tup l)) (.dat (.tup k)) = some (.dat (.tup (l ++ k))) := if_pos h
theorem add_ll {l k : List P} (h : l.length + k.length ≤ 100000) : aAdd S (.dat (.lst l)) (.dat (.lst k)) = some (.dat (.lst (l ++ k))) := by
  show (match listP S (.dat (.lst l)), listP S (.dat (.lst k)) with | some l, some k => _ | _, _ => _) = _
  rw [listP_l, listP_l]; exact if_pos h
theorem ixN_nat {n k : Nat} (h : k < n) : ixN n (k : Int) = some k := by
  unfold ixN
  rw [if_pos (by omega), if_pos (by omega)]; rfl
theorem ixN_of {n : Nat} {i : Int} (h : 0 ≤ i) (h1 : i < n) : ixN n i = some i.toNat := by
  unfold ixN
  rw [if_pos h, if_pos h1]
theorem ixN_last {n : Nat} (h : 0 < n) : ixN n (-1) = some (n - 1) := by
  unfold ixN
  rw [if_neg (by omega), if_pos (by omega)]
  congr 1
  omega
theorem atN {α : Type} {l : List α} {k : Nat} {x : α} (h : l[k]? = some x) : atI l (k : Int) = some x := by
  unfold atI
  rw [ixN_nat (List.getElem?_eq_some_iff.mp h).1]
  exact h
theorem atI_of {α : Type} {l : List α} {i : Int} {x : α} (h0 : 0 ≤ i) (h : l[i.toNat]? = some x) : atI l i = some x := by
  have q := (List.getElem?_eq_some_iff.mp h).1
  unfold atI
  rw [ixN_of h0 (by omega)]
  exact h
theorem atI_last {α : Type} {l : List α} {x : α} (h : l.getLast? = some x) : atI l (-1) = some x := by
  cases l with
  | nil => cases h
  | cons a l =>
    unfold atI
    rw [ixN_last (by simp)]
    rw [List.getLast?_eq_getElem?] at h
    exact h
theorem ix_t {l : List P} {x : P} (h : atI l i = some x) : aIx S (.dat (.tup l)) (.dat (.int i)) = some (.dat x) := by show (atI l i).map D.dat = _; rw [h]; rfl
theorem ix_l {l : List P} {x : P} (h : atI l i = some x) : aIx S (.dat (.lst l)) (.dat (.int i)) = some (.dat x) := by show (atI l i).map D.dat = _; rw [h]; rfl
theorem ix_scr {l : List Int} {x : Int} (h : atI l i = some x) : aIx S (.dat (.scr l)) (.dat (.int i)) = some (.dat (.int x)) := by
  show atI (l.map fun i => D.dat (.int i)) i = _
  unfold atI at h ⊢
  rw [List.length_map]
  cases q : ixN l.length i with
  | none => rw [q] at h; cases h
  | some j => rw [q] at h; simp only [Option.bind_some] at h ⊢; rw [List.getElem?_map, h]; rfl
theorem seqD_o {o : Nat} {l : List D} (h : S[o]? = some (.lst l)) : seqD S (.obj o) = some l := by show (match S[o]? with | some (.lst l) => some l | _ => none) = _; rw [h]
theorem ix_o {o : Nat} {l : List D} {x : D} (ho : S[o]? = some (.lst l)) (h : atI l i = some x) : aIx S (.obj o) (.dat (.int i)) = some x := by
  show (match seqD S (.obj o) with | some l => atI l i | none => none) = _
  rw [seqD_o ho]; exact h
theorem setD_o {o : Nat} {l : List D} {x : D} {k : Nat} (ho : S[o]? = some (.lst l)) (h : ixN l.length i = some k) : setD (.obj o) (.dat (.int i)) x S = some (S.set o (.lst (l.set k x))) := by
  show (match S[o]? with | some (.lst l) => (ixN l.length i).map fun j => S.set o (.lst (l.set j x)) | _ => none) = _
  rw [ho]
  show (ixN l.length i).map _ = _
  rw [h]; rfl
theorem app_o {o : Nat} {l : List D} {x : D} (ho : S[o]? = some (.lst l)) (h : l.length < 100000) : updL fAppend (.obj o) [x] S = .ok (.dat .non) (S.set o (.lst (l ++ [x]))) := by
  have q : fAppend l [x] = some (.dat .non, l ++ [x]) := if_pos h
  unfold updL
  simp only [ho, q]
theorem kind_o {o : Nat} {l : List D} (ho : S[o]? = some (.lst l)) : isKind "list" S (.obj o) = true := by
  show (if ("list" : String) = "list" then (listD S (.obj o)).isSome else _) = true
  rw [if_pos rfl]
  show (match S[o]? with | some (.lst l) => some l | _ => none : Option (List D)).isSome = true
  rw [ho]; rfl
theorem kind_l {l : List P} : isKind "list" S (.dat (.lst l)) = true := rfl
theorem frz_o {o : Nat} {l : List P} (ho : S[o]? = some (.lst (l.map .dat))) : frz1 S o = some (.lst l) := by
  unfold frz1
  rw [ho]
  show (datAll (l.map .dat)).map P.lst = _
  rw [datAll_map]; rfl
end
/-! ### pure defs -/
theorem pure_dat {f : List D → Store → R D} {ds : List D} {ps : List P} {p : P} {S S' : Store} (hd : datAll ds = some ps) (h : f ds [] = .ok (.dat p) S') : mPure f ds S = .ok (.dat p) S := by
  unfold mPure; rw [hd]; simp only [h]
theorem pure_obj {f : List D → Store → R D} {ds : List D} {ps : List P} {p : P} {i : Nat} {S S' : Store} (hd : datAll ds = some ps) (h : f ds [] = .ok (.obj i) S') (z : frz1 S' i = some p) : mPure f ds S = .ok (.dat p) S := by
  unfold mPure; rw [hd]; simp only [h, z]
theorem pure_exc {f : List D → Store → R D} {ds : List D} {ps : List P} {C : Addr} {x : Option (Str × P)} {S S' : Store} (hd : datAll ds = some ps) (h : f ds [] = .exc C x S') : mPure f ds S = .exc C x S := by
  unfold mPure; rw [hd]; simp only [h]
/-! ### loops -/
/-- a run that ends well -/
def Ends (r : R Out) (Q : Out → Store → Prop) : Prop := ∃ o S, r = .ok o S ∧ Q o S
theorem turn_nx {δ : DEnv} {S : Store} {k : DEnv → Store → R Out} : mTurn (.ok (.nx δ) S) k = k δ S := rfl
theorem turn_ct {δ : DEnv} {S : Store} {k : DEnv → Store → R Out} : mTurn (.ok (.ct δ) S) k = k δ S := rfl
theorem turn_bk {δ : DEnv} {S : Store} {k : DEnv → Store → R Out} : mTurn (.ok (.bk δ) S) k = .ok (.nx δ) S := rfl
theorem turn_rt {d : D} {S : Store} {k : DEnv → Store → R Out} : mTurn (.ok (.rt d) S) k = .ok (.rt d) S := rfl
theorem turn_ex {C : Addr} {x : Option (Str × P)} {δ : DEnv} {S : Store} {k : DEnv → Store → R Out} : mTurn (.ok (.ex C x δ) S) k = .ok (.ex C x δ) S := rfl
/-- what a turn leaves: go on (to J), or leave (to Q) -/
def TurnP (J : DEnv → Store → Prop) (Q : Out → Store → Prop) : Out → Store → Prop
  | .nx δ, S => J δ S
  | .ct δ, S => J δ S
  | .bk δ, S => Q (.nx δ) S
  | .rt d, S => Q (.rt d) S
  | .ex C x δ, S => Q (.ex C x δ) S
theorem turn_ends {r : R Out} {k : DEnv → Store → R Out} {J : DEnv → Store → Prop} {Q : Out → Store → Prop} (h : Ends r (TurnP J Q)) (hk : ∀ δ S, J δ S → Ends (k δ S) Q) : Ends (mTurn r k) Q := by
  obtain ⟨o, S, rfl, q⟩ := h
  cases o with
  | nx δ => exact hk δ S q
  | ct δ => exact hk δ S q
  | bk δ => exact ⟨_, _, rfl, q⟩
  | rt d => exact ⟨_, _, rfl, q⟩
  | ex C x δ => exact ⟨_, _, rfl, q⟩
/-- for: I i before the item at i -/
theorem forL_ends {g : DG} {b : DS} (I : Nat → DEnv → Store → Prop) {Q : Out → Store → Prop} : ∀ {l : List D} {i : Nat} {δ : DEnv} {S : Store}, I i δ S →
    (∀ k d δ S, l[k]? = some d → I (i + k) δ S → Ends ((g d δ S).st δ b) (TurnP (I (i + k + 1)) Q)) → (∀ δ S, I (i + l.length) δ S → Q (.nx δ) S) → Ends (mForL g b l δ S) Q
  | [], i, δ, S, h, _, q => ⟨_, _, rfl, q δ S h⟩
  | d :: l, i, δ, S, h, st, q => by
    refine turn_ends (J := I (i + 1)) (st 0 d δ S rfl h) fun δ S h1 => forL_ends (l := l) (i := i + 1) I h1 (fun k d δ S e hi => ?_) (fun δ S hi => q δ S ?_)
    · have z := st (k + 1) d δ S (by simpa using e) (by rw [show i + (k + 1) = i + 1 + k by omega]; exact hi)
      rw [show i + (k + 1) + 1 = i + 1 + k + 1 by omega] at z
      exact z
    · rw [List.length_cons, show i + (l.length + 1) = i + 1 + l.length by omega]; exact hi
/-- while: a measure goes down -/
theorem whileN_ends {c : DT} {b : DS} (I : Nat → DEnv → Store → Prop) {Q : Out → Store → Prop}
    (st : ∀ m δ S, I m δ S → ∃ x S1, c δ S = .ok x S1 ∧ (x = true → Ends (b δ S1) (TurnP (fun δ' S' => ∃ m', m' < m ∧ I m' δ' S') Q)) ∧ (x = false → Q (.nx δ) S1)) : ∀ {n m : Nat} {δ : DEnv} {S : Store}, m < n → I m δ S → Ends (mWhileN c b n δ S) Q
  | 0, m, δ, S, h, _ => absurd h (Nat.not_lt_zero _)
  | n + 1, m, δ, S, h, hi => by
    obtain ⟨x, S1, e, h1, h2⟩ := st m δ S hi
    unfold mWhileN
    rw [e, R.st_ok]
    cases x with
    | false => exact ⟨_, _, rfl, h2 rfl⟩
    | true => exact turn_ends (h1 rfl) fun δ' S' ⟨m', lt, hi'⟩ => whileN_ends I st (by omega) hi'
theorem while_ends {c : DT} {b : DS} (I : Nat → DEnv → Store → Prop) {Q : Out → Store → Prop} {m : Nat} {δ : DEnv} {S : Store} (hm : m < 1000000000) (hi : I m δ S)
    (st : ∀ m δ S, I m δ S → ∃ x S1, c δ S = .ok x S1 ∧ (x = true → Ends (b δ S1) (TurnP (fun δ' S' => ∃ m', m' < m ∧ I m' δ' S') Q)) ∧ (x = false → Q (.nx δ) S1)) : Ends (mWhile c b δ S) Q := by
  unfold mWhile FUEL
  exact whileN_ends I st hm hi
theorem then_ends {r : R Out} {b : DS} {Q1 Q : Out → Store → Prop} (h : Ends r Q1) (k : ∀ o S, Q1 o S → Ends (thenS (.ok o S) b) Q) : Ends (thenS r b) Q := by
  obtain ⟨o, S, rfl, q⟩ := h
  exact k o S q
/-- a comprehension over items, when each item is a pure value: f i = none leaves out -/
theorem lc_pure {g : DG} {t : DT} {e : DE} {vs : List Nat} {δ : DEnv} {S : Store} (f : D → Option D) : ∀ {l acc : List D}, (acc.length + l.length ≤ 100000) →
    (∀ d ∈ l, ∃ δ1, g d (wipeD δ vs) S = .ok δ1 S ∧ match f d with
      | some y => t δ1 S = .ok true S ∧ e δ1 S = .ok y S
      | none => t δ1 S = .ok false S) → mLcL g t e vs δ l acc S = .ok (acc ++ l.filterMap f) S
  | [], acc, _, _ => by simp [mLcL]
  | d :: l, acc, hl, h => by
    obtain ⟨δ1, e1, e2⟩ := h d (List.mem_cons_self ..)
    unfold mLcL
    rw [e1, R.bnf_ok]
    rw [List.length_cons] at hl
    cases q : f d with
    | none =>
      rw [q] at e2
      rw [e2, R.bnf_ok]
      show mLcL g t e vs δ l acc S = _
      rw [lc_pure f (by omega) fun d m => h d (List.mem_cons_of_mem _ m), List.filterMap_cons, q]
    | some y =>
      rw [q] at e2
      rw [e2.1, R.bnf_ok]
      show (e δ1 S).bnf _ = _
      rw [e2.2, R.bnf_ok, if_pos (by omega), lc_pure f (by rw [List.length_append, List.length_singleton]; omega) fun d m => h d (List.mem_cons_of_mem _ m), List.filterMap_cons, q]
      simp
end M3
local macro_rules | `(tactic| dsimp! [$ls,*]) => `(tactic| simp only [M3.mBody_fin, M3.fin_nx, M3.fin_rt, M3.fin_ex, M3.mSeq_then, M3.then_nx, M3.then_rt, M3.then_bk, M3.then_ct, M3.then_ex, M3.mIfS_eq, M3.mIf_eq, M3.mAndT_eq, M3.mOrT_eq, M3.mAnd_eq, M3.mOr_eq, M3.andK_t, M3.andK_f, M3.andK_ok, M3.orK_t, M3.orK_f, M3.orK_ok, M3.pick2_t, M3.pick2_f, M3.mNot_b, M3.asB, M3.mVar, M3.mC, M3.mOp, M3.mUn, M3.mNil, M3.mCons, M3.mTst, M3.mNotT, M3.mChain_eq, M3.mCall, M3.mDef, M3.mRet, M3.mRetN, M3.mDrop, M3.mAsg, M3.gmName, M3.gmSub, M3.mBrk, M3.mCnt, M3.mNext, M3.mTrk, M3.mLst, M3.mFrz, M3.mTup, M3.mYes, M3.mPar, M3.mRaise0, M3.mRaise1, M3.gmTup, M3.gmCons, M3.gmNil, M3.wipeD, M3.R.bind_ok, M3.R.bind_exc, M3.R.st_ok, M3.R.st_exc, M3.R.bnf_ok, M3.oR_some, M3.datAll_map, M3.datAll, Option.map_some, Option.bind_some, List.getElem?_cons_zero, List.getElem?_cons_succ, List.set_cons_zero, List.set_cons_succ, List.map_cons, List.map_nil, List.length_cons, List.length_nil, List.replicate_succ, List.replicate_zero, List.cons_append, List.nil_append, Nat.reduceAdd, Nat.reduceSub, Nat.zero_add, Nat.sub_self, Nat.reduceEqDiff, Nat.zero_le, Nat.reduceLeDiff, Int.reduceLE, Int.reduceLT, Int.reduceEq, Int.reduceNeg, Int.reduceAdd, Int.reduceSub, Int.reduceMul, decide_true, decide_false, Bool.not_true, Bool.not_false, Bool.true_and, Bool.false_and, Bool.and_true, Bool.and_false, Bool.true_or, Bool.false_or, if_true, ite_true, reduceIte, M3.isi_non_int, M3.isi_non_bool, M3.isi_non_str, M3.isi_non_tuple, M3.isi_non_list, M3.isi_non_dict, M3.isi_bl_int, M3.isi_bl_bool, M3.isi_bl_str, M3.isi_bl_tuple, M3.isi_bl_list, M3.isi_bl_dict, M3.isi_int_int, M3.isi_int_bool, M3.isi_int_str, M3.isi_int_tuple, M3.isi_int_list, M3.isi_int_dict, M3.isi_str_int, M3.isi_str_bool, M3.isi_str_str, M3.isi_str_tuple, M3.isi_str_list, M3.isi_str_dict, M3.isi_tup_int, M3.isi_tup_bool, M3.isi_tup_str, M3.isi_tup_tuple, M3.isi_tup_list, M3.isi_tup_dict, M3.isi_lst_int, M3.isi_lst_bool, M3.isi_lst_str, M3.isi_lst_tuple, M3.isi_lst_list, M3.isi_lst_dict, M3.isi_dic_int, M3.isi_dic_bool, M3.isi_dic_str, M3.isi_dic_tuple, M3.isi_dic_list, M3.isi_dic_dict, M3.isi_scr_int, M3.isi_scr_bool, M3.isi_scr_str, M3.isi_scr_tuple, M3.isi_scr_list, M3.isi_scr_dict, M3.add_ii, M3.sub_ii, M3.lt_ii, M3.le_ii, M3.gt_ii, M3.ge_ii, M3.neg_i, M3.eq_ii, M3.ne_ii, M3.eq_ss, M3.ne_ss, M3.eq_bb, M3.ne_bb, M3.isN_n, M3.notN_n, M3.isN_i, M3.notN_i, M3.isN_b, M3.notN_b, M3.isN_s, M3.notN_s, M3.isN_t, M3.notN_t, M3.isN_l, M3.notN_l, M3.isB_n, M3.isB_i, M3.isB_b, M3.isB_s, M3.isB_t, M3.isB_l, M3.int_i, M3.int_b, M3.max_ii, M3.min_ii, M3.len_t, M3.len_l, M3.len_scr, M3.tuple_l, M3.tuple_t, $ls,*])
namespace W2
inductive Ch (ps : List (Option Nat)) : Nat → List Nat → Prop
  | root {h : Nat} : ps[h]? = some none → Ch ps h [h]
  | step {h p : Nat} {l : List Nat} : ps[h]? = some (some p) → Ch ps p l → Ch ps h (h :: l)
theorem Ch.head {ps : List (Option Nat)} {h : Nat} {l : List Nat} (c : Ch ps h l) : ∃ r, l = h :: r := by
  cases c with
  | root _ => exact ⟨[], rfl⟩
  | step _ _ => exact ⟨_, rfl⟩
theorem Ch.det {ps : List (Option Nat)} {h : Nat} {l : List Nat} (c : Ch ps h l) : ∀ {m : List Nat}, Ch ps h m → l = m := by
  induction c with
  | root e =>
    intro m d
    cases d with
    | root _ => rfl
    | step e2 _ => rw [e] at e2; cases e2
  | step e c ih =>
    intro m d
    cases d with
    | root e2 => rw [e] at e2; cases e2
    | step e2 d2 =>
      rw [e] at e2
      cases e2
      rw [ih d2]
theorem Ch.tail {ps : List (Option Nat)} : ∀ {pre : List Nat} {h x : Nat} {post : List Nat}, Ch ps h (pre ++ x :: post) → Ch ps x (x :: post)
  | [], h, x, post, c => by
    obtain ⟨r, e⟩ := c.head
    have e1 : x = h := by simpa using (List.cons.inj e).1
    subst e1
    exact c
  | a :: pre, h, x, post, c => by
    have go : ∀ m, Ch ps h m → m = a :: (pre ++ x :: post) → Ch ps x (x :: post) := by
      intro m d e
      cases d with
      | root _ =>
        have := (List.cons.inj e).2
        cases pre <;> simp at this
      | step _ d2 =>
        have e2 := (List.cons.inj e).2
        subst e2
        exact Ch.tail d2
    exact go _ c rfl
theorem Ch.lt {ps : List (Option Nat)} {h : Nat} {l : List Nat} (c : Ch ps h l) : ∀ x ∈ l, x < ps.length := by
  induction c with
  | @root h e =>
    intro x hx
    have q : x = h := by simpa using hx
    subst q
    exact (List.getElem?_eq_some_iff.mp e).1
  | step e c ih =>
    intro x hx
    rcases List.mem_cons.mp hx with rfl | hx
    · exact (List.getElem?_eq_some_iff.mp e).1
    · exact ih x hx
theorem Ch.nodup {ps : List (Option Nat)} {h : Nat} {l : List Nat} (c : Ch ps h l) : l.Nodup := by
  induction c with
  | root e => simp
  | @step h p l e c ih =>
    refine List.nodup_cons.mpr ⟨fun hm => ?_, ih⟩
    obtain ⟨pre, post, e2⟩ := List.append_of_mem hm
    subst e2
    have d := Ch.tail c
    have d2 : Ch ps h (h :: (pre ++ h :: post)) := .step e c
    have q := congrArg List.length (d.det d2)
    simp at q
    omega
theorem Ch.last {ps : List (Option Nat)} {h : Nat} {l : List Nat} (c : Ch ps h l) : ∃ r, l.getLast? = some r ∧ ps[r]? = some none := by
  induction c with
  | root e => exact ⟨_, rfl, e⟩
  | @step h p l e c ih =>
    obtain ⟨r, e1, e2⟩ := ih
    refine ⟨r, ?_, e2⟩
    obtain ⟨z, rfl⟩ := c.head
    rw [List.getLast?_cons_cons]
    exact e1
/-- at place i of the way up: the parent -/
theorem Ch.next {ps : List (Option Nat)} {h : Nat} {l : List Nat} (c : Ch ps h l) {i : Nat} {x : Nat} (hx : l[i]? = some x) : (ps[x]? = some none ∧ i + 1 = l.length) ∨ (∃ y, ps[x]? = some (some y) ∧ l[i + 1]? = some y) := by
  have hi := (List.getElem?_eq_some_iff.mp hx).1
  have hs : l = l.take i ++ x :: l.drop (i + 1) := by
    have e : l.drop i = x :: l.drop (i + 1) := by
      rw [List.drop_eq_getElem_cons hi]
      congr 1
      exact (List.getElem?_eq_some_iff.mp hx).2
    rw [← e, List.take_append_drop]
  rw [hs] at c
  have d := Ch.tail c
  generalize hq : l.drop (i + 1) = q at d
  cases d with
  | root e =>
    have := congrArg List.length hq
    simp at this
    exact .inl ⟨e, by omega⟩
  | @step _ y _ e d2 =>
    obtain ⟨r, rfl⟩ := d2.head
    refine .inr ⟨y, e, ?_⟩
    have := congrArg (fun z => z[0]?) hq
    simpa [List.getElem?_drop] using this
theorem Ch.par_lt {ps : List (Option Nat)} {h p : Nat} {l : List Nat} (c : Ch ps h l) (e : ps[h]? = some (some p)) : p < ps.length := by
  cases c with
  | root e2 => rw [e] at e2; cases e2
  | step e2 c2 =>
    rw [e] at e2
    cases e2
    obtain ⟨r, e3⟩ := c2.head
    exact c2.lt _ (by rw [e3]; simp)
open Classical in
noncomputable def up (ps : List (Option Nat)) (h : Nat) : List Nat := if e : ∃ l, Ch ps h l then e.choose else []
theorem up_of {ps : List (Option Nat)} {h : Nat} {l : List Nat} (c : Ch ps h l) : up ps h = l := by
  unfold up
  rw [dif_pos ⟨l, c⟩]
  exact (Exists.choose_spec (⟨l, c⟩ : ∃ l, Ch ps h l)).det c
/-- a right forest -/
def Tree (ps : List (Option Nat)) : Prop := ∀ h, h < ps.length → Ch ps h (up ps h) ∧ (up ps h).length ≤ ps.length
theorem tree_of {ps : List (Option Nat)} (h : ∀ h, h < ps.length → ∃ l, Ch ps h l ∧ l.length ≤ ps.length) : Tree ps := fun x hx => by
  obtain ⟨l, c, z⟩ := h x hx
  rw [up_of c]
  exact ⟨c, z⟩
/-- by an order: each house's parent stands ahead -/
theorem tree_ord {ps : List (Option Nat)} {o : List Nat} (hl : o.length = ps.length) (sur : ∀ h, h < ps.length → ∃ k : Nat, o[k]? = some h)
    (hp : ∀ (k : Nat) h, o[k]? = some h → ps[h]? = some none ∨ ∃ j p, j < k ∧ o[j]? = some p ∧ ps[h]? = some (some p)) : Tree ps := by
  have go : ∀ (k : Nat), ∀ (m : Nat), m ≤ k → ∀ h, o[m]? = some h → ∃ l, Ch ps h l ∧ l.length ≤ m + 1 := by
    intro k
    induction k with
    | zero =>
      intro m hm h e
      rcases hp m h e with q | ⟨j, p, hj, _, _⟩
      · exact ⟨[h], .root q, by simp⟩
      · omega
    | succ k ih =>
      intro m hm h e
      rcases hp m h e with q | ⟨j, p, hj, ej, q⟩
      · exact ⟨[h], .root q, by simp⟩
      · obtain ⟨l, c, z⟩ := ih j (by omega) p ej
        exact ⟨h :: l, .step q c, by simp; omega⟩
  refine tree_of fun h hh => ?_
  obtain ⟨k, ek⟩ := sur h hh
  obtain ⟨l, c, z⟩ := go k k (Nat.le_refl _) h ek
  have := (List.getElem?_eq_some_iff.mp ek).1
  exact ⟨l, c, by omega⟩
/-! ### the deepest common house -/
def fnd (l m : List Nat) : Option Nat := l.find? fun x => decide (x ∈ m)
theorem find_first {p : Nat → Bool} : ∀ {l : List Nat} {i : Nat} {x : Nat}, l[i]? = some x → p x = true → (∀ (j : Nat) y, j < i → l[j]? = some y → p y = false) → l.find? p = some x
  | [], i, x, h, _, _ => by simp at h
  | a :: l, 0, x, h, hp, _ => by
    have e : a = x := by simpa using h
    subst e
    rw [List.find?_cons, hp]
  | a :: l, i + 1, x, h, hp, hn => by
    have ha : p a = false := hn 0 a (by omega) rfl
    rw [List.find?_cons, ha]
    exact find_first (l := l) (i := i) (by simpa using h) hp fun j y hj e => hn (j + 1) y (by omega) (by simpa using e)
theorem fnd_some {l m : List Nat} {i x : Nat} (h : l[i]? = some x) (hm : x ∈ m) (hn : ∀ (j : Nat) y, j < i → l[j]? = some y → y ∉ m) : fnd l m = some x :=
  find_first h (decide_eq_true hm) fun j y hj e => decide_eq_false (hn j y hj e)
theorem fnd_none {l m : List Nat} (hn : ∀ (j : Nat) y, l[j]? = some y → y ∉ m) : fnd l m = none := by
  unfold fnd
  rw [List.find?_eq_none]
  intro x hx
  obtain ⟨j, hj, e⟩ := List.getElem_of_mem hx
  have := hn j x (List.getElem?_eq_some_iff.mpr ⟨hj, e⟩)
  simpa using this
theorem fnd_split {l m : List Nat} {x : Nat} (h : fnd l m = some x) : x ∈ m ∧ ∃ pre post, l = pre ++ x :: post ∧ ∀ y ∈ pre, y ∉ m := by
  unfold fnd at h
  rw [List.find?_eq_some_iff_append] at h
  obtain ⟨h1, as, bs, e, h2⟩ := h
  exact ⟨by simpa using h1, as, bs, e, fun y hy => by simpa using h2 y hy⟩
theorem fnd_comm {ps : List (Option Nat)} {a b : Nat} {l m : List Nat} (ca : Ch ps a l) (cb : Ch ps b m) : fnd l m = fnd m l := by
  cases e : fnd l m with
  | none =>
    symm
    refine fnd_none fun j y hy hm => ?_
    have ym : y ∈ m := List.mem_of_getElem? hy
    unfold fnd at e
    rw [List.find?_eq_none] at e
    have := e y hm
    simp [ym] at this
  | some x =>
    obtain ⟨xm, pre, post, el, hpre⟩ := fnd_split e
    obtain ⟨pre2, post2, em⟩ := List.append_of_mem xm
    rw [el] at ca
    rw [em] at cb
    have nb := cb.nodup
    have e2 : x :: post = x :: post2 := (Ch.tail ca).det (Ch.tail cb)
    symm
    refine fnd_some (i := pre2.length) (by rw [em]; simp) (by rw [el]; simp) fun j y hj hy yl => ?_
    have yp : y ∈ pre2 := by
      rw [em, List.getElem?_append_left hj] at hy
      exact List.mem_of_getElem? hy
    rw [el] at yl
    rcases List.mem_append.mp yl with h1 | h1
    · exact hpre y h1 (by rw [em]; exact List.mem_append_left _ yp)
    · rw [e2] at h1
      exact (List.nodup_append.mp nb).2.2 y yp y h1 rfl
/-! ### the way -/
def wayOf (l m : List Nat) (x : Nat) : List Nat := l.take (l.idxOf x) ++ [x] ++ (m.take (m.idxOf x)).reverse
theorem take_idx {l : List Nat} {x : Nat} (h : x ∈ l) : l.take (l.idxOf x + 1) = l.take (l.idxOf x) ++ [x] := by
  have hl : l.idxOf x < l.length := List.idxOf_lt_length_of_mem h
  rw [List.take_add_one, List.getElem?_eq_getElem hl, List.getElem_idxOf hl]
  rfl
theorem rev_idx (l : List Nat) : (List.range l.length).map (fun k => l.getD (l.length - 1 - k) 0) = l.reverse := by
  apply List.ext_getElem?
  intro i
  by_cases hi : i < l.length
  · rw [List.getElem?_map, List.getElem?_range hi, List.getElem?_reverse hi]
    simp only [Option.map_some]
    have h2 : l.length - 1 - i < l.length := by omega
    rw [List.getD_eq_getElem?_getD, List.getElem?_eq_getElem h2]
    rfl
  · rw [List.getElem?_eq_none (by simpa using hi), List.getElem?_eq_none (by simpa using hi)]
theorem nodup_len : ∀ {n : Nat} {l : List Nat}, l.Nodup → (∀ x ∈ l, x < n) → l.length ≤ n
  | 0, l, _, h => by
    cases l with
    | nil => exact Nat.le_refl _
    | cons a r => exact absurd (h a (by simp)) (by omega)
  | n + 1, l, nd, h => by
    by_cases hm : n ∈ l
    · have nd2 : (l.erase n).Nodup := nd.erase n
      have h2 : ∀ x ∈ l.erase n, x < n := fun x hx => by
        have h3 := h x (List.mem_of_mem_erase hx)
        have h4 : x ≠ n := fun e => by
          subst e
          exact (List.Nodup.mem_erase_iff nd).mp hx |>.1 rfl
        omega
      have h5 := nodup_len nd2 h2
      rw [List.length_erase_of_mem hm] at h5
      omega
    · have h2 : ∀ x ∈ l, x < n := fun x hx => by
        have h3 := h x hx
        have h4 : x ≠ n := fun e => hm (e ▸ hx)
        omega
      exact Nat.le_succ_of_le (nodup_len nd h2)
theorem Ch.len {ps : List (Option Nat)} {h : Nat} {l : List Nat} (c : Ch ps h l) : l.length ≤ ps.length := nodup_len c.nodup c.lt
/-- each parent is a house -/
def Inr (ps : List (Option Nat)) : Prop := ∀ (k q : Nat), ps[k]? = some (some q) → q < ps.length
theorem Tree.inr {ps : List (Option Nat)} (t : Tree ps) : Inr ps := fun k q e => (t k (List.getElem?_eq_some_iff.mp e).1).1.par_lt e
theorem tree_iff {ps : List (Option Nat)} : Tree ps ↔ ∀ h, h < ps.length → ∃ l, Ch ps h l :=
  ⟨fun t h hh => ⟨_, (t h hh).1⟩, fun t => tree_of fun h hh => let ⟨l, c⟩ := t h hh; ⟨l, c, c.len⟩⟩
theorem no_next {ps : List (Option Nat)} (ir : Inr ps) {h : Nat} (hh : h < ps.length) (n : ¬ ∃ l, Ch ps h l) : ∃ q, ps[h]? = some (some q) ∧ q < ps.length ∧ ¬ ∃ l, Ch ps q l := by
  have e : ps[h]? = some ps[h] := List.getElem?_eq_getElem hh
  cases q : ps[h] with
  | none => rw [q] at e; exact absurd ⟨_, .root e⟩ n
  | some q' =>
    rw [q] at e
    exact ⟨q', e, ir _ _ e, fun ⟨l, c⟩ => n ⟨_, .step e c⟩⟩
end W2
namespace M3
open PySem PySem.Spec PyProof.Rows L2
/-! ### houses and none -/
def ov : Option Nat → P
  | none => .non
  | some q => .int q
def nv (h : Nat) : P := .int h
def isNn : P → Bool
  | .non => true
  | _ => false
theorem rngD_get {lo : Int} {n k : Nat} {d : D} (h : (rngD lo n)[k]? = some d) : k < n ∧ d = .dat (.int (lo + (k : Int))) := by
  unfold rngD at h
  rw [List.getElem?_map] at h
  have hk : k < n := by
    by_cases c : k < n
    · exact c
    · rw [List.getElem?_eq_none (by simpa using c)] at h; cases h
  rw [List.getElem?_range hk] at h
  cases h
  exact ⟨hk, rfl⟩
theorem rngD_mem {lo : Int} {n : Nat} {d : D} (h : d ∈ rngD lo n) : ∃ k : Nat, k < n ∧ d = .dat (.int (lo + (k : Int))) := by
  obtain ⟨k, hk⟩ := List.getElem?_of_mem h
  exact ⟨k, rngD_get hk⟩
theorem rngD_len {lo : Int} {n : Nat} : (rngD lo n).length = n := by unfold rngD; simp
theorem rng1_ok {a : DA} {δ : DEnv} {S S1 : Store} {n : Nat} (h : a δ S = .ok [.dat (.int (n : Int))] S1) (hn : n ≤ 100000) : mRng1 a δ S = .ok (.items (rngD 0 n)) S1 := by
  unfold mRng1
  rw [h, R.bind_ok]
  simp only []
  rw [if_pos (by omega)]
  rfl
theorem rng2_ok {a : DA} {δ : DEnv} {S S1 : Store} {i n : Nat} (h : a δ S = .ok [.dat (.int (i : Int)), .dat (.int (n : Int))] S1) (hi : i ≤ 100000) (hn : n ≤ 100000) : mRng2 a δ S = .ok (.items (rngD i (n - i))) S1 := by
  unfold mRng2
  rw [h, R.bind_ok]
  simp only []
  rw [if_pos (by omega)]
  congr 3
  omega
theorem for_items {w : DI} {g : DG} {b : DS} {δ : DEnv} {S S1 : Store} {l : List D} (h : w δ S = .ok (.items l) S1) : mFor w g b δ S = mForL g b l δ S1 := by
  unfold mFor; rw [h, R.st_ok]
theorem for_ob {w : DI} {g : DG} {b : DS} {δ : DEnv} {S S1 : Store} {o : Nat} {l : List D} (h : w δ S = .ok (.ob o) S1) (ho : S1[o]? = some (.lst l)) : mFor w g b δ S = mForO g b o l.length l.length 0 δ S1 := by
  unfold mFor; rw [h, R.st_ok]; simp only [ho]
theorem walk_t {a : DE} {δ : DEnv} {S S1 : Store} {l : List P} (h : a δ S = .ok (.dat (.tup l)) S1) : mWalk a δ S = .ok (.items (l.map .dat)) S1 := by unfold mWalk; rw [h]; rfl
theorem walk_l {a : DE} {δ : DEnv} {S S1 : Store} {l : List P} (h : a δ S = .ok (.dat (.lst l)) S1) : mWalk a δ S = .ok (.items (l.map .dat)) S1 := by unfold mWalk; rw [h]; rfl
theorem walk_o {a : DE} {δ : DEnv} {S S1 : Store} {o : Nat} {l : List D} (h : a δ S = .ok (.obj o) S1) (ho : S1[o]? = some (.lst l)) : mWalk a δ S = .ok (.ob o) S1 := by
  unfold mWalk; rw [h, R.bind_ok]
  show oR (match S1[o]? with | some (.lst _) => some (Wk.ob o) | _ => none) S1 = _
  rw [ho]; rfl
theorem forO_ends {g : DG} {b : DS} {o : Nat} {l : List D} (I : Nat → DEnv → Store → Prop) {Q : Out → Store → Prop} (hl : ∀ i δ S, I i δ S → S[o]? = some (.lst l))
    (st : ∀ i d δ S, l[i]? = some d → I i δ S → Ends ((g d δ S).st δ b) (TurnP (I (i + 1)) Q)) (q : ∀ δ S, I l.length δ S → Q (.nx δ) S) : ∀ {k i : Nat} {δ : DEnv} {S : Store}, i + k = l.length → I i δ S → Ends (mForO g b o l.length k i δ S) Q
  | 0, i, δ, S, e, h => by
    unfold mForO
    simp only [hl i δ S h, if_true]
    refine ⟨_, _, rfl, q δ S ?_⟩
    rw [← e, Nat.add_zero]; exact h
  | k + 1, i, δ, S, e, h => by
    unfold mForO
    have e1 : l[i]? = some l[i] := List.getElem?_eq_getElem (by omega)
    simp only [hl i δ S h, if_true, e1]
    exact turn_ends (st i _ δ S e1 h) fun δ' S' h' => forO_ends I hl st q (by omega) h'
theorem lc_items {w : DI} {g : DG} {t : DT} {e : DE} {vs : List Nat} {δ : DEnv} {S S1 : Store} {l : List D} (f : D → Option D) (hw : w δ S = .ok (.items l) S1) (hl : l.length ≤ 100000)
    (h : ∀ d ∈ l, ∃ δ1, g d (wipeD δ vs) S1 = .ok δ1 S1 ∧ match f d with
      | some y => t δ1 S1 = .ok true S1 ∧ e δ1 S1 = .ok y S1
      | none => t δ1 S1 = .ok false S1) : mLc w g t e vs δ S = .ok (l.filterMap f) S1 := by
  unfold mLc
  rw [hw, R.bind_ok]
  simp only []
  rw [lc_pure f (by simpa using hl) h, R.bnf_ok]
  rfl
theorem lcL_map {α : Type} {g : DG} {t : DT} {e : DE} {vs : List Nat} {δ : DEnv} {S : Store} (h : α → D) (f : α → Option P) : ∀ {xs : List α} {acc : List D}, (acc.length + xs.length ≤ 100000) →
    (∀ x ∈ xs, ∃ δ1, g (h x) (wipeD δ vs) S = .ok δ1 S ∧ match f x with
      | some y => t δ1 S = .ok true S ∧ e δ1 S = .ok (.dat y) S
      | none => t δ1 S = .ok false S) → mLcL g t e vs δ (xs.map h) acc S = .ok (acc ++ (xs.filterMap f).map .dat) S
  | [], acc, _, _ => by simp [mLcL]
  | d :: l, acc, hl, hh => by
    obtain ⟨δ1, e1, e2⟩ := hh d (List.mem_cons_self ..)
    rw [List.map_cons]
    unfold mLcL
    rw [e1, R.bnf_ok]
    rw [List.length_cons] at hl
    cases q : f d with
    | none =>
      rw [q] at e2
      rw [e2, R.bnf_ok]
      show mLcL g t e vs δ (l.map h) acc S = _
      rw [lcL_map h f (by omega) fun d m => hh d (List.mem_cons_of_mem _ m), List.filterMap_cons, q]
    | some y =>
      rw [q] at e2
      rw [e2.1, R.bnf_ok]
      show (e δ1 S).bnf _ = _
      rw [e2.2, R.bnf_ok, if_pos (by omega), lcL_map h f (by rw [List.length_append, List.length_singleton]; omega) fun d m => hh d (List.mem_cons_of_mem _ m), List.filterMap_cons, q]
      simp
theorem lc_map {α : Type} {w : DI} {g : DG} {t : DT} {e : DE} {vs : List Nat} {δ : DEnv} {S S1 : Store} {xs : List α} (h : α → D) (f : α → Option P) (hw : w δ S = .ok (.items (xs.map h)) S1) (hl : xs.length ≤ 100000)
    (hh : ∀ x ∈ xs, ∃ δ1, g (h x) (wipeD δ vs) S1 = .ok δ1 S1 ∧ match f x with
      | some y => t δ1 S1 = .ok true S1 ∧ e δ1 S1 = .ok (.dat y) S1
      | none => t δ1 S1 = .ok false S1) : mLc w g t e vs δ S = .ok ((xs.filterMap f).map .dat) S1 := by
  unfold mLc
  rw [hw, R.bind_ok]
  simp only []
  rw [lcL_map h f (by simpa using hl) hh, R.bnf_ok]
  rfl
theorem lc_all {α : Type} {w : DI} {g : DG} {t : DT} {e : DE} {vs : List Nat} {δ : DEnv} {S S1 : Store} {xs : List α} (h : α → D) (k : α → P) (hw : w δ S = .ok (.items (xs.map h)) S1) (hl : xs.length ≤ 100000)
    (hh : ∀ x ∈ xs, ∃ δ1, g (h x) (wipeD δ vs) S1 = .ok δ1 S1 ∧ t δ1 S1 = .ok true S1 ∧ e δ1 S1 = .ok (.dat (k x)) S1) : mLc w g t e vs δ S = .ok ((xs.map k).map .dat) S1 := by
  rw [lc_map h (fun x => some (k x)) hw hl hh]
  congr 2
  rw [← List.filterMap_eq_map]
  rfl
theorem rngD0 (n : Nat) : rngD 0 n = (List.range n).map fun k => .dat (nv k) := by
  unfold rngD
  refine List.map_congr_left fun k _ => ?_
  rw [Int.zero_add]
  rfl
theorem rng0_ok {a : DA} {δ : DEnv} {S S1 : Store} {n : Nat} (h : a δ S = .ok [.dat (.int (n : Int))] S1) (hn : n ≤ 100000) : mRng1 a δ S = .ok (.items ((List.range n).map fun k => .dat (nv k))) S1 := by rw [rng1_ok h hn, rngD0]
theorem all_lst {S : Store} {bs : List Bool} : aAll S [.dat (.lst (bs.map .bl))] = some (.dat (.bl (bs.all id))) := by
  show ((listP S _).bind boolsP).map _ = _
  rw [listP_l]
  show (boolsP _).map _ = _
  rw [boolsP_map]
  rfl
theorem any_lst {S : Store} {bs : List Bool} : aAny S [.dat (.lst (bs.map .bl))] = some (.dat (.bl (bs.any id))) := by
  show ((listP S _).bind boolsP).map _ = _
  rw [listP_l]
  show (boolsP _).map _ = _
  rw [boolsP_map]
  rfl
theorem inP_nv (h : Nat) (l : List Nat) : inP (nv h) (l.map nv) = decide (h ∈ l) := by
  induction l with
  | nil => rfl
  | cons a l ih =>
    have e : inP (nv h) ((a :: l).map nv) = (eqF (nv a) (nv h) || inP (nv h) (l.map nv)) := rfl
    have e2 : eqF (nv a) (nv h) = decide (h = a) := by
      show ((a : Int) == (h : Int)) = _
      by_cases c : h = a
      · subst c; simp
      · rw [decide_eq_false c]; simpa using fun z : (a : Int) = h => c (by omega)
    rw [e, e2, ih]
    by_cases c : h = a <;> simp [c]
theorem flat_nv (l : List Nat) : (l.map nv).all flatP = true := by
  rw [List.all_map]
  exact List.all_eq_true.mpr fun _ _ => rfl
theorem in_nv {S : Store} {h : Nat} {l : List Nat} : aIn S (.dat (nv h)) (.dat (.lst (l.map nv))) = some (.dat (.bl (decide (h ∈ l)))) := by
  show (match seqP S (.dat (.lst (l.map nv))) with | some l => if flatP (nv h) = true ∧ l.all flatP = true then some (inP (nv h) l) else none | none => none : Option Bool).map dBl = _
  rw [seqP_l]
  simp only []
  rw [if_pos ⟨rfl, flat_nv l⟩, inP_nv]
  rfl
theorem idxF_nv {h : Nat} {l : List Nat} (hm : h ∈ l) : idxF (nv h) (l.map nv) = some (l.idxOf h) := by
  induction l with
  | nil => cases hm
  | cons a l ih =>
    have e2 : eqF (nv a) (nv h) = decide (h = a) := by
      show ((a : Int) == (h : Int)) = _
      by_cases c : h = a
      · subst c; simp
      · rw [decide_eq_false c]; simpa using fun z : (a : Int) = h => c (by omega)
    rw [List.map_cons, idxF, e2, List.idxOf_cons]
    by_cases c : h = a
    · subst c; simp
    · have hm2 : h ∈ l := (List.mem_cons.mp hm).resolve_left c
      rw [if_neg (by simpa using c), ih hm2]
      have : (a == h) = false := by simpa using fun z => c z.symm
      rw [this]; rfl
theorem index_nv {S : Store} {h : Nat} {l : List Nat} (hm : h ∈ l) : rdM fIndex (.dat (.lst (l.map nv))) [.dat (nv h)] S = .ok (.dat (nv (l.idxOf h))) S := by
  show oR (match listP S (.dat (.lst (l.map nv))) with | some l => if flatP (nv h) = true ∧ l.all flatP = true then (idxF (nv h) l).map fun j => dInt (j : Nat) else none | none => none) S = _
  rw [listP_l]
  simp only []
  rw [if_pos ⟨rfl, flat_nv l⟩, idxF_nv hm]
  rfl
theorem cut_take {α : Type} (l : List α) (k : Nat) : cutL l none (some (k : Int)) = l.take k := by
  unfold cutL
  rw [HT.sIx_none, HT.sIx_nat, List.drop_zero, Nat.sub_zero]
  by_cases c : k ≤ l.length
  · rw [Nat.min_eq_left c]
  · rw [Nat.min_eq_right (by omega), List.take_of_length_le (Nat.le_refl _), List.take_of_length_le (by omega)]
theorem sl_take {S : Store} {l : List P} {k : Nat} : aSl S (.dat (.lst l)) none (some (k : Int)) = some (.dat (.lst (l.take k))) := by
  show (listP S _).map _ = _
  rw [listP_l, Option.map_some, cut_take]
theorem lcL_inv {g : DG} {t : DT} {e : DE} {vs : List Nat} {δ : DEnv} (J : Store → Prop) (Pp : P → Prop) : ∀ {l acc : List D} {S : Store}, J S → (acc.length + l.length ≤ 100000) →
    (∀ d ∈ l, ∀ S, J S → ∃ δ1 p S', g d (wipeD δ vs) S = .ok δ1 S ∧ t δ1 S = .ok true S ∧ e δ1 S = .ok (.dat p) S' ∧ J S' ∧ Pp p) → ∃ (ps : List P) (S' : Store), mLcL g t e vs δ l acc S = .ok (acc ++ ps.map .dat) S' ∧ J S' ∧ ps.length = l.length ∧ ∀ p ∈ ps, Pp p
  | [], acc, S, hJ, _, _ => ⟨[], S, by simp [mLcL], hJ, rfl, fun _ h => (nomatch h)⟩
  | d :: l, acc, S, hJ, hl, h => by
    obtain ⟨δ1, p, S', e1, e2, e3, hJ', hp⟩ := h d (List.mem_cons_self ..) S hJ
    rw [List.length_cons] at hl
    obtain ⟨ps, S2, e4, hJ2, hn, hps⟩ := lcL_inv J Pp (l := l) (acc := acc ++ [.dat p]) hJ' (by rw [List.length_append, List.length_singleton]; omega) fun d m => h d (List.mem_cons_of_mem _ m)
    refine ⟨p :: ps, S2, ?_, hJ2, by rw [List.length_cons, List.length_cons, hn], fun q m => ?_⟩
    · unfold mLcL
      rw [e1, R.bnf_ok, e2, R.bnf_ok]
      show (e δ1 S).bnf _ = _
      rw [e3, R.bnf_ok, if_pos (by omega), e4]
      simp
    · rcases List.mem_cons.mp m with rfl | m
      · exact hp
      · exact hps q m
theorem lc_inv {w : DI} {g : DG} {t : DT} {e : DE} {vs : List Nat} {δ : DEnv} {S S1 : Store} {l : List D} (J : Store → Prop) (Pp : P → Prop) (hw : w δ S = .ok (.items l) S1) (hJ : J S1) (hl : l.length ≤ 100000)
    (h : ∀ d ∈ l, ∀ S, J S → ∃ δ1 p S', g d (wipeD δ vs) S = .ok δ1 S ∧ t δ1 S = .ok true S ∧ e δ1 S = .ok (.dat p) S' ∧ J S' ∧ Pp p) : ∃ (ps : List P) (S' : Store), mLc w g t e vs δ S = .ok (ps.map .dat) S' ∧ J S' ∧ ps.length = l.length ∧ ∀ p ∈ ps, Pp p := by
  obtain ⟨ps, S', e1, a⟩ := lcL_inv (acc := []) J Pp hJ (by simpa using hl) h
  refine ⟨ps, S', ?_, a⟩
  unfold mLc
  rw [hw, R.bind_ok]
  simp only []
  rw [e1, R.bnf_ok]
  rfl
theorem fin_ends {r : R Out} {Q : D → Store → Prop} (h : Ends r fun o S => ∃ d, o = .rt d ∧ Q d S) : ∃ d S, fin r = .ok d S ∧ Q d S := by
  obtain ⟨o, S, rfl, d, rfl, q⟩ := h
  exact ⟨d, S, rfl, q⟩
theorem Ends.mono {r : R Out} {Q Q' : Out → Store → Prop} (h : Ends r Q) (k : ∀ o S, Q o S → Q' o S) : Ends r Q' := let ⟨o, S, e, q⟩ := h; ⟨o, S, e, k o S q⟩
theorem Ends.of {o : Out} {S : Store} {Q : Out → Store → Prop} (h : Q o S) : Ends (.ok o S) Q := ⟨_, _, rfl, h⟩
theorem Ends.eq {r r' : R Out} {Q : Out → Store → Prop} (h : Ends r' Q) (e : r = r') : Ends r Q := e ▸ h
theorem fld_ins {FL : List (Addr × Str)} {f : Str} {C : Addr} {l : List (Str × P)} {p : P} {S : Store} (hm : (C, f) ∈ FL) (h : lookPf f l = some p) : fldD FL f S (.dat (.ins C l)) = some (.dat p) := by
  show (if (C, f) ∈ FL then (lookPf f l).map D.dat else none) = _
  rw [if_pos hm, h]; rfl
theorem setF_o {FL : List (Addr × Str)} {f : Str} {C : Addr} {i : Nat} {l : List (Str × D)} {d : D} {S : Store} (ho : S[i]? = some (.ins C l)) (hm : (C, f) ∈ FL) (hl : l.length < 1000) : setF FL f (.obj i) d S = some (S.set i (.ins C (putD f d l))) := by
  show (match S[i]? with | some (.ins C l) => if (C, f) ∈ FL ∧ l.length < 1000 then some (S.set i (.ins C (putD f d l))) else none | _ => none) = _
  rw [ho]
  exact if_pos ⟨hm, hl⟩
theorem get_app {S t : Store} {o : Nat} {x : O} (h : S[o]? = some x) : (S ++ t)[o]? = some x := by
  rw [List.getElem?_append_left (List.getElem?_eq_some_iff.mp h).1]; exact h
theorem get_new {S : Store} {x : O} : (S ++ [x])[S.length]? = some x := by
  rw [List.getElem?_append_right (Nat.le_refl _), Nat.sub_self]; rfl
theorem get_set {S : Store} {o o' : Nat} {x y : O} (n : o' ≠ o) (h : S[o]? = some x) : (S.set o' y)[o]? = some x := by
  rw [List.getElem?_set_ne n]; exact h
theorem get_set_self {S : Store} {o : Nat} {x y : O} (h : S[o]? = some x) : (S.set o y)[o]? = some y := List.getElem?_set_self (List.getElem?_eq_some_iff.mp h).1
theorem lt_of_get {α : Type} {S : List α} {o : Nat} {x : α} (h : S[o]? = some x) : o < S.length := (List.getElem?_eq_some_iff.mp h).1
theorem map_get {α β : Type} {f : α → β} {l : List α} {k : Nat} {x : α} (h : l[k]? = some x) : (l.map f)[k]? = some (f x) := by rw [List.getElem?_map, h]; rfl
theorem fin_eq {r : R Out} {d : D} {S : Store} (h : r = .ok (.rt d) S) : fin r = .ok d S := by rw [h]; rfl
end M3
namespace M3
open PySem PySem.Spec PyProof.Rows L2
/-! ### a written dict asked for None -/
theorem mapOf_L {prog : Program} {w : World} {K : PySem.W.Frag} {h : Heap} {a : Addr} {es : Array DictEntry} {n : Nat} (X : K.In h) (hl : K.lookup a = some ⟨.type "dict", none, .dict es n, #[]⟩) (hk : PySem.W.KeysLit w.params es.toList) : h.MapOf (leafKind prog w) a (fun k => findBy Leaf.isOf es k) :=
  ⟨_, es, n, X _ _ hl, ⟨rfl, rfl, rfl⟩, rfl, fun e he => by
    obtain ⟨x, t, e1, e2⟩ := hk.all e (Array.mem_toList_iff.mpr he)
    exact ⟨.text x, by rw [e1]; exact PySem.strKind_is prog w x t, e2⟩, fun _ => rfl⟩
theorem find_non {P : Params} {es : Array DictEntry} (hk : PySem.W.KeysLit P es.toList) : findBy Leaf.isOf es .none = none := by
  unfold findBy
  have : es.find? (fun e => Leaf.isOf .none e.key) = none := by
    rw [Array.find?_eq_none]
    intro e he
    obtain ⟨x, t, e1, _⟩ := hk.all e (Array.mem_toList_iff.mpr he)
    rw [e1]
    exact Bool.false_ne_true
  rw [this]; rfl
theorem op_in_non {X : Cx} {d : Addr} {es : Array DictEntry} {n : Nat} (D : KDict X.K X.w d es n) : OpR X (compareOp .In) (fun x y H Q => x = .non ∧ y = .ref d ∧ Q (.bl false) H) := by
  intro pins s σ H x y v u Q I rx ry h
  obtain ⟨rfl, rfl, q⟩ := h
  cases (show v = Value.none from rx)
  cases (show u = Value.ref d from ry)
  refine wpAny_in_of (knd := leafKind X.prog X.w) (k := .none) rfl D.low (mapOf_L (prog := X.prog) I.kIn D.at_ D.lit) ?_
  rw [find_non D.lit]
  exact ⟨.bl false, H, I.tok _, rfl, q⟩
/-! ### a written dict: text keys, values that never change -/
structure TabOk (K : PySem.W.Frag) (w : World) (t : Addr) (kvs : List (Str × P)) : Prop where
  ex : ∃ kv : List (Str × V), W2.KD K w t kv ∧ ∀ z, match lookPf z kvs with
    | none => kv.lookup z = none
    | some p => ∃ v, kv.lookup z = some v ∧ ∀ ι X H, RepP K ι X H p v
def rInTab (t : Addr) (kvs : List (Str × P)) : R2 := fun x y H Q => y = .ref t ∧ ((x = .non ∧ Q (.bl false) H) ∨ ∃ z, x = .str z ∧ Q (.bl (lookPf z kvs).isSome) H)
def rIxTab (K : PySem.W.Frag) (t : Addr) (kvs : List (Str × P)) : R2 := fun x y H Q => x = .ref t ∧ ∃ z p, y = .str z ∧ lookPf z kvs = some p ∧ ∀ v, (∀ ι X H', RepP K ι X H' p v) → Q v H
theorem op_inTab {X : Cx} {K : PySem.W.Frag} {t : Addr} {kvs : List (Str × P)} (hK : X.K = K) (T : TabOk K X.w t kvs) : OpR X (compareOp .In) (rInTab t kvs) := by
  subst hK
  obtain ⟨kv, D, hv⟩ := T.ex
  obtain ⟨es, n, KDc⟩ := D.ex
  intro pins s σ H x y v u Q I rx ry h
  obtain ⟨hy, ⟨hx, q⟩ | ⟨z, hx, q⟩⟩ := h
  · exact op_in_non KDc pins s σ H x y v u Q I rx ry ⟨hx, hy, q⟩
  · refine op_in_kd KDc pins s σ H x y v u Q I rx ry ?_
    have hz := hv z
    cases e : lookPf z kvs with
    | none =>
      rw [e] at hz q
      exact ⟨z, none, hx, hy, D.miss z hz, q⟩
    | some p =>
      rw [e] at hz q
      obtain ⟨v0, e1, _⟩ := hz
      obtain ⟨u0, e2, _⟩ := D.hit z v0 e1
      exact ⟨z, some u0, hx, hy, e2, q⟩
theorem ix_Tab {X : Cx} {K : PySem.W.Frag} {t : Addr} {kvs : List (Str × P)} (hK : X.K = K) (T : TabOk K X.w t kvs) : IxR X (rIxTab K t kvs) := by
  subst hK
  obtain ⟨kv, D, hv⟩ := T.ex
  intro value slice pins s σ H x y v u Q I rx ry h hs
  obtain ⟨hx, z, p, hy, e, q⟩ := h
  have hz := hv z
  rw [e] at hz
  obtain ⟨v0, e1, r⟩ := hz
  exact W2.ix_KD D value slice pins s σ H x y v u Q I rx ry ⟨z, v0, hx, hy, e1, q v0 r⟩ hs
section
variable {K : PySem.W.Frag}
def aInTab (t : Addr) (kvs : List (Str × P)) : Store → D → D → Option D := fun _ x y => match x, y with
  | .dat .non, .dat (.con (.ref a)) => if a = t then some (dBl false) else none
  | .dat (.str z), .dat (.con (.ref a)) => if a = t then some (dBl (lookPf z kvs).isSome) else none
  | _, _ => none
def aIxTab (t : Addr) (kvs : List (Str × P)) : Store → D → D → Option D := fun _ x y => match x, y with
  | .dat (.con (.ref a)), .dat (.str z) => if a = t then (lookPf z kvs).map .dat else none
  | _, _ => none
theorem inTab_ok {t : Addr} {kvs : List (Str × P)} : R2S K (rInTab t kvs) (aInTab t kvs) := by
  intro ι X S H x y v u d Q rel rx ry e k
  unfold aInTab at e
  split at e
  · split at e
    · rename_i h
      cases e
      subst h
      exact ⟨rC_inv ry, .inl ⟨rN_inv rx, k H _ Ext.refl rel rd_bl⟩⟩
    · cases e
  · split at e
    · rename_i h
      cases e
      subst h
      exact ⟨rC_inv ry, .inr ⟨_, rS_inv rx, k H _ Ext.refl rel rd_bl⟩⟩
    · cases e
  · cases e
theorem ixTab_ok {t : Addr} {kvs : List (Str × P)} : R2S K (rIxTab K t kvs) (aIxTab t kvs) := by
  intro ι X S H x y v u d Q rel rx ry e k
  unfold aIxTab at e
  split at e
  · split at e
    · rename_i z h
      subst h
      cases q : lookPf z kvs with
      | none => rw [q] at e; cases e
      | some p =>
        rw [q] at e
        cases e
        exact ⟨rC_inv rx, z, p, rS_inv ry, q, fun v r => k H v Ext.refl rel (r ι X H)⟩
    · cases e
  · cases e
end
/-! ### the written dict made -/
inductive KAll (P : Params) : List DictEntry → List (Str × V) → Prop
  | nil : KAll P [] []
  | cons {e : DictEntry} {es : List DictEntry} {z : Str} {v : V} {kv : List (Str × V)} (k : ∃ τ, e.key = .str z τ) (h : e.hash = PyData.keyHash P z) (r : RelV v e.val) (t : KAll P es kv) : KAll P (e :: es) ((z, v) :: kv)
theorem KAll.lit {P : Params} {es : List DictEntry} {kv : List (Str × V)} (h : KAll P es kv) : PySem.W.KeysLit P es := by
  induction h with
  | nil => trivial
  | cons k h r t ih =>
    obtain ⟨τ, k⟩ := k
    exact ⟨⟨_, τ, k, h⟩, ih⟩
theorem KAll.find {P : Params} {es : List DictEntry} {kv : List (Str × V)} (h : KAll P es kv) (z : Str) : (match kv.lookup z with
    | some v => ∃ e, es.find? (·.key.isStr z) = some e ∧ RelV v e.val
    | none => es.find? (·.key.isStr z) = none) ∧ es.any (·.refKey) = false := by
  induction h with
  | nil => exact ⟨rfl, rfl⟩
  | @cons e es x v kv k h r t ih =>
    obtain ⟨τ, k⟩ := k
    refine ⟨?_, ?_⟩
    · by_cases q : z = x
      · subst q
        have e1 : List.lookup z ((z, v) :: kv) = some v := by simp [List.lookup]
        rw [e1]
        refine ⟨e, ?_, r⟩
        rw [List.find?_cons, k]
        show (match (z == z) with | true => some e | false => _) = _
        simp
      · have e1 : List.lookup z ((x, v) :: kv) = List.lookup z kv := by
          have : (z == x) = false := by simpa using q
          simp [List.lookup, this]
        have e2 : (e :: es).find? (·.key.isStr z) = es.find? (·.key.isStr z) := by
          rw [List.find?_cons, k]
          have : (Value.str x τ).isStr z = false := by
            show (x == z) = false
            simpa using fun c : x = z => q c.symm
          rw [this]
        rw [e1, e2]
        exact ih.1
    · rw [List.any_cons, ih.2, Bool.or_false]
      show e.refKey = false
      unfold DictEntry.refKey
      rw [k]
theorem kd_of {K : PySem.W.Frag} {w : World} {t : Addr} {es : List DictEntry} {n : Nat} {kv : List (Str × V)} (l : K.lookup t = some ⟨.type "dict", none, .dict es.toArray n, #[]⟩) (low : (t == sysModules) = false) (h : KAll w.params es kv) : W2.KD K w t kv := by
  have ns : ∀ z, PySem.W.nsIn K t z = (match es.find? (·.key.isStr z) with
      | some e => some (some e.val)
      | none => if es.any (·.refKey) then none else some none) := fun z => by
    unfold PySem.W.nsIn
    rw [l]
    rfl
  refine ⟨⟨es.toArray, n, l, h.lit, low⟩, fun z v e => ?_, fun z e => ?_⟩
  · have := (h.find z).1
    rw [e] at this
    obtain ⟨en, e1, r⟩ := this
    refine ⟨en.val, ?_, r⟩
    rw [ns, e1]
  · have := (h.find z).1
    rw [e] at this
    rw [ns, this, (h.find z).2]
    rfl
inductive TabAll (K : PySem.W.Frag) : List (Str × V) → List (Str × P) → Prop
  | nil : TabAll K [] []
  | cons {z z' : Str} {v : V} {p : P} {kv : List (Str × V)} {kp : List (Str × P)} (h : z = z' ∧ ∀ ι X H, RepP K ι X H p v) (t : TabAll K kv kp) : TabAll K ((z, v) :: kv) ((z', p) :: kp)
theorem tab_mk {K : PySem.W.Frag} {kv : List (Str × V)} {kp : List (Str × P)} (h : TabAll K kv kp) : ∀ z, match lookPf z kp with
    | none => kv.lookup z = none
    | some p => ∃ v, kv.lookup z = some v ∧ ∀ ι X H, RepP K ι X H p v := by
  induction h with
  | nil => exact fun z => rfl
  | @cons x x' v p kv kp h t ih =>
    obtain ⟨rfl, h⟩ := h
    intro z
    by_cases q : z = x
    · subst q
      have e1 : List.lookup z ((z, v) :: kv) = some v := by simp [List.lookup]
      have e2 : lookPf z ((z, p) :: kp) = some p := if_pos rfl
      rw [e2]
      exact ⟨v, e1, h⟩
    · have e1 : List.lookup z ((x, v) :: kv) = List.lookup z kv := by
        have : (z == x) = false := by simpa using q
        simp [List.lookup, this]
      have e2 : lookPf z ((x, p) :: kp) = lookPf z kp := if_neg q
      rw [e2, e1]
      exact ih z
theorem rep_strs {K : PySem.W.Frag} {ι X : List Addr} {H : Hp} (l : List Str) : RepPs K ι X H (l.map .str) (l.map V.str) := by
  induction l with
  | nil => show RepPs K ι X H [] []; rw [RepPs]
  | cons s l ih =>
    show RepPs K ι X H (.str s :: l.map .str) (V.str s :: l.map V.str)
    rw [RepPs]
    exact ⟨_, _, rfl, by rw [RepP], ih⟩
theorem rep_txt {K : PySem.W.Frag} {a : Addr} {dd : Option Addr} {its : Array Value} {n : Nat} {sl : Array (Option Value)} (l : List Str) (h : K.lookup a = some ⟨.type "tuple", dd, .seq its n, sl⟩) (hz : its.size ≤ 100) (r : Vals (l.map V.str) its.toList) : ∀ ι X H, RepP K ι X H (.tup (l.map .str)) (.ref a) := fun ι X H => by
  rw [RepP]
  exact ⟨a, l.map V.str, rfl, .inr ⟨_, its, n, h, rfl, rfl, Nat.le_trans hz (small (by decide)), r⟩, rep_strs l⟩
/-! ### {} -/
def mDnew : DE := fun _ S => .ok (.dat (.dic [])) S
theorem se_dnew {K : PySem.W.Frag} {W : L2.St → WK} : SE K W tDNewK mDnew := by
  intro ι X S H σ δ Q rel re h p hp
  have x2 := ext_alloc (o := .dK []) rel hp
  have na : p ∉ ι ∧ p ∉ X := rel.nin hp
  refine h ι _ (.ref p) x2 (rel.alloc hp) ?_
  show RepP K ι X _ (.dic []) _
  rw [RepP]
  refine ⟨p, [], rfl, na.1, na.2, upd_same, ?_⟩
  rw [RepKs]
/-! ### try .. except C as n: return (text, n.f) -/
def mTryAsF (K : PySem.W.Frag) (c : Value) (C0 : Addr) (i : Nat) (cst f : Str) (b : DS) : DS := fun δ S => match b δ S with
  | .ok (.ex C x δ1) S1 => (match PySem.W.exmOne K (.ref C) c with
    | some true => (match x with
      | some (f', p) => if f' = f ∧ C = C0 ∧ i < δ1.length then .ok (.rt (.dat (.tup [.str cst, p]))) S1 else .fail
      | none => .fail)
    | some false => .ok (.ex C x δ1) S1
    | none => .fail)
  | r => r
theorem ss_tryAsF {K : PySem.W.Frag} {c : Value} {C0 : Addr} {i : Nat} {cst f : Str} {tb : WX → TS} {Wout : WX} {b : DS} {tby : Addr → Value → Option Addr → TE → TE} (hb : ∀ W' : WX, SS K (wk W') (tb W') b)
    (htby : ∀ a cls d te, tby a cls d te = fun σ H Q => te σ H fun x H1 => x = .ref a ∧ cls = .ref C0 ∧ ∃ (dd : Addr) (v : V), d = some dd ∧ H1 dd = some (.xd [(f, v)]) ∧ Q v H1) :
    SS K (wk Wout) (fun D σ H => tb (wAs K c i (fun a cls d => tRet (tTup (tCons (tC (.str cst)) (tCons (tby a cls d (tVar i)) tNil)))) Wout D) D σ H) (mTryAsF K c C0 i cst f b) := by
  intro ι X S H σ δ E rel re hp
  refine hb _ ι X S H σ δ E rel re ?_
  unfold mTryAsF at hp
  cases e : b δ S with
  | fail => rw [e] at hp; exact hp
  | exc C x S1 => rw [e] at hp; exact hp
  | ok o S1 =>
    rw [e] at hp
    cases o with
    | nx δ1 => exact hp
    | bk δ1 => exact hp
    | ct δ1 => exact hp
    | rt d => exact hp
    | ex C x δ1 =>
      simp only at hp
      intro ι1 H1 da σ1 x1 rel1 rx re1
      cases q : PySem.W.exmOne K (.ref C) c with
      | none => rw [q] at hp; exact hp.elim
      | some bb =>
        rw [q] at hp
        refine ⟨bb, q, fun eb a ha => ?_, fun eb => ?_⟩
        · subst eb
          cases x with
          | none => exact hp.elim
          | some z =>
            obtain ⟨f', p⟩ := z
            simp only at hp
            by_cases cc : f' = f ∧ C = C0 ∧ i < δ1.length
            · rw [if_pos cc] at hp
              obtain ⟨rfl, rfl, hi⟩ := cc
              obtain ⟨dd, v, ed, ex, rp⟩ := rx
              have hi2 : i < σ1.length := by rw [← re1.1]; exact hi
              show tTup _ _ H1 _
              unfold tTup tCons tC
              rw [htby]
              refine ⟨.ref a, List.getElem?_set_self hi2, rfl, rfl, dd, v, ed, ex, ?_⟩
              refine ⟨small (by show 2 ≤ 100000; decide), fun t ht => ?_⟩
              have x2 := ext_alloc (o := .tup [.str cst, v]) rel1 ht
              have r2 := rel1.alloc (o := .tup [.str cst, v]) ht
              refine hp ι1 _ (.ref t) (x1.trans x2) r2 ?_
              show RepP K ι1 X _ (.tup [.str cst, p]) _
              rw [RepP]
              have na : t ∉ ι1 ∧ t ∉ X := rel1.nin ht
              refine ⟨t, _, rfl, .inl ⟨na.1, na.2, .inl upd_same⟩, ?_⟩
              rw [RepPs]
              refine ⟨_, _, rfl, by rw [RepP], ?_⟩
              rw [RepPs]
              refine ⟨_, _, rfl, RepP.ext x2 rp, ?_⟩
              rw [RepPs]
            · rw [if_neg cc] at hp; exact hp.elim
        · subst eb
          exact hp ι1 H1 da σ1 x1 rel1 rx re1
end M3
namespace M3
open PySem PySem.Spec PyProof.Rows L2
/-! ### try, its parts kept apart -/
def tTry (tb : WX → TS) (wf : L2.Ends → WX) : TS := fun D σ H => tb (wf D) D σ H
section
variable {X : Cx} {x n : Str} {c : Value} {i : Nat} {body suite : List Stmt} {b₀ : Stmt} {np pos pos' : Pos} {tb : WX → TS} {ts : Addr → Value → Option Addr → TS} {Wout : WX}
theorem ps_tryO (hs : X.stack = X.env :: X.outer) (hf : X.env.frame = some X.env.locals) (hc : Names X x c) (tk : Takes X Wout)
    (hb : ∀ (W : WX) (pn : List (Addr × Obj)) (xe : Value → Shared → Prop), Takes (X.tr pn xe) W → PassesOwn (model X.prog X.w) X.A X.env xe → PSs (X.tr pn xe) body (tb W))
    (hsu : ∀ (a : Addr) (oe : Obj) (cls : Value) (d : Option Addr) (pn : List (Addr × Obj)), Zc cls d oe → (∃ vs, oe.data = .fields vs) → PSs (X.suite a ((a, oe) :: pn)) (b₀ :: suite) (ts a cls d)) :
    PS X (.Try body [.ExceptHandler (some (.Name x np)) none (b₀ :: suite) pos'] [] [] pos) (tTry tb (wOnly X.K c ts Wout)) := ps_try_only hs hf hc tk hb hsu
theorem ps_tryA (hs : X.stack = X.env :: X.outer) (hf : X.env.frame = some X.env.locals) (hN : X.N.Nodup) (hi : X.N[i]? = some n) (hln : X.env.kindOf n = some .local) (hc : Names X x c) (tk : Takes X Wout)
    (hb : ∀ (W : WX) (pn : List (Addr × Obj)) (xe : Value → Shared → Prop), Takes (X.tr pn xe) W → PassesOwn (model X.prog X.w) X.A X.env xe → PSs (X.tr pn xe) body (tb W))
    (hsu : ∀ (a : Addr) (oe : Obj) (cls : Value) (d : Option Addr) (pn : List (Addr × Obj)), Zc cls d oe → (∃ vs, oe.data = .fields vs) → PSs (X.suite a ((a, oe) :: pn)) (b₀ :: suite) (ts a cls d)) :
    PS X (.Try body [.ExceptHandler (some (.Name x np)) (some n) (b₀ :: suite) pos'] [] [] pos) (tTry tb (wAs X.K c i ts Wout)) := ps_try_as hs hf hN hi hln hc tk hb hsu
end
section
variable {K : PySem.W.Frag}
theorem ss_tryO {c : Value} {tb : WX → TS} {ts : Addr → Value → Option Addr → TS} {Wout : WX} {b h : DS} (hb : ∀ W' : WX, SS K (wk W') (tb W') b) (hh : ∀ a cls d, SS K WF (ts a cls d) h) :
    SS K (wk Wout) (tTry tb (wOnly K c ts Wout)) (mTryOnly K c b h) := ss_tryOnly hb hh
theorem ss_tryA {c : Value} {C0 : Addr} {i : Nat} {cst f : Str} {tb : WX → TS} {Wout : WX} {b : DS} {tby : Addr → Value → Option Addr → TE → TE} (hb : ∀ W' : WX, SS K (wk W') (tb W') b)
    (htby : ∀ a cls d te, tby a cls d te = fun σ H Q => te σ H fun x H1 => x = .ref a ∧ cls = .ref C0 ∧ ∃ (dd : Addr) (v : V), d = some dd ∧ H1 dd = some (.xd [(f, v)]) ∧ Q v H1) :
    SS K (wk Wout) (tTry tb (wAs K c i (fun a cls d => tRet (tTup (tCons (tC (.str cst)) (tCons (tby a cls d (tVar i)) tNil)))) Wout)) (mTryAsF K c C0 i cst f b) := ss_tryAsF hb htby
theorem body_all {n : Nat} {N : List Str} {cx : Cx} {body : List Stmt} {t : TS} {b : DS} {vs : List V} {H : Hp} {Q : VK} {E : XK} (hp : PSs cx body t) (hb : SS K (wk fun cls d _ H => E cls d H) t b) (h : spM K n (mBody N.length b) vs H Q E) :
    ∃ t, PSs cx body t ∧ t { nx := fun _ H' => Q .non H', rt := Q } (L2.start N vs) H := ⟨t, hp, body_ok hb h⟩
end
end M3
namespace M3
open PySem PySem.Spec PyProof.Rows L2
/-! ### == by an own __eq__ -/
theorem op_eqX {X : Cx} {K : PySem.W.Frag} {C g : Addr} {n j : Nat} {fd : FuncData} {ps : List Str} {sp : Sp} (hK : X.K = K) (hs : PySem.W.findIn K (.ref C) "__eq__" = some (some (.ref g))) (hf : PySem.W.isFn K (.ref g) = true) (F : FnOk X.prog X.w X.K X.mg X.base (L2.CX X.prog X.w) n g fd ps sp) (hb : Binds X.K fd ps [])
    (hr : Room j X.A) (hj : n ≤ j) : OpR X (compareOp .Eq) (rEqI K C sp) := by
  subst hK
  intro pins s σ H x y v u Q I rx ry h
  obtain ⟨a, dx, fs, t, rfl, ea, ty, hn, q⟩ := h
  cases (show v = Value.ref a from rx)
  obtain ⟨mA, O, _⟩ := ins_get I.hok ea
  obtain ⟨od, J, _⟩ := O.look
  obtain ⟨P, Z, p, hx⟩ := kit_of I ry ty
  obtain ⟨m, hF⟩ := I.fr
  refine PySem.W.cmp_K (op := .Eq) (tb := t) hr.units0 hF I.ok.mod.kin J (Z.ty _ _ I.kIn p) hn hs hf ?_
  refine wpAny_mono (run_fn (us := [.ref a, u]) (vs := [.ref a, y]) F (hr.mono hj) hb .nil passF I (.cons rfl (.cons ry .nil)) q) (fun w s' z => ?_) fun _ _ x => x
  obtain ⟨z', H', I', rz, qz⟩ := z
  exact SlX.cmpback rz ⟨z', H', I', rz, qz⟩
/-- the classes whose == is known not to be asked first -/
def aEqX (K : PySem.W.Frag) (CS : List Addr) (C : Addr) (m : List D → Store → R D) : Store → D → D → Option D := fun S x y => match x with
  | .dat (.ins C' _) => if C' = C then (match tyD CS S y with
    | some t => if PySem.W.notFirst K C t = true then (match mPure m [x, y] S with
      | .ok (.dat (.bl b)) _ => some (dBl b)
      | _ => none) else none
    | none => none) else none
  | _ => none
theorem pure_same {f : List D → Store → R D} {ds : List D} {S S' : Store} {d : D} (h : mPure f ds S = .ok d S') : S' = S := by
  unfold mPure at h
  cases e : datAll ds with
  | none => rw [e] at h; cases h
  | some ps =>
    rw [e] at h
    simp only at h
    cases q : f ds [] with
    | fail => rw [q] at h; cases h
    | exc C x S1 => rw [q] at h; cases h
    | ok d1 S1 =>
      rw [q] at h
      cases d1 with
      | dat p => cases h; rfl
      | obj i =>
        simp only at h
        cases z : frz1 S1 i with
        | none => rw [z] at h; cases h
        | some p => rw [z] at h; cases h; rfl
theorem eqX_ok {K : PySem.W.Frag} {CS : List Addr} {C : Addr} {m : List D → Store → R D} (O : OwnCs K CS) : R2S K (rEqI K C (spM K 2 (mPure m))) (aEqX K CS C m) := by
  intro ι X S H x y v u d Q rel rx ry e k
  unfold aEqX at e
  split at e
  · rename_i C' l
    split at e
    · rename_i hC
      subst hC
      cases et : tyD CS S y with
      | none => rw [et] at e; cases e
      | some t =>
        rw [et] at e
        simp only at e
        split at e
        · rename_i hn
          split at e
          · rename_i b S' em
            cases e
            have hS := pure_same em
            subst hS
            have rx' : RepP K ι X H (.ins C' l) v := rx
            rw [RepP] at rx'
            obtain ⟨a, dx, xs, rfl, n1, n2, ea, _⟩ := rx'
            refine ⟨a, dx, xs, t, rfl, ea, tyD_rep O rel et ry, hn, rfl, ι, X, S', [.dat (.ins C' l), y], rel, ⟨_, _, rfl, rx, ⟨_, _, rfl, ry, rfl⟩⟩, ?_⟩
            rw [em]
            intro ι' H' w x1 rel1 rw1
            obtain ⟨t', rfl⟩ := x1.pre
            have hl : t' = [] := by
              have a1 := rel1.len
              have a2 := rel.len
              rw [List.length_append] at a1
              exact List.length_eq_zero_iff.mp (by omega)
            subst hl
            rw [List.append_nil] at x1 rel1 rw1
            exact k H' w x1 rel1 rw1
          · cases e
        · cases e
    · cases e
  · cases e
end M3
namespace M3
open PySem PySem.Spec PyProof.Rows L2
/-! ### zip of two walks of unlike kinds: a tuple and a list -/
/-- tells of these places alone -/
def Of (cs : List Addr) (P : Heap → Prop) : Prop := ∀ h h' : Heap, (∀ c ∈ cs, ∀ o, h.get? c = some o → h'.get? c = some o) → P h → P h'
/-- the walk at i, standing at P, gives x and stands at P' -/
def Giv (i : Addr) (P P' : Heap → Prop) (x : Value) : Prop := ∀ (prog : Program) (w : World) (A : Around) (E Q : Value → Shared → Prop) (s : Shared), P s.heap →
  (∀ h', P' h' → Heap.SameBut i s.heap h' → Q x { s with heap := h' }) → wpAny (model prog w) A (Builtin.SmallTypes.nextOf (.ref i)) Q E s
/-- the walk at i is at its end -/
def Fin' (i : Addr) (P : Heap → Prop) : Prop := ∀ (prog : Program) (w : World) (A : Around) (E Q : Value → Shared → Prop) (s : Shared), A.handled = none → P s.heap →
  (∀ h' e, Heap.ExtBut i s.heap h' → (∃ o, h'.get? e = some o ∧ o.cls = .type "StopIteration") → E (.ref e) { s with heap := h' }) → wpAny (model prog w) A (Builtin.SmallTypes.nextOf (.ref i)) Q E s
theorem Of.but {cs : List Addr} {P : Heap → Prop} {h h' : Heap} {i : Addr} (o : Of cs P) (x : Heap.ExtBut i h h') (n : i ∉ cs) (p : P h) : P h' := o h h' (fun c m u e => x c u (fun q => n (q ▸ m)) e) p
/-- where all this lies -/
structure Lie (z TI TO i j : Addr) (cs ds : List Addr) : Prop where
  zc : z ∉ cs
  tc : TO ∉ cs
  jc : j ∉ cs
  zd : z ∉ ds
  td : TO ∉ ds
  id' : i ∉ ds
  Iz : TI ≠ z
  Oz : TO ≠ z
  iz : i ≠ z
  jz : j ≠ z
  Oi : TO ≠ i
  Oj : TO ≠ j
section
variable {prog : Program} {w : World} {A : Around} {E : Value → Shared → Prop} {s : Shared} {z TI TO i j : Addr} {cs ds : List Addr} {P P' U U' : Heap → Prop} {x y a b : Value}
theorem gz_item {Q : Value → Shared → Prop} (L : Lie z TI TO i j cs ds) (oP : Of cs P) (oP' : Of cs P') (oU : Of ds U) (oU' : Of ds U') (gP : Giv i P P' x) (gU : Giv j U U' y)
    (hz : IsZip s.heap z TI TO .none) (hI : IsPair s.heap TI (.ref i) (.ref j)) (hO : IsPair s.heap TO a b) (p : P s.heap) (u : U s.heap)
    (k : ∀ h', IsZip h' z TI TO (rawInt s.heap.objs.size) → IsPair h' TO x y → P' h' → U' h' → IsPair h' s.heap.objs.size x y → h'.objs.size = s.heap.objs.size + 1 → (∀ c o, c ≠ z → c ≠ TO → c ≠ i → c ≠ j → s.heap.get? c = some o → h'.get? c = some o) → Q (.ref s.heap.objs.size) { s with heap := h' }) :
    wpAny (model prog w) A (Builtin.«zip.__next__» ⟨[.ref z], []⟩) (fun fin s' => ∃ v, fin = .done (.ret v) ∧ Q v s') E s := by
  show wpAny _ _ (field (.ref z) 2 >>= _) _ _ _; refine wpAny_bind (wpAny_field hz rfl (x := .bool false) rfl ?_)
  show wpAny _ _ (field (.ref z) 3 >>= _) _ _ _; refine wpAny_bind (wpAny_field hz rfl (x := .ref TI) rfl (wpAny_bind (wpAny_seqItems hI rfl ?_)))
  show wpAny _ _ (Builtin.SmallTypes.ownedTupleIsFree (.ref z) >>= _) _ _ _; refine wpAny_bind ?_
  unfold Builtin.SmallTypes.ownedTupleIsFree; refine wpAny_bind (wpAny_field hz rfl (x := .none) rfl (wpAny_pure ?_))
  simp only [if_true]; refine wpAny_bind (wpAny_rule (wpAny_bind (wpAny_field hz rfl (x := .ref TO) rfl (wpAny_bind (wpAny_setField_rec hz (by simp) fun a1 za t1 => wpAny_bind ?_)))))
  have za' : IsZip a1 z TI TO .ellipsis := za
  simp only [List.zipIdx_cons, List.zipIdx_nil, List.forIn_cons, List.forIn_nil]; refine wpAny_bind (wpAny_bind (wpAny_onRaise ?_))
  show wpAny _ _ (Builtin.SmallTypes.nextOf (.ref i) >>= _) _ _ _; refine wpAny_bind (gP _ _ _ _ _ _ (oP.but t1.extBut L.zc p) fun a2 p2 t2 => wpAny_pure ?_)
  have O2 : IsPair a2 TO a b := t2.extBut _ _ L.Oi (t1.extBut _ _ L.Oz hO)
  refine wpAny_bind (wpAny_seqItems O2 rfl (wpAny_bind (wpAny_updateSeq_pair O2 fun a3 O3 t3 => wpAny_bind (wpAny_letGo (wpAny_pure ?_)))))
  have O3' : IsPair a3 TO x b := O3
  refine wpAny_bind (wpAny_bind (wpAny_onRaise ?_))
  show wpAny _ _ (Builtin.SmallTypes.nextOf (.ref j) >>= _) _ _ _; refine wpAny_bind (gU _ _ _ _ _ _ (oU.but t3.extBut L.td (oU.but t2.extBut L.id' (oU.but t1.extBut L.zd u))) fun a4 u4 t4 => wpAny_pure ?_)
  have O4 : IsPair a4 TO x b := t4.extBut _ _ L.Oj O3'
  refine wpAny_bind (wpAny_seqItems O4 rfl (wpAny_bind (wpAny_updateSeq_pair O4 fun a5 O5 t5 => wpAny_bind (wpAny_letGo (wpAny_pure (wpAny_pure ?_))))))
  have O5' : IsPair a5 TO x y := O5
  refine wpAny_bind (wpAny_seqItems O5' rfl (wpAny_bind (wpAny_newTuple ?_)))
  have sz : a5.objs.size = s.heap.objs.size := by rw [t5.1, t4.1, t3.1, t2.1, t1.1]
  have z5 : IsZip a5 z TI TO .ellipsis := t5.extBut _ _ (Ne.symm L.Oz) (t4.extBut _ _ (Ne.symm L.jz) (t3.extBut _ _ (Ne.symm L.Oz) (t2.extBut _ _ (Ne.symm L.iz) za')))
  have ke : ∀ c o, c ≠ z → c ≠ TO → c ≠ i → c ≠ j → s.heap.get? c = some o → a5.get? c = some o := fun c o q1 q2 q3 q4 e => t5.extBut _ _ q2 (t4.extBut _ _ q4 (t3.extBut _ _ q2 (t2.extBut _ _ q3 (t1.extBut _ _ q1 e))))
  have p5 : P' a5 := oP'.but t5.extBut L.tc (oP'.but t4.extBut L.jc (oP'.but t3.extBut L.tc p2))
  have u5 : U' a5 := oU'.but t5.extBut L.td u4
  have zl : z < a5.objs.size := Heap.lt_size z5
  show wpAny _ _ (Builtin.SmallTypes.ownedTupleHandOut (.ref z) (.ref a5.objs.size) >>= _) _ _ _; refine wpAny_bind ?_
  unfold Builtin.SmallTypes.ownedTupleHandOut
  have z6 : IsZip (a5.push { cls := .type "tuple", data := .seq #[x, y] }) z TI TO .ellipsis := Heap.get?_push_of_some _ z5
  refine wpAny_bind (wpAny_setField_rec z6 (by simp) fun a7 z7 t7 => ?_)
  have z7' : IsZip a7 z TI TO (rawInt a5.objs.size) := z7
  refine wpAny_setField_rec z7' (by simp) fun a8 z8 t8 => ?_
  have z8' : IsZip a8 z TI TO (rawInt a5.objs.size) := z8
  have up : ∀ c o, c ≠ z → a5.get? c = some o → a8.get? c = some o := fun c o q e => t8.extBut _ _ q (t7.extBut _ _ q (Heap.get?_push_of_some _ e))
  have T8 : IsPair a8 a5.objs.size x y := t8.extBut _ _ (Nat.ne_of_gt zl) (t7.extBut _ _ (Nat.ne_of_gt zl) (Heap.get?_push_size _ rfl))
  have s8 : a8.objs.size = a5.objs.size + 1 := by rw [t8.1, t7.1, Heap.size_push]
  have p8 : P' a8 := oP' _ _ (fun c m o e => up c o (fun q => L.zc (q ▸ m)) e) p5
  have u8 : U' a8 := oU' _ _ (fun c m o e => up c o (fun q => L.zd (q ▸ m)) e) u5
  rw [sz] at z8' T8 s8; refine wpAny_pure ⟨_, rfl, ?_⟩
  show Q (.ref a5.objs.size) _; rw [sz]
  exact k a8 z8' (up _ _ L.Oz O5') p8 u8 T8 s8 fun c o q1 q2 q3 q4 e => up c o q1 (ke c o q1 q2 q3 q4 e)
theorem gz_end {Q : Fin → Shared → Prop} (hh : A.handled = none) (L : Lie z TI TO i j cs ds) (oP : Of cs P) (oU : Of ds U) (hend : Fin' i P ∨ (∃ P' x, Giv i P P' x) ∧ Fin' j U)
    (hz : IsZip s.heap z TI TO .none) (hI : IsPair s.heap TI (.ref i) (.ref j)) (hO : IsPair s.heap TO a b) (p : P s.heap) (u : U s.heap)
    (k : ∀ h' e, (∀ c o, c ≠ z → c ≠ TO → c ≠ i → c ≠ j → s.heap.get? c = some o → h'.get? c = some o) → (∃ o, h'.get? e = some o ∧ o.cls = .type "StopIteration") → E (.ref e) { s with heap := h' }) :
    wpAny (model prog w) A (Builtin.«zip.__next__» ⟨[.ref z], []⟩) Q E s := by
  show wpAny _ _ (field (.ref z) 2 >>= _) _ _ _; refine wpAny_bind (wpAny_field hz rfl (x := .bool false) rfl ?_)
  show wpAny _ _ (field (.ref z) 3 >>= _) _ _ _; refine wpAny_bind (wpAny_field hz rfl (x := .ref TI) rfl (wpAny_bind (wpAny_seqItems hI rfl ?_)))
  show wpAny _ _ (Builtin.SmallTypes.ownedTupleIsFree (.ref z) >>= _) _ _ _; refine wpAny_bind ?_
  unfold Builtin.SmallTypes.ownedTupleIsFree; refine wpAny_bind (wpAny_field hz rfl (x := .none) rfl (wpAny_pure ?_))
  simp only [if_true]; refine wpAny_bind (wpAny_rule (wpAny_bind (wpAny_field hz rfl (x := .ref TO) rfl (wpAny_bind (wpAny_setField_rec hz (by simp) fun a1 za t1 => wpAny_bind ?_)))))
  have za' : IsZip a1 z TI TO .ellipsis := za
  simp only [List.zipIdx_cons, List.zipIdx_nil, List.forIn_cons, List.forIn_nil]; refine wpAny_bind (wpAny_bind (wpAny_onRaise ?_))
  show wpAny _ _ (Builtin.SmallTypes.nextOf (.ref i) >>= _) _ _ _
  rcases hend with f | ⟨⟨P', x, gP⟩, f⟩
  · refine wpAny_bind (f _ _ _ _ _ _ hh (oP.but t1.extBut L.zc p) fun a2 e t2 ⟨oe, he, ce⟩ => ?_)
    have z2 : IsZip a2 z TI TO .ellipsis := t2 _ _ (Ne.symm L.iz) za'
    have ez : e ≠ z := fun q => by subst q; rw [z2] at he; cases he; simp at ce
    refine wpAny_setField_rec z2 (by simp) fun a3 _ t3 => k a3 e (fun c o q1 _ q3 _ h => t3.extBut _ _ q1 (t2 _ _ q3 (t1.extBut _ _ q1 h))) ⟨oe, t3.extBut _ _ ez he, ce⟩
  · refine wpAny_bind (gP _ _ _ _ _ _ (oP.but t1.extBut L.zc p) fun a2 p2 t2 => wpAny_pure ?_)
    have O2 : IsPair a2 TO a b := t2.extBut _ _ L.Oi (t1.extBut _ _ L.Oz hO)
    refine wpAny_bind (wpAny_seqItems O2 rfl (wpAny_bind (wpAny_updateSeq_pair O2 fun a3 O3 t3 => wpAny_bind (wpAny_letGo (wpAny_pure ?_)))))
    refine wpAny_bind (wpAny_bind (wpAny_onRaise ?_))
    show wpAny _ _ (Builtin.SmallTypes.nextOf (.ref j) >>= _) _ _ _; refine wpAny_bind (f _ _ _ _ _ _ hh (oU.but t3.extBut L.td (oU.but t2.extBut L.id' (oU.but t1.extBut L.zd u))) fun a4 e t4 ⟨oe, he, ce⟩ => ?_)
    have z4 : IsZip a4 z TI TO .ellipsis := t4 _ _ (Ne.symm L.jz) (t3.extBut _ _ (Ne.symm L.Oz) (t2.extBut _ _ (Ne.symm L.iz) za'))
    have ez : e ≠ z := fun q => by subst q; rw [z4] at he; cases he; simp at ce
    refine wpAny_setField_rec z4 (by simp) fun a5 _ t5 => k a5 e (fun c o q1 q2 q3 q4 h => t5.extBut _ _ q1 (t4 _ _ q4 (t3.extBut _ _ q2 (t2.extBut _ _ q3 (t1.extBut _ _ q1 h))))) ⟨oe, t5.extBut _ _ ez he, ce⟩
theorem gz_next {Q : Option Value → Shared → Prop} (L : Lie z TI TO i j cs ds) (oP : Of cs P) (oP' : Of cs P') (oU : Of ds U) (oU' : Of ds U') (gP : Giv i P P' x) (gU : Giv j U U' y)
    (hz : IsZip s.heap z TI TO .none) (hI : IsPair s.heap TI (.ref i) (.ref j)) (hO : IsPair s.heap TO a b) (p : P s.heap) (u : U s.heap)
    (k : ∀ h', IsZip h' z TI TO (rawInt s.heap.objs.size) → IsPair h' TO x y → P' h' → U' h' → IsPair h' s.heap.objs.size x y → h'.objs.size = s.heap.objs.size + 1 → (∀ c o, c ≠ z → c ≠ TO → c ≠ i → c ≠ j → s.heap.get? c = some o → h'.get? c = some o) → Q (some (.ref s.heap.objs.size)) { s with heap := h' }) :
    wpAny (model prog w) A (pyNext (.ref z)) Q E s := by
  have ty : s.TypeIs (.ref z) "zip" := ⟨_, hz, rfl⟩
  unfold pyNext
  exact wpAny_bind (wpAny_attempt (wpAny_callSpecial?_slot (name := Str.ofString "__next__") ty F.slot_zip_next (wpAny_call_entry F.slot_zip_next ty F.entry_zip_next
    (gz_item L oP oP' oU oU' gP gU hz hI hO p u fun h' q1 q2 q3 q4 q5 q6 q7 => wpAny_pure (k h' q1 q2 q3 q4 q5 q6 q7)) (F.args_zip_next_1 _))))
theorem gz_stop {Q : Option Value → Shared → Prop} (hh : A.handled = none) (L : Lie z TI TO i j cs ds) (oP : Of cs P) (oU : Of ds U) (hend : Fin' i P ∨ (∃ P' x, Giv i P P' x) ∧ Fin' j U)
    (hz : IsZip s.heap z TI TO .none) (hI : IsPair s.heap TI (.ref i) (.ref j)) (hO : IsPair s.heap TO a b) (p : P s.heap) (u : U s.heap)
    (k : ∀ h', (∀ c o, c ≠ z → c ≠ TO → c ≠ i → c ≠ j → s.heap.get? c = some o → h'.get? c = some o) → Q none { s with heap := h' }) : wpAny (model prog w) A (pyNext (.ref z)) Q E s := by
  have ty : s.TypeIs (.ref z) "zip" := ⟨_, hz, rfl⟩
  unfold pyNext
  refine wpAny_bind (wpAny_attempt (wpAny_callSpecial?_slot (name := Str.ofString "__next__") ty F.slot_zip_next (wpAny_call_entry F.slot_zip_next ty F.entry_zip_next
    (gz_end hh L oP oU hend hz hI hO p u fun h' e q ⟨o, ho, hc⟩ => ?_) (F.args_zip_next_1 _))))
  exact wpAny_bind (wpAny_isInstance (T := "StopIteration") (b := true) ⟨o, ho, hc⟩ isSubtype_stop (wpAny_pure (k _ q)))
end
/-! ### a tuple's walk, a list's walk -/
def AtT (i l : Addr) (its : Array Value) (k : Nat) (h : Heap) : Prop := h.IsTupleIter i l k ∧ h.IsTuple l its
def AtL (i l : Addr) (its : Array Value) (k : Nat) (h : Heap) : Prop := h.IsListIter i l k ∧ h.IsList l its
theorem of_atT {i l : Addr} {its : Array Value} {k : Nat} : Of [i, l] (AtT i l its k) := fun h h' q ⟨a, ol, e, c⟩ => ⟨a.at fun o e => q i (by simp) o e, ol, q l (by simp) ol e, c⟩
theorem of_atL {i l : Addr} {its : Array Value} {k : Nat} : Of [i, l] (AtL i l its k) := fun h h' q ⟨a, ol, e, c⟩ => ⟨a.at fun o e => q i (by simp) o e, ol, q l (by simp) ol e, c⟩
theorem giv_T {i l : Addr} {its : Array Value} {k : Nat} {x : Value} (n : l ≠ i) (hx : its[k]? = some x) : Giv i (AtT i l its k) (AtT i l its (k + 1)) x := fun prog w A E Q s p q =>
  RZ.nextOf_tuple_item p.1 p.2 hx fun h' p1 t => q h' ⟨p1, p.2.extBut t.extBut n⟩ t
theorem giv_L {i l : Addr} {its : Array Value} {k : Nat} {x : Value} (n : l ≠ i) (hx : its[k]? = some x) : Giv i (AtL i l its k) (AtL i l its (k + 1)) x := fun prog w A E Q s p q =>
  wpAny_nextOf_list_item p.1 p.2 hx fun h' p1 t => q h' ⟨p1, p.2.extBut t.extBut n⟩ t
theorem fin_T {i l : Addr} {its : Array Value} {k : Nat} (hx : its[k]? = none) : Fin' i (AtT i l its k) := fun prog w A E Q s hh p q => RZ.nextOf_tuple_end hh p.1 p.2 hx q
theorem fin_L {i l : Addr} {its : Array Value} {k : Nat} (hx : its[k]? = none) : Fin' i (AtL i l its k) := fun prog w A E Q s hh p q => wpAny_nextOf_list_end hh p.1 p.2 hx q
/-- a tuple at a, a list at b, side by side, items in new pairs -/
def ItzM (K : PySem.W.Frag) (a b : Addr) : It :=
  ⟨fun i H => ∃ (xs ys : List V) (x y : V), SqT K H a xs ∧ SqL K H b ys ∧ xs[i]? = some x ∧ ys[i]? = some y,
    fun i H v H' => ∃ T x y, v = .ref T ∧ H T = none ∧ H' = upd H T (.tup [x, y]) ∧ (∀ xs, SqT K H a xs → xs[i]? = some x) ∧ ∀ ys, SqL K H b ys → ys[i]? = some y,
    fun i H => ∃ xs ys : List V, SqT K H a xs ∧ SqL K H b ys ∧ (xs.length ≤ i ∨ ys.length ≤ i)⟩
theorem mem5 {c z TI TO i1 i2 : Addr} (h : c ∈ [z, TI, TO, i1, i2]) : c = z ∨ c = TI ∨ c = TO ∨ c = i1 ∨ c = i2 := by simpa using h
theorem lie_of {z TI TO i1 i2 a b : Addr} (D : ZipApart z TI TO i1 i2 a b) : Lie z TI TO i1 i2 [i1, a] [i2, b] where
  zc := by simp; exact ⟨Ne.symm D.i1z, Ne.symm D.l1z⟩
  tc := by simp; exact ⟨D.TOi1, Ne.symm D.l1TO⟩
  jc := by simp; exact ⟨Ne.symm D.i12, Ne.symm D.l1i2⟩
  zd := by simp; exact ⟨Ne.symm D.i2z, Ne.symm D.l2z⟩
  td := by simp; exact ⟨D.TOi2, Ne.symm D.l2TO⟩
  id' := by simp; exact ⟨D.i12, Ne.symm D.l2i1⟩
  Iz := D.TIz
  Oz := D.TOz
  iz := D.i1z
  jz := D.i2z
  Oi := D.TOi1
  Oj := D.TOi2
theorem turn_zipM {P : Program} {w : World} {K : PySem.W.Frag} {elts : List Expr} {kk : Nat} {tpos : Pos} {a b z TI TO i1 i2 : Addr} (D : ZipApart z TI TO i1 i2 a b) :
    Turn P w K (.Tuple elts kk tpos) (ItzM K a b) [z, TI, TO, i1, i2] z (fun i h => IsZip h z TI TO .none ∧ IsPair h TI (.ref i1) (.ref i2) ∧ (∃ x y, IsPair h TO x y) ∧ h.IsTupleIter i1 a i ∧ h.IsListIter i2 b i) where
  mem := by simp
  obj := fun i h ⟨hz, hI, ⟨x, y, hO⟩, ⟨o1, e1, _, d1⟩, ⟨o2, e2, _, d2⟩⟩ c hc => by
    rcases mem5 hc with q | q | q | q | q <;> subst q
    · exact ⟨_, hz, fun v q => nomatch q⟩
    · exact ⟨_, hI, fun v q => nomatch q⟩
    · exact ⟨_, hO, fun v q => nomatch q⟩
    · exact ⟨o1, e1, fun v q => by rw [d1] at q; cases q⟩
    · exact ⟨o2, e2, fun v q => by rw [d2] at q; cases q⟩
  keep := fun i h h' ⟨hz, hI, ⟨x, y, hO⟩, w1, w2⟩ k => ⟨k z (by simp) _ hz, k TI (by simp) _ hI, ⟨x, y, k TO (by simp) _ hO⟩, w1.at fun o q => k i1 (by simp) o q, w2.at fun o q => k i2 (by simp) o q⟩
  item := by
    intro X hP hw hK hc i pins s σ H E I hf st hg
    subst hP hw hK
    obtain ⟨hz, hI, ⟨x0, y0, hO⟩, w1, w2⟩ := st
    obtain ⟨xs, ys, x, y, hqx, hqy, hx, hy⟩ := hg
    obtain ⟨its, rv, p, _⟩ := I.tuple hqx
    obtain ⟨jts, rv', p', _⟩ := I.list hqy
    obtain ⟨u, hu, ru⟩ := rv.get hx
    obtain ⟨v, hv, rv2⟩ := rv'.get hy
    have zl : z < s.heap.objs.size := Heap.lt_size hz
    refine gz_next (lie_of D) of_atT of_atT of_atL of_atL (giv_T D.l1i1 (its := its.toArray) (k := i) (x := u) (by simpa using hu)) (giv_L D.l2i2 (its := jts.toArray) (k := i) (x := v) (by simpa using hv)) hz hI hO ⟨w1, p⟩ ⟨w2, p'.isList⟩ fun h' z' O' q1 q2 hT hsz hk => ?_
    refine ⟨_, rfl, wpAny_letOwnedTupleGo_zip (s := { s with heap := h' }) z' fun h2 z2 sb => ?_⟩
    have T2 : h2.get? s.heap.objs.size = some { cls := .type "tuple", data := .seq #[u, v] } := (sb.2 _ (Nat.ne_of_gt zl)).trans hT
    have new : ObjOk X.prog X.w (upd H s.heap.objs.size (.tup [x, y])) h2 s.heap.objs.size (.tup [x, y]) := ⟨by show 2 ≤ sizeLine; decide, [u, v], .cons ru (.cons rv2 .nil), ⟨_, T2, rfl, _, rfl⟩⟩
    have I1 : Inv X pins σ (upd H s.heap.objs.size (.tup [x, y])) { s with heap := h2 } := I.turnedNew (t' := s.toks) (ch := [z, TI, TO, i1, i2]) (fun c o hb q => by
      simp only [List.mem_cons, List.mem_nil_iff, or_false, not_or] at hb
      exact (sb.2 c hb.1).trans (hk c o hb.1 hb.2.2.1 hb.2.2.2.1 hb.2.2.2.2 q)) hf (Nat.le_refl _) new
    refine ⟨.ref s.heap.objs.size, _, I1, rfl, ⟨_, x, y, rfl, I.hok.fresh (Nat.le_refl _), rfl, fun l hl => by rw [I.tuple_inj hl hqx]; exact hx, fun l hl => by rw [I.list_inj hl hqy]; exact hy⟩, ⟨z2, ?_, ⟨u, v, ?_⟩, ?_, ?_⟩, fun c hcm => ?_⟩
    · exact (sb.2 _ D.TIz).trans (hk _ _ D.TIz D.TITO D.TIi1 D.TIi2 hI)
    · exact (sb.2 _ D.TOz).trans O'
    · exact q1.1.at fun o q => (sb.2 _ D.i1z).trans q
    · exact q2.1.at fun o q => (sb.2 _ D.i2z).trans q
    · have lt : c < s.heap.objs.size := by
        rcases mem5 hcm with q | q | q | q | q <;> subst q
        · exact zl
        · exact Heap.lt_size hI
        · exact Heap.lt_size hO
        · obtain ⟨_, e, _⟩ := w1; exact Heap.lt_size e
        · obtain ⟨_, e, _⟩ := w2; exact Heap.lt_size e
      rw [upd_ne (Nat.ne_of_lt lt)]; exact (hf c hcm).1
  done := by
    intro X hP hw hK hc i pins s σ H E I hf st hg
    subst hP hw hK
    obtain ⟨hz, hI, ⟨x0, y0, hO⟩, w1, w2⟩ := st
    obtain ⟨xs, ys, hqx, hqy, he⟩ := hg
    obtain ⟨its, rv, p, _⟩ := I.tuple hqx
    obtain ⟨jts, rv', p', _⟩ := I.list hqy
    have l1 := rv.length
    have l2 := rv'.length
    have hend : Fin' i1 (AtT i1 a its.toArray i) ∨ (∃ P' x, Giv i1 (AtT i1 a its.toArray i) P' x) ∧ Fin' i2 (AtL i2 b jts.toArray i) := by
      cases e : its.toArray[i]? with
      | none => exact .inl (fin_T e)
      | some u =>
        have hl : i < its.length := by have := (Array.getElem?_eq_some_iff.mp e).1; simpa using this
        exact .inr ⟨⟨_, _, giv_T D.l1i1 e⟩, fin_L (by simp; omega)⟩
    exact gz_stop (I.ok.hd hc) (lie_of D) of_atT of_atL hend hz hI hO ⟨w1, p⟩ ⟨w2, p'.isList⟩ fun h' hk => ⟨rfl, I.turnedL (t' := s.toks) (ch := [z, TI, TO, i1, i2]) (fun c o hb q => by
      simp only [List.mem_cons, List.mem_nil_iff, or_false, not_or] at hb
      exact hk c o hb.1 hb.2.2.1 hb.2.2.2.1 hb.2.2.2.2 q) hf⟩
  self := fun A i s Q E st h => wpAny_pyIter_zip st.1 h
/-! ### the zip that is made -/
abbrev zm1 (h : Heap) (a : Addr) : Heap := h.push { cls := .type "tuple_iterator", data := .fields #[.ref a, .int 0 0] }
abbrev zm2 (h : Heap) (a b : Addr) : Heap := (zm1 h a).push { cls := .type "list_iterator", data := .fields #[.ref b, .int 0 0] }
abbrev zm3 (h : Heap) (a b : Addr) : Heap := (zm2 h a b).push { cls := .type "tuple", data := .seq #[.ref h.objs.size, .ref (zm1 h a).objs.size] }
abbrev zm4 (h : Heap) (a b : Addr) : Heap := (zm3 h a b).push { cls := .type "tuple", data := .seq #[.none, .none] }
abbrev zm5 (h : Heap) (a b : Addr) : Heap := (zm4 h a b).push { cls := .type "zip", data := .fields #[.none, .bool false, .bool false, .ref (zm2 h a b).objs.size, .ref (zm3 h a b).objs.size] }
theorem meets_zipM (l1 l2 : Addr) (xs ys : Array Value) : Meets (Builtin.«zip.__new__» ⟨[.type "zip", .ref l1, .ref l2], []⟩) (fun _ R s => s.heap.IsTuple l1 xs ∧ s.heap.IsList l2 ys ∧ R (.ok (.ret (.ref (zm4 s.heap l1 l2).objs.size))) { s with heap := zm5 s.heap l1 l2 }) :=
  .of_wp fun prog w A R s h => by
    obtain ⟨hp, g, d, tk, os⟩ := s; obtain ⟨q1, q2, h⟩ := h
    have sub := sub_zip
    have t1 : Heap.IsTuple (Shared.heap ⟨hp, g, d, tk, os⟩) l1 xs := q1
    have t2 : Heap.IsList (Shared.heap ⟨hp.push { cls := .type "tuple_iterator", data := .fields #[.ref l1, .int 0 0] }, g, d, tk, os⟩) l2 ys := Heap.IsList.push q2 _
    wp_walk using wpAny_pyIter_tuple t1, wpAny_pyIter_list t2
    exact ⟨_, rfl, h⟩
theorem call_zipM {prog : Program} {w : World} {A : Around} {E : Value → Shared → Prop} {s : Shared} {l1 l2 : Addr} {xs ys : Array Value} {Q : Value → Shared → Prop} (q1 : s.heap.IsTuple l1 xs) (q2 : s.heap.IsList l2 ys)
    (h : ∀ h', IsZip h' (s.heap.objs.size + 4) (s.heap.objs.size + 2) (s.heap.objs.size + 3) .none → IsPair h' (s.heap.objs.size + 2) (.ref s.heap.objs.size) (.ref (s.heap.objs.size + 1)) → IsPair h' (s.heap.objs.size + 3) .none .none →
      h'.IsTupleIter s.heap.objs.size l1 0 → h'.IsListIter (s.heap.objs.size + 1) l2 0 → (∀ c o, s.heap.get? c = some o → h'.get? c = some o) → Q (.ref (s.heap.objs.size + 4)) { s with heap := h' }) :
    wpAny (model prog w) A (call (.type "zip") [.ref l1, .ref l2]) Q E s := by
  refine callType_new F.called_zip (by decide) (F.typeCall_zip_2 _ _) (F.newCall_zip_2 _ _) (fun obj => F.args_object_init_3 obj _ _) F.entry_zip_new (meets_zipM l1 l2 xs ys) ⟨q1, q2, ?_⟩
  have n1 : (zm1 s.heap l1).objs.size = s.heap.objs.size + 1 := Heap.size_push ..
  have n2 : (zm2 s.heap l1 l2).objs.size = s.heap.objs.size + 2 := by rw [Heap.size_push, n1]
  have n3 : (zm3 s.heap l1 l2).objs.size = s.heap.objs.size + 3 := by rw [Heap.size_push, n2]
  have n4 : (zm4 s.heap l1 l2).objs.size = s.heap.objs.size + 4 := by rw [Heap.size_push, n3]
  have u1 : ∀ {h : Heap} {x : Obj} {c : Addr} {o : Obj}, h.get? c = some o → (h.push x).get? c = some o := fun e => Heap.get?_push_of_some _ e
  have e5 : (zm5 s.heap l1 l2).get? (zm4 s.heap l1 l2).objs.size = some _ := Heap.get?_push_size _ rfl
  have e4 : (zm5 s.heap l1 l2).get? (zm3 s.heap l1 l2).objs.size = some _ := u1 (Heap.get?_push_size _ rfl)
  have e3 : (zm5 s.heap l1 l2).get? (zm2 s.heap l1 l2).objs.size = some _ := u1 (u1 (Heap.get?_push_size _ rfl))
  have e2 : (zm5 s.heap l1 l2).get? (zm1 s.heap l1).objs.size = some _ := u1 (u1 (u1 (Heap.get?_push_size _ rfl)))
  have e1 : (zm5 s.heap l1 l2).get? s.heap.objs.size = some _ := u1 (u1 (u1 (u1 (Heap.get?_push_size _ rfl))))
  show _ ∧ _
  rw [n2, n3, n4] at e5; rw [n1, n2] at e3; rw [n3] at e4; rw [n1] at e2; rw [n4]
  exact ⟨⟨_, e5, rfl⟩, h _ e5 e3 e4 ⟨_, e1, rfl, rfl⟩ ⟨_, e2, rfl, rfl⟩ fun c o e => u1 (u1 (u1 (u1 (u1 e))))⟩
/-- zip(tuple, list) -/
def iZipM (K : PySem.W.Frag) (ta : TA) : TI := fun σ H R => ta σ H fun vs H1 => ∃ a b xs ys, vs = [.ref a, .ref b] ∧ SqT K H1 a xs ∧ SqL K H1 b ys ∧ R (ItzM K a b) H1
theorem pi_zipM {X : Cx} {K : PySem.W.Frag} (hK : X.K = K) {e e2 : Expr} {ta : TA} {p pos tpos : Pos} {elts : List Expr} {kk : Nat} (hg : Gl X "zip") (hm : X.mg "zip" = none) (ha : PA X [e, e2] ta)
    (hs : starEach [e, e2] X.env = (false, eval e X.env) :: starEach [e2] X.env := by rfl) (hpl : (backTo pos (starEach [e2] X.env)).any (·.1) = false := by rfl) :
    PI X (.Tuple elts kk tpos) (.Call (.Name "zip" p) [e, e2] [] pos) (iZipM K ta) := by
  subst hK
  refine ⟨fun pins s σ H R I h => ?_⟩
  refine Call_ (ld_blt I hg hm PyProof.Rows.boot_zip (PyProof.Rows.callWith_type1 (thn (ha.run pos pins s σ H _ I h) fun us s1 ⟨vs, H1, I1, r1, a, b, xs, ys, ex, qx, qy, q⟩ => ?_) hs hpl))
  subst ex
  obtain _ | ⟨ra, _ | ⟨rb, _ | _⟩⟩ := r1
  cases ra
  cases rb
  have fresh5 : ∀ c, c ∈ [s1.heap.objs.size + 4, s1.heap.objs.size + 2, s1.heap.objs.size + 3, s1.heap.objs.size, s1.heap.objs.size + 1] → FpOk X pins H1 c := fun c hcm => by
    have le : s1.heap.objs.size ≤ c := by
      rcases mem5 hcm with q | q | q | q | q <;> (rw [q]; first | exact Nat.le_refl _ | exact Nat.le_add_right _ _)
    exact I1.fpOk le (I1.hok.fresh le)
  obtain ⟨its, rv, p1, _⟩ := I1.tuple qx
  obtain ⟨jts, rv', p2, _⟩ := I1.list qy
  obtain ⟨o1, ho1, _⟩ := id p1
  refine call_zipM (show s1.heap.IsTuple a its.toArray from p1) p2.isList fun h' hz hI hO w1 w2 hk => wpAny_pyIter_zip hz ?_
  have I2 : Inv X pins σ H1 { s1 with heap := h' } := I1.kept (t' := s1.toks) hk
  exact ⟨s1.heap.objs.size + 4, [s1.heap.objs.size + 4, s1.heap.objs.size + 2, s1.heap.objs.size + 3, s1.heap.objs.size, s1.heap.objs.size + 1], _, _, H1, rfl, I2, turn_zipM (PySem.W.ktu_apart s1.heap.objs.size a b (Heap.lt_size ho1) p2.lt), ⟨hz, hI, ⟨_, _, hO⟩, w1, w2⟩, fresh5, q⟩
def mZipM (a : DA) : DI := fun δ S => (a δ S).bind fun ds S1 => match ds with
  | [.dat (.tup l), .dat (.lst k)] => .ok (.items ((l.zip k).map fun z => .dat (.tup [z.1, z.2]))) S1
  | _ => .fail
theorem si_zipM {K : PySem.W.Frag} {W : L2.St → WK} {ta : TA} {a : DA} (ha : SA K W ta a) : SI K W (iZipM K ta) (mZipM a) := by
  intro ι X S H σ δ Q rel re h
  refine ha ι X S H σ δ _ rel re ?_
  unfold mZipM at h
  cases e : a δ S with
  | fail => rw [e] at h; exact h
  | exc C x S1 => rw [e] at h; exact h
  | ok ds S1 =>
    rw [e, R.bind_ok] at h
    intro ι1 H1 vs x1 rel1 rv
    split at h
    · rename_i d1 l k
      obtain ⟨y, ys, rfl, r1, z, zs, rfl, r2, r3⟩ := rv
      rw [show zs = [] from r3]
      obtain ⟨a1, xs, rfl, g1, f1⟩ := frzOf_rep (b := false) (l := l) rfl r1
      obtain ⟨a2, ys, rfl, g2, f2⟩ := frzOf_rep (b := true) (l := k) rfl r2
      rw [if_neg Bool.false_ne_true] at f1
      rw [if_pos rfl] at f2
      refine ⟨a1, a2, xs, ys, rfl, f1 _ _ _ Out1.refl, f2 _ _ _ Out1.refl, h ι1 H1 _ x1 rel1 (itOk_pair fun ι' X' H' x => ?_)⟩
      have lz : (l.zip k).length = min l.length k.length := List.length_zip
      have s1 := f1 _ _ _ x
      have s2 := f2 _ _ _ x
      have l1 := repPs_len g1
      have l2 := repPs_len g2
      refine ⟨fun i hi => ⟨xs, ys, xs[i]'(by omega), ys[i]'(by omega), s1, s2, List.getElem?_eq_getElem _, List.getElem?_eq_getElem _⟩, ⟨xs, ys, s1, s2, by omega⟩, fun i v H'' y => ?_⟩
      obtain ⟨T, x', y', ev, hT, eh, hx, hy⟩ := y
      exact ⟨T, x', y', ev, hT, eh, fun p ep => repPs_nth (RepPs.out x.p g1) ep (hx xs s1), fun q eq => repPs_nth (RepPs.out x.p g2) eq (hy ys s2)⟩
    · exact h.elim
end M3
namespace W3
open PySem PySem.Spec PyProof.Rows L2 M3
section
/-- what the pure part asks of the classes -/
structure Gx (g : G) : Prop where
  CS : g.CS = [g.Forest, g.Stand]
  FL : g.FL = [(g.Forest, ("parents" : Str)), (g.Forest, ("worths" : Str)), (g.Stand, ("up" : Str)), (g.Stand, ("left" : Str)), (g.Stand, ("right" : Str)), (g.Stand, ("turned" : Str)), (g.Stand, ("added" : Str)), (g.Stand, ("value" : Str))]
  k_Forest_int : PySem.W.kitOne g.K (.ref g.Forest) (.type "int") = some false
  k_Forest_bool : PySem.W.kitOne g.K (.ref g.Forest) (.type "bool") = some false
  k_Forest_tuple : PySem.W.kitOne g.K (.ref g.Forest) (.type "tuple") = some false
  k_Forest_list : PySem.W.kitOne g.K (.ref g.Forest) (.type "list") = some false
  kk_Forest_Forest : PySem.W.kitOne g.K (.ref g.Forest) (.ref g.Forest) = some true
  k_Stand_int : PySem.W.kitOne g.K (.ref g.Stand) (.type "int") = some false
  k_Stand_bool : PySem.W.kitOne g.K (.ref g.Stand) (.type "bool") = some false
  k_Stand_tuple : PySem.W.kitOne g.K (.ref g.Stand) (.type "tuple") = some false
  k_Stand_list : PySem.W.kitOne g.K (.ref g.Stand) (.type "list") = some false
  kk_Stand_Forest : PySem.W.kitOne g.K (.ref g.Stand) (.ref g.Forest) = some false
  t_NoneType_Forest : PySem.W.kitOne g.K (.type "NoneType") (.ref g.Forest) = some false
  t_int_Forest : PySem.W.kitOne g.K (.type "int") (.ref g.Forest) = some false
  t_bool_Forest : PySem.W.kitOne g.K (.type "bool") (.ref g.Forest) = some false
  t_tuple_Forest : PySem.W.kitOne g.K (.type "tuple") (.ref g.Forest) = some false
  t_list_Forest : PySem.W.kitOne g.K (.type "list") (.ref g.Forest) = some false
  t_str_Forest : PySem.W.kitOne g.K (.type "str") (.ref g.Forest) = some false
  t_dict_Forest : PySem.W.kitOne g.K (.type "dict") (.ref g.Forest) = some false
def m_is_integer (g : G) : List D → Store → R D := mBody 1 ((mRet (mAnd (mCall (aIsi g.K g.CS) (mCons (mVar 0) (mCons (mC (.con (.ty "int"))) mNil))) (mNot (mCall (aIsi g.K g.CS) (mCons (mVar 0) (mCons (mC (.con (.ty "bool"))) mNil)))))))
def m_Forest_eq (g : G) : List D → Store → R D := mBody 2 ((mRet (mAnd (mCall (aIsi g.K g.CS) (mCons (mVar 1) (mCons (mC (.con (.ref g.Forest))) mNil))) (mAnd (mOp aEq (mFld g.FL "parents" (mVar 0)) (mFld g.FL "parents" (mVar 1))) (mOp aEq (mFld g.FL "worths" (mVar 0)) (mFld g.FL "worths" (mVar 1)))))))
def m_come_to_roots (g : G) : List D → Store → R D := mBody 7 ((mSeq (mAsg (mTrk (mLc (mWalk (mVar 0)) (gmName 2) mYes (mOp aIsN (mVar 2) (mC .non)) [2])) (gmName 1))
      (mSeq (mFor (mRng1 (mCons (mCall aLen (mCons (mVar 0) mNil)) mNil)) (gmName 3) (mSeq (mAsg (mTrk (mLst mNil)) (gmName 4))
      (mSeq (mAsg (mVar 3) (gmName 5))
      (mSeq (mWhile (mNotT (mTst (mOp aIx (mVar 1) (mVar 5)))) (mSeq (mIfS (mTst (mOp aEq (mCall aLen (mCons (mVar 4) mNil)) (mCall aLen (mCons (mVar 0) mNil)))) (mRet (mC (.bl false))) mNext)
      (mSeq (mDrop (mBM "list" (updL fAppend) (mVar 4) (mCons (mVar 5) mNil)))
      (mAsg (mOp aIx (mVar 0) (mVar 5)) (gmName 5)))))
      (mFor (mWalk (mVar 4)) (gmName 6) (mAsg (mC (.bl true)) (gmSub (mVar 1) (mVar 6))))))))
      (mRet (mC (.bl true))))))
def m_Stand_init (g : G) : List D → Store → R D := mBody 2 ((mAsg (mVar 1) (gmTup 6 (gmCons (gmFld g.FL "up" (mVar 0)) (gmCons (gmFld g.FL "left" (mVar 0)) (gmCons (gmFld g.FL "right" (mVar 0)) (gmCons (gmFld g.FL "turned" (mVar 0)) (gmCons (gmFld g.FL "added" (mVar 0)) (gmCons (gmFld g.FL "value" (mVar 0)) gmNil)))))))))
def m_has_its_sons (g : G) : List D → Store → R D := mBody 4 ((mSeq (mAsg (mFrz (mLc (mWalk (mSl (mOp aIx (mVar 0) (mVar 1)) (moS (mC (.int 1))) (moS (mC (.int 3))))) (gmName 3) (mTst (mOp aNotN (mVar 3) (mC .non))) (mVar 3) [3])) (gmName 2))
      (mSeq (mIfS (mAndT (mTst (mOp aEq (mCall aLen (mCons (mVar 2) mNil)) (mC (.int 2)))) (mTst (mOp aEq (mOp aIx (mVar 2) (mC (.int 0))) (mOp aIx (mVar 2) (mC (.int 1)))))) (mRet (mC (.bl false))) mNext)
      (mRet (mCall aAll (mCons (mFrz (mLc (mWalk (mVar 2)) (gmName 3) mYes (mOp aEq (mOp aIx (mOp aIx (mVar 0) (mVar 3)) (mC (.int 0))) (mVar 1)) [3])) mNil))))))
def m_shape_of (g : G) : List D → Store → R D := mBody 2 ((mRet (mCall aTuple (mCons (mFrz (mLc (mWalk (mVar 0)) (gmName 1) mYes (mTup (mCons (mFld g.FL "up" (mVar 1)) (mCons (mFld g.FL "left" (mVar 1)) (mCons (mFld g.FL "right" (mVar 1)) (mCons (mFld g.FL "turned" (mVar 1)) (mCons (mFld g.FL "added" (mVar 1)) (mCons (mFld g.FL "value" (mVar 1)) mNil))))))) [1])) mNil))))
def m_is_top (g : G) : List D → Store → R D := mBody 3 ((mSeq (mAsg (mFld g.FL "up" (mOp aIx (mVar 0) (mVar 1))) (gmName 2))
      (mRet (mOr (mOp aIsN (mVar 2) (mC .non)) (mOp aNotIn (mVar 1) (mTup (mCons (mFld g.FL "left" (mOp aIx (mVar 0) (mVar 2))) (mCons (mFld g.FL "right" (mOp aIx (mVar 0) (mVar 2))) mNil))))))))
def m_line_up (g : G) : List D → Store → R D := mBody 3 ((mSeq (mAsg (mTrk (mLst (mCons (mVar 1) mNil))) (gmName 2))
      (mSeq (mWhile (mTst (mOp aNotN (mFld g.FL "up" (mOp aIx (mVar 0) (mOp aIx (mVar 2) (mUn aNeg (mC (.int 1)))))) (mC .non))) (mDrop (mBM "list" (updL fAppend) (mVar 2) (mCons (mFld g.FL "up" (mOp aIx (mVar 0) (mOp aIx (mVar 2) (mUn aNeg (mC (.int 1)))))) mNil))))
      (mRet (mVar 2)))))
def m_hand_on (g : G) : List D → Store → R D := mBody 5 ((mSeq (mAsg (mOp aIx (mVar 0) (mVar 1)) (gmName 2))
      (mSeq (mAsg (mTrk (mLc (mWalk (mTup (mCons (mFld g.FL "left" (mVar 2)) (mCons (mFld g.FL "right" (mVar 2)) mNil)))) (gmName 4) (mTst (mOp aNotN (mVar 4) (mC .non))) (mOp aIx (mVar 0) (mVar 4)) [4])) (gmName 3))
      (mSeq (mIfS (mTst (mFld g.FL "turned" (mVar 2))) (mSeq (mAsg (mTup (mCons (mFld g.FL "right" (mVar 2)) (mCons (mFld g.FL "left" (mVar 2)) mNil))) (gmTup 2 (gmCons (gmFld g.FL "left" (mVar 2)) (gmCons (gmFld g.FL "right" (mVar 2)) gmNil))))
      (mSeq (mSetF g.FL "turned" (mVar 2) (mC (.bl false)))
      (mFor (mWalk (mVar 3)) (gmName 4) (mSetF g.FL "turned" (mVar 4) (mNot (mFld g.FL "turned" (mVar 4))))))) mNext)
      (mSeq (mFor (mWalk (mVar 3)) (gmName 4) (mSeq (mAugF g.FL "value" aAddI (mVar 4) (mFld g.FL "added" (mVar 2)))
      (mAugF g.FL "added" aAddI (mVar 4) (mFld g.FL "added" (mVar 2)))))
      (mSetF g.FL "added" (mVar 2) (mC (.int 0))))))))
def m_take_place (g : G) : List D → Store → R D := mBody 5 ((mSeq (mAsg (mOp aIx (mVar 0) (mVar 1)) (gmName 3))
      (mSeq (mSetF g.FL "up" (mVar 3) (mFld g.FL "up" (mOp aIx (mVar 0) (mVar 2))))
      (mSeq (mIfS (mTst (mOp aIsN (mFld g.FL "up" (mVar 3)) (mC .non))) mRetN mNext)
      (mSeq (mAsg (mOp aIx (mVar 0) (mFld g.FL "up" (mVar 3))) (gmName 4))
      (mIfS (mTst (mOp aEq (mFld g.FL "left" (mVar 4)) (mVar 2))) (mSetF g.FL "left" (mVar 4) (mVar 1)) (mIfS (mTst (mOp aEq (mFld g.FL "right" (mVar 4)) (mVar 2))) (mSetF g.FL "right" (mVar 4) (mVar 1)) mNext)))))))
def m_L_hand (g : G) : List D → Store → R D := mBody 2 ((mRet (mTrk (mLst (mCons (mFrz (mLc (mWalk (mSl (mVar 0) moN (moS (mC (.int 63))))) (gmName 1) mYes (mCall aInt (mCons (mVar 1) mNil)) [1])) (mCons (mC (.int 0)) (mCons (mC (.int 0)) (mCons (mOp aAdd (mC (.int 1)) (mCall aLen (mCons (mSl (mVar 0) moN (moS (mC (.int 63)))) mNil))) (mCons (mC (.int 0)) mNil)))))))))
def m_L_draw (g : G) : List D → Store → R D := mBody 5 ((mSeq (mIfS (mAndT (mTst (mOp aEq (mOp aIx (mVar 0) (mC (.int 2))) (mC (.int 0)))) (mTst (mOp aLt (mOp aIx (mVar 0) (mC (.int 1))) (mCall aLen (mCons (mOp aIx (mVar 0) (mC (.int 0))) mNil))))) (mSeq (mAsg (mOp aIx (mOp aIx (mVar 0) (mC (.int 0))) (mOp aIx (mVar 0) (mC (.int 1)))) (gmName 2))
      (mSeq (mAsg (mOp aAdd (mOp aIx (mVar 0) (mC (.int 1))) (mC (.int 1))) (gmSub (mVar 0) (mC (.int 1))))
      (mSeq (mAsg (mOp aMod (mCall aInt (mCons (mOp aAdd (mOp aAdd (mOp aMul (mOp aIx (mVar 0) (mC (.int 3))) (mC (.int 69621))) (mOp aMul (mVar 2) (mC (.int 16)))) (mC (.int 11))) mNil)) (mC (.int 2147483629))) (gmSub (mVar 0) (mC (.int 3))))
      (mIfS (mTst (mOp aGe (mVar 2) (mOp aPow (mC (.int 10)) (mC (.int 18))))) (mAsg (mVar 2) (gmSub (mVar 0) (mC (.int 2)))) mNext)))) mNext)
      (mSeq (mIfS (mTst (mOp aGt (mOp aIx (mVar 0) (mC (.int 2))) (mC (.int 0)))) (mSeq (mAsg (mOp aMod (mCall aInt (mCons (mOp aIx (mVar 0) (mC (.int 2))) mNil)) (mVar 1)) (gmName 3))
      (mSeq (mAsg (mOp aDiv (mOp aIx (mVar 0) (mC (.int 2))) (mVar 1)) (gmSub (mVar 0) (mC (.int 2))))
      (mRet (mVar 3)))) mNext)
      (mSeq (mAsg (mOp aAdd (mOp aIx (mVar 0) (mC (.int 4))) (mC (.int 1))) (gmSub (mVar 0) (mC (.int 4))))
      (mSeq (mAsg (mOp aMod (mCall aInt (mCons (mOp aMul (mCall aInt (mCons (mOp aAdd (mOp aIx (mVar 0) (mC (.int 3))) (mOp aMul (mC (.int 7919)) (mOp aIx (mVar 0) (mC (.int 4))))) mNil)) (mC (.int 48271))) mNil)) (mC (.int 2147483647))) (gmName 4))
      (mSeq (mAsg (mOp aMod (mCall aInt (mCons (mOp aMul (mVar 4) (mOp aAdd (mOp aDiv (mVar 4) (mC (.int 1009))) (mC (.int 69621)))) mNil)) (mC (.int 2147483647))) (gmName 4))
      (mSeq (mAsg (mOp aMod (mCall aInt (mCons (mOp aMul (mVar 4) (mOp aAdd (mOp aDiv (mVar 4) (mC (.int 2003))) (mC (.int 40692)))) mNil)) (mC (.int 2147483399))) (gmName 4))
      (mRet (mOp aMod (mCall aInt (mCons (mOp aDiv (mVar 4) (mC (.int 16))) mNil)) (mVar 1))))))))))
def m_L_house (g : G) : List D → Store → R D := mBody 2 ((mRet (mTrk (mLst (mCons (mVar 0) (mCons (mC .non) (mCons (mC .non) (mCons (mC (.bl false)) (mCons (mC (.int 0)) (mCons (mVar 1) mNil))))))))))
def m_L_is_son (g : G) : List D → Store → R D := mBody 3 ((mSeq (mAsg (mOp aIx (mOp aIx (mVar 0) (mVar 1)) (mC (.int 0))) (gmName 2))
      (mRet (mAnd (mOp aNotN (mVar 2) (mC .non)) (mOp aIn (mVar 1) (mSl (mOp aIx (mVar 0) (mVar 2)) (moS (mC (.int 1))) (moS (mC (.int 3)))))))))
def m_L_hand_on (g : G) : List D → Store → R D := mBody 6 ((mSeq (mAsg (mOp aIx (mVar 0) (mVar 1)) (gmName 2))
      (mSeq (mAsg (mFrz (mLc (mWalk (mSl (mVar 2) (moS (mC (.int 1))) (moS (mC (.int 3))))) (gmName 4) (mTst (mOp aNotN (mVar 4) (mC .non))) (mVar 4) [4])) (gmName 3))
      (mSeq (mIfS (mTst (mOp aIx (mVar 2) (mC (.int 3)))) (mSeq (mAsg (mTup (mCons (mOp aIx (mVar 2) (mC (.int 2))) (mCons (mOp aIx (mVar 2) (mC (.int 1))) mNil))) (gmTup 2 (gmCons (gmSub (mVar 2) (mC (.int 1))) (gmCons (gmSub (mVar 2) (mC (.int 2))) gmNil))))
      (mSeq (mAsg (mC (.bl false)) (gmSub (mVar 2) (mC (.int 3))))
      (mFor (mWalk (mVar 3)) (gmName 4) (mSeq (mAsg (mOp aIx (mVar 0) (mVar 4)) (gmName 5))
      (mAsg (mNot (mOp aIx (mVar 5) (mC (.int 3)))) (gmSub (mVar 5) (mC (.int 3)))))))) mNext)
      (mSeq (mFor (mWalk (mVar 3)) (gmName 4) (mSeq (mAsg (mOp aIx (mVar 0) (mVar 4)) (gmName 5))
      (mSeq (mAsg (mOp aAdd (mOp aIx (mVar 5) (mC (.int 4))) (mOp aIx (mVar 2) (mC (.int 4)))) (gmSub (mVar 5) (mC (.int 4))))
      (mAsg (mOp aAdd (mOp aIx (mVar 5) (mC (.int 5))) (mOp aIx (mVar 2) (mC (.int 4)))) (gmSub (mVar 5) (mC (.int 5)))))))
      (mAsg (mC (.int 0)) (gmSub (mVar 2) (mC (.int 4)))))))))
def m_L_listed (g : G) : List D → Store → R D := mBody 2 ((mRet (mTrk (mLc (mWalk (mVar 0)) (gmName 1) mYes (mTrk (mList (mCons (mVar 1) mNil))) [1]))))
def m_L_tupled (g : G) : List D → Store → R D := mBody 2 ((mRet (mCall aTuple (mCons (mFrz (mLc (mWalk (mVar 0)) (gmName 1) mYes (mCall aTuple (mCons (mVar 1) mNil)) [1])) mNil))))
def m_is_between (g : G) : List D → Store → R D := mBody 3 ((mRet (mAnd (mDef 1 (mPure (m_is_integer g)) (mCons (mVar 2) mNil)) (mChain aLe aLe (mVar 0) (mVar 2) (mVar 1)))))
def m_are_worths (g : G) : List D → Store → R D := mBody 3 ((mSeq (mIfS (mOrT (mNotT (mTst (mCall (aIsi g.K g.CS) (mCons (mVar 0) (mCons (mC (.con (.ty "tuple"))) mNil))))) (mTst (mOp aNe (mCall aLen (mCons (mVar 0) mNil)) (mVar 1)))) (mRet (mC (.bl false))) mNext)
      (mRet (mCall aAll (mCons (mFrz (mLc (mWalk (mVar 0)) (gmName 2) mYes (mDef 1 (mPure (m_is_integer g)) (mCons (mVar 2) mNil)) [2])) mNil)))))
def m_told_worth (g : G) : List D → Store → R D := mBody 3 ((mSeq (mAsg (mFld g.FL "value" (mOp aIx (mVar 0) (mVar 1))) (gmName 2))
      (mSeq (mWhile (mNotT (mTst (mDef 2 (mScope (m_is_top g)) (mCons (mVar 0) (mCons (mVar 1) mNil))))) (mSeq (mAsg (mFld g.FL "up" (mOp aIx (mVar 0) (mVar 1))) (gmName 1))
      (mAug 2 aAddI (mFld g.FL "added" (mOp aIx (mVar 0) (mVar 1))))))
      (mRet (mVar 2)))))
def m_weights_of (g : G) : List D → Store → R D := mBody 4 ((mSeq (mAsg (mTrk (mMulL (mFrz (mLst (mCons (mC (.int 0)) mNil))) (mCall aLen (mCons (mVar 0) mNil)))) (gmName 1))
      (mSeq (mFor (mRng1 (mCons (mCall aLen (mCons (mVar 0) mNil)) mNil)) (gmName 2) (mFor (mWalk (mDef 2 (mScope (m_line_up g)) (mCons (mVar 0) (mCons (mVar 2) mNil)))) (gmName 3) (mAugS (mVar 1) (mVar 3) (mC (.int 1)))))
      (mRet (mCall aTuple (mCons (mVar 1) mNil))))))
def m_turn_up (g : G) : List D → Store → R D := mBody 7 ((mSeq (mAsg (mOp aIx (mVar 0) (mVar 1)) (gmName 2))
      (mSeq (mAsg (mFld g.FL "up" (mVar 2)) (gmName 3))
      (mSeq (mAsg (mOp aIx (mVar 0) (mVar 3)) (gmName 4))
      (mSeq (mDrop (mDef 2 (mScope (m_hand_on g)) (mCons (mVar 0) (mCons (mVar 3) mNil))))
      (mSeq (mDrop (mDef 2 (mScope (m_hand_on g)) (mCons (mVar 0) (mCons (mVar 1) mNil))))
      (mSeq (mDrop (mDef 3 (mScope (m_take_place g)) (mCons (mVar 0) (mCons (mVar 1) (mCons (mVar 3) mNil)))))
      (mSeq (mIfS (mTst (mOp aEq (mFld g.FL "right" (mVar 4)) (mVar 1))) (mSeq (mAsg (mFld g.FL "left" (mVar 2)) (gmName 5))
      (mSeq (mSetF g.FL "right" (mVar 4) (mVar 5))
      (mSetF g.FL "left" (mVar 2) (mVar 3)))) (mSeq (mAsg (mFld g.FL "right" (mVar 2)) (gmName 5))
      (mSeq (mSetF g.FL "left" (mVar 4) (mVar 5))
      (mSetF g.FL "right" (mVar 2) (mVar 3)))))
      (mSeq (mSetF g.FL "up" (mVar 4) (mVar 1))
      (mIfS (mTst (mOp aNotN (mVar 5) (mC .non))) (mSeq (mAsg (mOp aIx (mVar 0) (mVar 5)) (gmName 6))
      (mSetF g.FL "up" (mVar 6) (mVar 3))) mNext))))))))))
def m_L_value (g : G) : List D → Store → R D := mBody 2 ((mSeq (mAsg (mDef 2 (mScope (m_L_draw g)) (mCons (mVar 0) (mCons (mC (.int 8)) mNil))) (gmName 1))
      (mSeq (mIfS (mTst (mOp aEq (mVar 1) (mC (.int 0)))) (mRet (mOp aIx (mFrz (mLst (mCons (mOp aPow (mC (.int 10)) (mC (.int 18))) (mCons (mOp aSub (mC (.int 0)) (mOp aPow (mC (.int 10)) (mC (.int 18)))) (mCons (mOp aPow (mC (.int 2)) (mC (.int 62))) (mCons (mUn aNeg (mC (.int 1))) (mCons (mC (.int 0)) (mCons (mOp aPow (mC (.int 10)) (mC (.int 9))) mNil)))))))) (mDef 2 (mScope (m_L_draw g)) (mCons (mVar 0) (mCons (mC (.int 6)) mNil))))) mNext)
      (mRet (mOp aSub (mDef 2 (mScope (m_L_draw g)) (mCons (mVar 0) (mCons (mC (.int 41)) mNil))) (mC (.int 20)))))))
def m_L_many (g : G) : List D → Store → R D := mBody 2 ((mSeq (mIfS (mTst (mOp aEq (mDef 2 (mScope (m_L_draw g)) (mCons (mVar 0) (mCons (mC (.int 12)) mNil))) (mC (.int 0)))) (mRet (mOp aIx (mFrz (mLst (mCons (mC (.int 64)) (mCons (mC (.int 63)) (mCons (mC (.int 33)) (mCons (mC (.int 32)) (mCons (mC (.int 16)) mNil))))))) (mDef 2 (mScope (m_L_draw g)) (mCons (mVar 0) (mCons (mC (.int 5)) mNil))))) mNext)
      (mRet (mOp aAdd (mC (.int 1)) (mDef 2 (mScope (m_L_draw g)) (mCons (mVar 0) (mCons (mVar 1) mNil)))))))
def m_L_shuffled (g : G) : List D → Store → R D := mBody 5 ((mSeq (mAsg (mTrk (mListRg1 (mVar 1))) (gmName 2))
      (mSeq (mFor (mRng1 (mCons (mVar 1) mNil)) (gmName 3) (mSeq (mAsg (mOp aAdd (mVar 3) (mDef 2 (mScope (m_L_draw g)) (mCons (mVar 0) (mCons (mOp aSub (mVar 1) (mVar 3)) mNil)))) (gmName 4))
      (mAsg (mTup (mCons (mOp aIx (mVar 2) (mVar 4)) (mCons (mOp aIx (mVar 2) (mVar 3)) mNil))) (gmTup 2 (gmCons (gmSub (mVar 2) (mVar 3)) (gmCons (gmSub (mVar 2) (mVar 4)) gmNil))))))
      (mRet (mVar 2)))))
def m_L_tops (g : G) : List D → Store → R D := mBody 2 ((mRet (mFrz (mLc (mRng1 (mCons (mCall aLen (mCons (mVar 0) mNil)) mNil)) (gmName 1) (mNotT (mTst (mDef 2 (mPure (m_L_is_son g)) (mCons (mVar 0) (mCons (mVar 1) mNil))))) (mVar 1) [1]))))
def m_L_turn_up (g : G) : List D → Store → R D := mBody 10 ((mSeq (mAsg (mOp aIx (mOp aIx (mVar 0) (mVar 1)) (mC (.int 0))) (gmName 2))
      (mSeq (mDrop (mDef 2 (mScope (m_L_hand_on g)) (mCons (mVar 0) (mCons (mVar 2) mNil))))
      (mSeq (mDrop (mDef 2 (mScope (m_L_hand_on g)) (mCons (mVar 0) (mCons (mVar 1) mNil))))
      (mSeq (mAsg (mOp aIx (mVar 0) (mVar 1)) (gmName 3))
      (mSeq (mAsg (mOp aIx (mVar 0) (mVar 2)) (gmName 4))
      (mSeq (mAsg (mOp aIx (mVar 4) (mC (.int 0))) (gmName 5))
      (mSeq (mIfS (mTst (mOp aNotN (mVar 5) (mC .non))) (mSeq (mAsg (mOp aIx (mVar 0) (mVar 5)) (gmName 6))
      (mIfS (mTst (mOp aEq (mOp aIx (mVar 6) (mC (.int 1))) (mVar 2))) (mAsg (mVar 1) (gmSub (mVar 6) (mC (.int 1)))) (mIfS (mTst (mOp aEq (mOp aIx (mVar 6) (mC (.int 2))) (mVar 2))) (mAsg (mVar 1) (gmSub (mVar 6) (mC (.int 2)))) mNext))) mNext)
      (mSeq (mAsg (mIf (mTst (mOp aEq (mOp aIx (mVar 4) (mC (.int 2))) (mVar 1))) (mC (.int 1)) (mC (.int 2))) (gmName 7))
      (mSeq (mAsg (mOp aIx (mVar 3) (mVar 7)) (gmName 8))
      (mSeq (mAsg (mVar 5) (gmSub (mVar 3) (mC (.int 0))))
      (mSeq (mAsg (mVar 2) (gmSub (mVar 3) (mVar 7)))
      (mSeq (mAsg (mVar 1) (gmSub (mVar 4) (mC (.int 0))))
      (mSeq (mAsg (mVar 8) (gmSub (mVar 4) (mOp aSub (mC (.int 3)) (mVar 7))))
      (mIfS (mTst (mOp aNotN (mVar 8) (mC .non))) (mSeq (mAsg (mOp aIx (mVar 0) (mVar 8)) (gmName 9))
      (mAsg (mVar 2) (gmSub (mVar 9) (mC (.int 0))))) mNext)))))))))))))))
def m_is_house (g : G) : List D → Store → R D := mBody 2 ((mRet (mDef 3 (mPure (m_is_between g)) (mCons (mC (.int 0)) (mCons (mOp aSub (mVar 0) (mC (.int 1))) (mCons (mVar 1) mNil))))))
def m_is_many (g : G) : List D → Store → R D := mBody 1 ((mRet (mDef 3 (mPure (m_is_between g)) (mCons (mC (.int 1)) (mCons (mC (.int 64)) (mCons (mVar 0) mNil))))))
def m_told_worths (g : G) : List D → Store → R D := mBody 2 ((mRet (mCall aTuple (mCons (mFrz (mLc (mRng1 (mCons (mCall aLen (mCons (mVar 0) mNil)) mNil)) (gmName 1) mYes (mDef 2 (mScope (m_told_worth g)) (mCons (mVar 0) (mCons (mVar 1) mNil))) [1])) mNil))))
def m_L_shape (g : G) : List D → Store → R D := mBody 12 ((mSeq (mAsg (mDef 2 (mScope (m_L_shuffled g)) (mCons (mVar 0) (mCons (mVar 1) mNil))) (gmName 2))
      (mSeq (mAsg (mTrk (mLc (mRng1 (mCons (mVar 1) mNil)) (gmName 4) mYes (mDef 2 (m_L_house g) (mCons (mC .non) (mCons (mDef 1 (mScope (m_L_value g)) (mCons (mVar 0) mNil)) mNil))) [4])) (gmName 3))
      (mSeq (mAsg (mDef 2 (mScope (m_L_draw g)) (mCons (mVar 0) (mCons (mC (.int 4)) mNil))) (gmName 5))
      (mSeq (mFor (mRng1 (mCons (mVar 1) mNil)) (gmName 6) (mSeq (mAsg (mOp aIx (mVar 3) (mOp aIx (mVar 2) (mVar 6))) (gmName 7))
      (mSeq (mAsg (mOp aEq (mDef 2 (mScope (m_L_draw g)) (mCons (mVar 0) (mCons (mC (.int 3)) mNil))) (mC (.int 0))) (gmSub (mVar 7) (mC (.int 3))))
      (mSeq (mAsg (mOp aIx (mFrz (mLst (mCons (mC (.int 0)) (mCons (mC (.int 0)) (mCons (mC (.int 0)) (mCons (mC (.int 1)) (mCons (mUn aNeg (mC (.int 7))) (mCons (mOp aPow (mC (.int 10)) (mC (.int 18))) mNil)))))))) (mDef 2 (mScope (m_L_draw g)) (mCons (mVar 0) (mCons (mC (.int 6)) mNil)))) (gmSub (mVar 7) (mC (.int 4))))
      (mIfS (mTst (mOp aGt (mVar 6) (mC (.int 0)))) (mSeq (mAsg (mOp aIx (mVar 2) (mOp aSub (mOp aSub (mVar 6) (mC (.int 1))) (mDef 2 (mScope (m_L_draw g)) (mCons (mVar 0) (mCons (mOp aIx (mFrz (mLst (mCons (mVar 6) (mCons (mCall aMin (mCons (mVar 6) (mCons (mC (.int 2)) mNil))) (mCons (mC (.int 1)) (mCons (mVar 6) mNil)))))) (mVar 5)) mNil))))) (gmName 8))
      (mSeq (mAsg (mOp aIx (mVar 3) (mVar 8)) (gmName 9))
      (mSeq (mAsg (mOp aAdd (mC (.int 1)) (mDef 2 (mScope (m_L_draw g)) (mCons (mVar 0) (mCons (mC (.int 2)) mNil)))) (gmName 10))
      (mIfS (mTst (mOp aGt (mDef 2 (mScope (m_L_draw g)) (mCons (mVar 0) (mCons (mC (.int 8)) mNil))) (mC (.int 0)))) (mSeq (mAsg (mVar 8) (gmSub (mVar 7) (mC (.int 0))))
      (mIfS (mAndT (mTst (mOp aIsN (mOp aIx (mVar 9) (mVar 10)) (mC .non))) (mTst (mOp aGt (mDef 2 (mScope (m_L_draw g)) (mCons (mVar 0) (mCons (mC (.int 4)) mNil))) (mC (.int 0))))) (mAsg (mOp aIx (mVar 2) (mVar 6)) (gmSub (mVar 9) (mVar 10))) mNext)) mNext)))) mNext)))))
      (mRet (mCall aTuple (mCons (mFrz (mLc (mWalk (mVar 3)) (gmName 11) mYes (mCall aTuple (mCons (mVar 11) mNil)) [11])) mNil))))))))
def m_are_parents (g : G) : List D → Store → R D := mBody 2 ((mSeq (mIfS (mOrT (mNotT (mTst (mCall (aIsi g.K g.CS) (mCons (mVar 0) (mCons (mC (.con (.ty "tuple"))) mNil))))) (mNotT (mTst (mDef 1 (mPure (m_is_many g)) (mCons (mCall aLen (mCons (mVar 0) mNil)) mNil))))) (mRet (mC (.bl false))) mNext)
      (mSeq (mIfS (mNotT (mTst (mCall aAll (mCons (mFrz (mLc (mWalk (mVar 0)) (gmName 1) mYes (mOr (mOp aIsN (mVar 1) (mC .non)) (mDef 2 (mPure (m_is_house g)) (mCons (mCall aLen (mCons (mVar 0) mNil)) (mCons (mVar 1) mNil)))) [1])) mNil)))) (mRet (mC (.bl false))) mNext)
      (mRet (mDef 1 (mPure (m_come_to_roots g)) (mCons (mVar 0) mNil))))))
def m_is_part (g : G) : List D → Store → R D := mBody 3 ((mSeq (mIfS (mOrT (mNotT (mTst (mCall (aIsi g.K g.CS) (mCons (mVar 1) (mCons (mC (.con (.ty "tuple"))) mNil))))) (mTst (mOp aNe (mCall aLen (mCons (mVar 1) mNil)) (mC (.int 6))))) (mRet (mC (.bl false))) mNext)
      (mSeq (mIfS (mNotT (mTst (mCall aAll (mCons (mFrz (mLc (mWalk (mSl (mVar 1) moN (moS (mC (.int 3))))) (gmName 2) mYes (mOr (mOp aIsN (mVar 2) (mC .non)) (mDef 2 (mPure (m_is_house g)) (mCons (mVar 0) (mCons (mVar 2) mNil)))) [2])) mNil)))) (mRet (mC (.bl false))) mNext)
      (mRet (mAnd (mCall (aIsi g.K g.CS) (mCons (mOp aIx (mVar 1) (mC (.int 3))) (mCons (mC (.con (.ty "bool"))) mNil))) (mAnd (mDef 1 (mPure (m_is_integer g)) (mCons (mOp aIx (mVar 1) (mC (.int 4))) mNil)) (mDef 1 (mPure (m_is_integer g)) (mCons (mOp aIx (mVar 1) (mC (.int 5))) mNil))))))))
def m_need_house (g : G) : List D → Store → R D := mBody 2 ((mIfS (mNotT (mTst (mDef 2 (mPure (m_is_house g)) (mCons (mCall aLen (mCons (mVar 0) mNil)) (mCons (mVar 1) mNil))))) (mRaise0 g.NoHouse) mNext))
def m_Forest_init (g : G) : List D → Store → R D := mBody 3 ((mSeq (mIfS (mNotT (mTst (mDef 1 (mPure (m_are_parents g)) (mCons (mVar 1) mNil)))) (mRaise1 g.BadForest "part" (mCons (mC (.str "parents")) mNil)) mNext)
      (mSeq (mIfS (mNotT (mTst (mDef 2 (mPure (m_are_worths g)) (mCons (mVar 2) (mCons (mCall aLen (mCons (mVar 1) mNil)) mNil))))) (mRaise1 g.BadForest "part" (mCons (mC (.str "worths")) mNil)) mNext)
      (mSeq (mSetF g.FL "parents" (mVar 0) (mVar 1))
      (mSetF g.FL "worths" (mVar 0) (mVar 2))))))
def m_is_shape (g : G) : List D → Store → R D := mBody 3 ((mSeq (mIfS (mOrT (mNotT (mTst (mCall (aIsi g.K g.CS) (mCons (mVar 0) (mCons (mC (.con (.ty "tuple"))) mNil))))) (mNotT (mTst (mDef 1 (mPure (m_is_many g)) (mCons (mCall aLen (mCons (mVar 0) mNil)) mNil))))) (mRet (mC (.bl false))) mNext)
      (mSeq (mIfS (mNotT (mTst (mCall aAll (mCons (mFrz (mLc (mWalk (mVar 0)) (gmName 1) mYes (mDef 2 (mPure (m_is_part g)) (mCons (mCall aLen (mCons (mVar 0) mNil)) (mCons (mVar 1) mNil))) [1])) mNil)))) (mRet (mC (.bl false))) mNext)
      (mSeq (mIfS (mNotT (mTst (mCall aAll (mCons (mFrz (mLc (mRng1 (mCons (mCall aLen (mCons (mVar 0) mNil)) mNil)) (gmName 2) mYes (mDef 2 (mPure (m_has_its_sons g)) (mCons (mVar 0) (mCons (mVar 2) mNil))) [2])) mNil)))) (mRet (mC (.bl false))) mNext)
      (mRet (mDef 1 (mPure (m_come_to_roots g)) (mCons (mCall aTuple (mCons (mFrz (mLc (mWalk (mVar 0)) (gmName 1) mYes (mOp aIx (mVar 1) (mC (.int 0))) [1])) mNil)) mNil)))))))
def m_stands_of (g : G) : List D → Store → R D := mBody 2 ((mSeq (mIfS (mNotT (mTst (mDef 1 (mPure (m_is_shape g)) (mCons (mVar 0) mNil)))) (mRaise0 g.NoShape) mNext)
      (mRet (mTrk (mLc (mWalk (mVar 0)) (gmName 1) mYes (mDef 1 (mkC g.Stand (m_Stand_init g)) (mCons (mVar 1) mNil)) [1])))))
def m_weights (g : G) : List D → Store → R D := mBody 1 ((mRet (mDef 1 (mScope (m_weights_of g)) (mCons (mDef 1 (m_stands_of g) (mCons (mVar 0) mNil)) mNil))))
def m_handed_on (g : G) : List D → Store → R D := mBody 3 ((mSeq (mAsg (mDef 1 (m_stands_of g) (mCons (mVar 0) mNil)) (gmName 2))
      (mSeq (mDrop (mDef 2 (mScope (m_need_house g)) (mCons (mVar 2) (mCons (mVar 1) mNil))))
      (mSeq (mDrop (mDef 2 (mScope (m_hand_on g)) (mCons (mVar 2) (mCons (mVar 1) mNil))))
      (mRet (mDef 1 (mScope (m_shape_of g)) (mCons (mVar 2) mNil)))))))
def m_turned_up (g : G) : List D → Store → R D := mBody 3 ((mSeq (mAsg (mDef 1 (m_stands_of g) (mCons (mVar 0) mNil)) (gmName 2))
      (mSeq (mDrop (mDef 2 (mScope (m_need_house g)) (mCons (mVar 2) (mCons (mVar 1) mNil))))
      (mSeq (mIfS (mTst (mDef 2 (mScope (m_is_top g)) (mCons (mVar 2) (mCons (mVar 1) mNil)))) (mRaise0 g.NoTurn) mNext)
      (mSeq (mDrop (mDef 2 (mScope (m_turn_up g)) (mCons (mVar 2) (mCons (mVar 1) mNil))))
      (mRet (mDef 1 (mScope (m_shape_of g)) (mCons (mVar 2) mNil))))))))
def m_L_is (g : G) : Nat → List D → Store → R D
  | 0 => fun _ _ => .fail
  | d + 1 => mBody 4 ((mSeq (mIfS (mTst (mCall (aIsiT g.K g.CS) (mCons (mVar 1) (mCons (mTup (mCons (mC (.con (.ty "tuple"))) (mCons (mC (.con (.ty "list"))) mNil))) mNil)))) (mSeq (mIfS (mOrT (mTst (mOp aNe (mCall (aIsi g.K g.CS) (mCons (mVar 0) (mCons (mC (.con (.ty "tuple"))) mNil))) (mCall (aIsi g.K g.CS) (mCons (mVar 1) (mCons (mC (.con (.ty "tuple"))) mNil))))) (mNotT (mTst (mCall (aIsiT g.K g.CS) (mCons (mVar 0) (mCons (mTup (mCons (mC (.con (.ty "tuple"))) (mCons (mC (.con (.ty "list"))) mNil))) mNil)))))) (mRet (mC (.bl false))) mNext)
      (mRet (mAnd (mOp aEq (mCall aLen (mCons (mVar 0) mNil)) (mCall aLen (mCons (mVar 1) mNil))) (mCall aAll (mCons (mFrz (mLc (mZip (mCons (mVar 0) (mCons (mVar 1) mNil))) (gmTup 2 (gmCons (gmName 2) (gmCons (gmName 3) gmNil))) mYes (mDef 2 (mPure (m_L_is g d)) (mCons (mVar 2) (mCons (mVar 3) mNil))) [2, 3])) mNil))))) mNext)
      (mRet (mAnd (mOp aEq (mCall (aIsi g.K g.CS) (mCons (mVar 0) (mCons (mC (.con (.ty "bool"))) mNil))) (mCall (aIsi g.K g.CS) (mCons (mVar 1) (mCons (mC (.con (.ty "bool"))) mNil)))) (mOp aEq (mVar 0) (mVar 1))))))
def m_L_is_handed (g : G) : List D → Store → R D := mBody 4 ((mSeq (mAsg (mDef 1 (m_L_listed g) (mCons (mVar 0) mNil)) (gmName 2))
      (mSeq (mDrop (mDef 2 (mScope (m_L_hand_on g)) (mCons (mVar 2) (mCons (mVar 1) mNil))))
      (mSeq (mAsg (mDef 2 (mPure (m_handed_on g)) (mCons (mVar 0) (mCons (mVar 1) mNil))) (gmName 3))
      (mRet (mTup (mCons (mDef 2 (mPure (m_L_is g 60)) (mCons (mVar 3) (mCons (mDef 1 (mScope (m_L_tupled g)) (mCons (mVar 2) mNil)) mNil))) (mCons (mDef 1 (mScope (m_L_tupled g)) (mCons (mVar 2) mNil)) mNil))))))))
def m_L_is_turned (g : G) : List D → Store → R D := mBody 8 ((mSeq (mAsg (mOp aIx (mOp aIx (mVar 0) (mVar 1)) (mC (.int 0))) (gmName 2))
      (mSeq (mAsg (mDef 1 (m_L_listed g) (mCons (mVar 0) mNil)) (gmName 3))
      (mSeq (mDrop (mDef 2 (mScope (m_L_turn_up g)) (mCons (mVar 3) (mCons (mVar 1) mNil))))
      (mSeq (mAsg (mDef 1 (mScope (m_L_tupled g)) (mCons (mVar 3) mNil)) (gmName 3))
      (mSeq (mIfS (mNotT (mTst (mDef 2 (mPure (m_L_is g 60)) (mCons (mDef 2 (mPure (m_turned_up g)) (mCons (mVar 0) (mCons (mVar 1) mNil))) (mCons (mVar 3) mNil))))) (mRet (mTup (mCons (mC (.bl false)) (mCons (mVar 3) mNil)))) mNext)
      (mSeq (mAsg (mTup (mCons (mDef 1 (mPure (m_weights g)) (mCons (mVar 0) mNil)) (mCons (mDef 1 (mPure (m_weights g)) (mCons (mVar 3) mNil)) mNil))) (gmTup 2 (gmCons (gmName 4) (gmCons (gmName 5) gmNil))))
      (mSeq (mAsg (mFrz (mLc (mRng1 (mCons (mCall aLen (mCons (mVar 0) mNil)) mNil)) (gmName 7) (mAndT (mTst (mOp aNotIn (mVar 7) (mTup (mCons (mVar 1) (mCons (mVar 2) mNil))))) (mTst (mOp aNe (mOp aIx (mVar 4) (mVar 7)) (mOp aIx (mVar 5) (mVar 7))))) (mVar 7) [7])) (gmName 6))
      (mRet (mTup (mCons (mAnd (mOp aEq (mCall aLen (mCons (mVar 6) mNil)) (mC (.int 0))) (mOp aEq (mOp aIx (mVar 5) (mVar 1)) (mOp aIx (mVar 4) (mVar 2)))) (mCons (mVar 3) mNil))))))))))))
def m_part_in_order (g : G) : Nat → List D → Store → R D
  | 0 => fun _ _ => .fail
  | d + 1 => mBody 6 ((mSeq (mIfS (mTst (mOp aIsN (mVar 1) (mC .non))) (mRet (mFrz (mLst mNil))) mNext)
      (mSeq (mAsg (mOp aIx (mVar 0) (mVar 1)) (gmName 3))
      (mSeq (mAsg (mOp aNe (mVar 2) (mFld g.FL "turned" (mVar 3))) (gmName 2))
      (mSeq (mAsg (mDef 3 (mScope (m_part_in_order g d)) (mCons (mVar 0) (mCons (mFld g.FL "left" (mVar 3)) (mCons (mVar 2) mNil)))) (gmName 4))
      (mSeq (mAsg (mDef 3 (mScope (m_part_in_order g d)) (mCons (mVar 0) (mCons (mFld g.FL "right" (mVar 3)) (mCons (mVar 2) mNil)))) (gmName 5))
      (mSeq (mIfS (mTst (mVar 2)) (mRet (mOp aAdd (mOp aAdd (mVar 5) (mFrz (mLst (mCons (mVar 1) mNil)))) (mVar 4))) mNext)
      (mRet (mOp aAdd (mOp aAdd (mVar 4) (mFrz (mLst (mCons (mVar 1) mNil)))) (mVar 5))))))))))
def m_L_order (g : G) : Nat → List D → Store → R D
  | 0 => fun _ _ => .fail
  | d + 1 => mBody 3 ((mSeq (mAsg (mFrz (mLst mNil)) (gmName 2))
      (mSeq (mIfS (mTst (mOp aNotN (mOp aIx (mOp aIx (mVar 0) (mVar 1)) (mC (.int 1))) (mC .non))) (mAsg (mDef 2 (mPure (m_L_order g d)) (mCons (mVar 0) (mCons (mOp aIx (mOp aIx (mVar 0) (mVar 1)) (mC (.int 1))) mNil))) (gmName 2)) mNext)
      (mSeq (mAsg (mOp aAdd (mVar 2) (mFrz (mLst (mCons (mVar 1) mNil)))) (gmName 2))
      (mSeq (mIfS (mTst (mOp aNotN (mOp aIx (mOp aIx (mVar 0) (mVar 1)) (mC (.int 2))) (mC .non))) (mAsg (mOp aAdd (mVar 2) (mDef 2 (mPure (m_L_order g d)) (mCons (mVar 0) (mCons (mOp aIx (mOp aIx (mVar 0) (mVar 1)) (mC (.int 2))) mNil)))) (gmName 2)) mNext)
      (mRet (mIf (mTst (mOp aIx (mOp aIx (mVar 0) (mVar 1)) (mC (.int 3)))) (mRev (mVar 2)) (mVar 2))))))))
def m_row_in_order (g : G) : List D → Store → R D := mBody 2 ((mRet (mCall aTuple (mCons (mDef 3 (mScope (m_part_in_order g 70)) (mCons (mVar 0) (mCons (mVar 1) (mCons (mC (.bl false)) mNil)))) mNil))))
def m_L_told (g : G) : List D → Store → R D := mBody 9 ((mSeq (mAsg (mTrk (mMulL (mFrz (mLst (mCons (mC .non) mNil))) (mCall aLen (mCons (mVar 0) mNil)))) (gmName 1))
      (mSeq (mFor (mWalk (mDef 1 (mPure (m_L_tops g)) (mCons (mVar 0) mNil))) (gmName 2) (mSeq (mAsg (mOp aIx (mOp aIx (mVar 0) (mVar 2)) (mC (.int 0))) (gmName 3))
      (mFor (mWalk (mDef 2 (mPure (m_L_order g 70)) (mCons (mVar 0) (mCons (mVar 2) mNil)))) (gmName 4) (mSeq (mAsg (mVar 3) (gmSub (mVar 1) (mVar 4)))
      (mAsg (mVar 4) (gmName 3))))))
      (mSeq (mAsg (mTrk (mLst mNil)) (gmName 5))
      (mSeq (mFor (mRng1 (mCons (mCall aLen (mCons (mVar 0) mNil)) mNil)) (gmName 4) (mSeq (mAsg (mOp aIx (mOp aIx (mVar 0) (mVar 4)) (mC (.int 5))) (gmName 6))
      (mSeq (mAsg (mVar 4) (gmName 7))
      (mSeq (mFor (mRng1 (mCons (mCall aLen (mCons (mVar 0) mNil)) mNil)) (gmName 8) (mIfS (mTst (mDef 2 (mPure (m_L_is_son g)) (mCons (mVar 0) (mCons (mVar 7) mNil)))) (mSeq (mAsg (mOp aIx (mOp aIx (mVar 0) (mVar 7)) (mC (.int 0))) (gmName 7))
      (mAsg (mOp aAdd (mVar 6) (mOp aIx (mOp aIx (mVar 0) (mVar 7)) (mC (.int 4)))) (gmName 6))) mNext))
      (mDrop (mBM "list" (updL fAppend) (mVar 5) (mCons (mVar 6) mNil)))))))
      (mRet (mTup (mCons (mCall aTuple (mCons (mVar 1) mNil)) (mCons (mCall aTuple (mCons (mVar 5) mNil)) mNil)))))))))
def m_forest_of (g : G) : List D → Store → R D := mBody 5 ((mSeq (mAsg (mTrk (mMulL (mFrz (mLst (mCons (mC .non) mNil))) (mCall aLen (mCons (mVar 0) mNil)))) (gmName 1))
      (mSeq (mFor (mRng1 (mCons (mCall aLen (mCons (mVar 0) mNil)) mNil)) (gmName 2) (mIfS (mTst (mDef 2 (mScope (m_is_top g)) (mCons (mVar 0) (mCons (mVar 2) mNil)))) (mSeq (mAsg (mFld g.FL "up" (mOp aIx (mVar 0) (mVar 2))) (gmName 3))
      (mFor (mWalk (mDef 2 (mScope (m_row_in_order g)) (mCons (mVar 0) (mCons (mVar 2) mNil)))) (gmName 4) (mSeq (mAsg (mVar 3) (gmSub (mVar 1) (mVar 4)))
      (mAsg (mVar 4) (gmName 3))))) mNext))
      (mRet (mDef 2 (mPure (mkC g.Forest (m_Forest_init g))) (mCons (mCall aTuple (mCons (mVar 1) mNil)) (mCons (mDef 1 (mScope (m_told_worths g)) (mCons (mVar 0) mNil)) mNil)))))))
def m_told_forest (g : G) : List D → Store → R D := mBody 1 ((mRet (mDef 1 (mScope (m_forest_of g)) (mCons (mDef 1 (m_stands_of g) (mCons (mVar 0) mNil)) mNil))))
def m_law (g : G) : List D → Store → R D := mBody 10 ((mSeq (mAsg (mDef 1 (m_L_hand g) (mCons (mVar 0) mNil)) (gmName 1))
      (mSeq (mAsg (mDef 2 (mScope (m_L_shape g)) (mCons (mVar 1) (mCons (mDef 2 (mScope (m_L_many g)) (mCons (mVar 1) (mCons (mC (.int 12)) mNil))) mNil))) (gmName 2))
      (mSeq (mAsg (mDef 1 (mPure (m_L_told g)) (mCons (mVar 2) mNil)) (gmName 3))
      (mSeq (mFor (mRng1 (mCons (mOp aAdd (mC (.int 1)) (mDef 2 (mScope (m_L_draw g)) (mCons (mVar 1) (mCons (mC (.int 20)) mNil)))) mNil)) (gmName 4) (mSeq (mAsg (mDef 2 (mScope (m_L_draw g)) (mCons (mVar 1) (mCons (mCall aLen (mCons (mVar 2) mNil)) mNil))) (gmName 5))
      (mSeq (mAsg (mFrz (mLc (mRng1 (mCons (mCall aLen (mCons (mVar 2) mNil)) mNil)) (gmName 7) (mTst (mDef 2 (mPure (m_L_is_son g)) (mCons (mVar 2) (mCons (mVar 7) mNil)))) (mVar 7) [7])) (gmName 6))
      (mSeq (mIfS (mOrT (mTst (mOp aEq (mDef 2 (mScope (m_L_draw g)) (mCons (mVar 1) (mCons (mC (.int 3)) mNil))) (mC (.int 0)))) (mTst (mOp aEq (mCall aLen (mCons (mVar 6) mNil)) (mC (.int 0))))) (mAsg (mDef 2 (mPure (m_L_is_handed g)) (mCons (mVar 2) (mCons (mVar 5) mNil))) (gmTup 2 (gmCons (gmName 8) (gmCons (gmName 2) gmNil)))) (mAsg (mDef 2 (mPure (m_L_is_turned g)) (mCons (mVar 2) (mCons (mOp aIx (mVar 6) (mDef 2 (mScope (m_L_draw g)) (mCons (mVar 1) (mCons (mCall aLen (mCons (mVar 6) mNil)) mNil)))) mNil))) (gmTup 2 (gmCons (gmName 8) (gmCons (gmName 2) gmNil)))))
      (mIfS (mOrT (mNotT (mTst (mVar 8))) (mTst (mOp aNe (mDef 1 (mPure (m_L_told g)) (mCons (mVar 2) mNil)) (mVar 3)))) (mRet (mC (.bl false))) mNext)))))
      (mSeq (mAsg (mDef 1 (mPure (m_told_forest g)) (mCons (mVar 2) mNil)) (gmName 9))
      (mRet (mDef 2 (mPure (m_L_is g 60)) (mCons (mTup (mCons (mFld g.FL "parents" (mVar 9)) (mCons (mFld g.FL "worths" (mVar 9)) mNil))) (mCons (mVar 3) mNil))))))))))
end
end W3
local macro_rules | `(tactic| decreasing_trivial) => `(tactic| omega)
namespace PySem
namespace XBadForest
open PySem.W PySem.Calls PyProof.Rows PySem.HandSPX
/-! ### the text of __init__ -/
def iA (p1 p2 : Pos) : Arguments := { posonlyargs := [], args := [{ arg := "self", annotation := none, pos := p1 }, { arg := "part", annotation := none, pos := p2 }], vararg := none, kwonlyargs := [], kw_defaults := [], kwarg := none, defaults := [] }
def iB (q1 q2 q3 q4 : Pos) : List Stmt := [.Assign [.Attribute (.Name "self" q1) "part" q2] (.Name "part" q3) q4]
def iS : Scope := { kind := .function, names := [(PySem.Str.ofString "self", .local), (PySem.Str.ofString "part", .local)], isGenerator := false, isCoroutine := false, more := [] }
/-- what the written part says of Low, at C, and of its __init__, at fI -/
structure TxtBadForest (K : Frag) (mg : Str → Option Value) (C fI : Addr) : Prop where
  gC : mg "BadForest" = some (.ref C)
  cls : ∃ nm q N bs bm sn sub ab col dd k0 k1 k2 k3 k5, K.lookup C = some (excClassObj nm q C N bs bm true sn sub ab col dd k0 k1 k2 k3 k5 "ValueError.__new__") ∧ refsVE bm = true
  sa : findIn K (.ref C) "__setattr__" = some (some (.builtin "object.__setattr__"))
  ga : findIn K (.ref C) "__getattribute__" = some (some (.builtin "BaseException.__getattribute__"))
  gg : findIn K (.ref C) "__getattr__" = some none
  noN : findIn K (.ref C) "part" = some none
  iC : findIn K (.ref C) "__init__" = some (some (.ref fI))
  tC : typeIn K (.ref fI) = some (.type "function")
  kC : keepIn K (.ref C) = true
  exC : subIn K (.ref C) (.type "BaseException") = some true
  tyC : typeIn K (.ref C) = some (.type "type")
  hdC : hasDictIn K C = true
  te : exmOne K (.ref C) (.ref C) = some true
  fn : ∃ (oc : Value) (od : Option Addr) (doc pm : Value) (an : Option Addr) (cdv ct : Value) (osl : Array (Option Value)) (p1 p2 q1 q2 q3 q4 : Pos),
    K.lookup fI = some ⟨oc, od, .func (fnOf "__init__" "BadForest.__init__" (iA p1 p2) (iB q1 q2 q3 q4) iS .none .none doc pm an cdv ct), osl⟩ ∧ codeIn K cdv "BadForest.__init__" = true
theorem one_size (v : Value) : [v].length ≤ sizeLine := by
  rw [sizeLine_eq]
  exact (by decide : 1 ≤ 16777216)
theorem kept_but {K : Frag} {h h' : Heap} {x : Addr} (X : K.In h) (hx : K.lookup x = none) (k : ∀ b o, b ≠ x → h.get? b = some o → h'.get? b = some o) : K.In h' := fun a o e =>
  k a o (fun z => by rw [z, hx] at e; cases e) (X a o e)
theorem ldC {M : Model} {s : Shared} {name : Str} {scope : Scope} {L a : Addr} {cd : Value} {m : Str → Option Value} {x : Str} {pos : Pos} {v : Value} {Q : Value → Shared → Prop} {A : Around} {E : Value → Shared → Prop} (hn : s.heap.Ns L m) (hv : m x = some v) (h : Q v s)
    (hk : scope.kind = .function := by rfl) (hl : (envOfC name scope L a cd).kindOf x = some .local := by rfl) (hd : (x == ("__debug__" : Str)) = false := by decide) :
    wpAny M A (eval (.Name x pos) (envOfC name scope L a cd)) Q E s := wpAny_Name (wpAny_loadName_local hk hl hn hv h) hd
/-- what __init__ leaves of a fresh exception at x -/
structure InitEnd (h h' : Heap) (x C dx t1 : Addr) (v : Value) : Prop where
  keep : ∀ b o, b ≠ x → h.get? b = some o → h'.get? b = some o
  obj : h'.get? x = some { cls := .ref C, dict := some dx, data := .fields #[.ref t1, .none, .none, .none, .bool false, .none] }
  dbig : h.objs.size ≤ dx
  dne : dx ≠ x
  ns : h'.Ns1 dx (fun y => if y = "part" then some v else none)
/-- a made Low -/
structure OwnMade (h h' : Heap) (e C d : Addr) (v : Value) : Prop where
  keep : ∀ b o, h.get? b = some o → h'.get? b = some o
  new : h.objs.size ≤ e
  obj : ∃ oe vs, h'.get? e = some oe ∧ oe.cls = .ref C ∧ oe.dict = some d ∧ oe.data = .fields vs ∧ vs[1]? = some .none
  dbig : h.objs.size ≤ d
  dne : d ≠ e
  ns : h'.Ns1 d (fun y => if y = "part" then some v else none)
section
variable {prog : Program} {w : World} {A : Around} {E : Value → Shared → Prop} {R : Result → Shared → Prop} {s : Shared} {K : Frag} {mg : Str → Option Value} {C fI : Addr}
theorem low_init (T : TxtBadForest K mg C fI) {x t0 : Addr} {v : Value} (X : K.In s.heap) (hlim : s.heap.NoLimit) (hx : s.heap.get? x = some (excO C t0)) (hnx : K.lookup x = none) (hroom : A.depth < recursionLimit)
    (hq : ∀ h' tk dx, InitEnd s.heap h' x C dx t0 v → R (.ok (.ret .none)) { s with heap := h', toks := tk }) :
    codeAny (model prog w) A (.call (.ref fI) ⟨[.ref x, v], []⟩) R s := by
  obtain ⟨oc, od, doc, pm, an, cdv, ct, osl, p1, p2, q1, q2, q3, q4, ho, hcd⟩ := T.fn
  obtain ⟨nm, q, N, bs, bm, sn, sub, ab, col, dd, k0, k1, k2, k3, k5, hC, hbm⟩ := T.cls
  have hcl : clsIn K C = some { name := nm, bases := bs, mro := .ref C :: bm, ns := N, qualname := q, hasDict := true, slotNames := sn, subclasses := sub, abstract := ab, collection := col, hasDel := false } := by unfold clsIn; rw [hC] <;> rfl
  refine Att.call_fn (binds := [("self", .ref x), ("part", v)]) X hlim ho hcd hroom (BindsTo.of_eq (by first | rfl | with_unfolding_all rfl)) (by first | rfl | decide | with_unfolding_all rfl) (fun s₁ IC => ?_) rfl rfl rfl
  obtain ⟨h₁, tk₁, rfl⟩ := IC.toInCall.same
  have k : ∀ b o, s.heap.get? b = some o → h₁.get? b = some o := IC.toInCall.keep
  have hn := IC.toInCall.ns
  have hxL : s.heap.objs.size ≠ x := Nat.ne_of_gt (Heap.lt_size hx)
  have X₁ : K.In h₁ := X.keeps k
  have hx₁ := k _ _ hx
  -- self.by = by
  show wpAny _ _ (execs _ _) _ _ _
  refine wpAny_execs_cons (plainObj_wpAny_Assign_Attribute ?_)
  refine ldC (v := v) hn (by first | rfl | with_unfolding_all rfl | kernel_rfl) (ldC (v := .ref x) hn (by first | rfl | with_unfolding_all rfl | kernel_rfl) ?_)
  refine set_plain X₁ (ox := excO C t0) (od := none) ⟨hx₁, rfl, rfl, trivial⟩ T.sa ?_
  refine exc_osa X₁ hx₁ hcl (show refsVE (.ref C :: bm) = true from hbm) rfl T.noN (fun h₃ tk₃ dx k₃ dn dne hx₃ hn₃ => ?_)
  show wpAny _ _ (execs _ _) _ _ _
  have z : s.heap.objs.size < h₁.objs.size := hn.lt
  exact wpAny_execs_nil (hq h₃ tk₃ dx ⟨fun b o hb e => k₃ b o hb (k b o e), hx₃, Nat.le_of_lt (Nat.lt_of_lt_of_le z dn), dne, hn₃⟩)
theorem low_made (T : TxtBadForest K mg C fI) {v : Value} (X : K.In s.heap) (hlim : s.heap.NoLimit) (hroom : A.depth + 1 < recursionLimit)
    (hq : ∀ h' tk e d, OwnMade s.heap h' e C d v → R (.ok (.ret (.ref e))) { s with heap := h', toks := tk }) :
    codeAny (model prog w) A (.call (.ref C) ⟨[v], []⟩) R s := by
  obtain ⟨nm, q, N, bs, bm, sn, sub, ab, col, dd, k0, k1, k2, k3, k5, hC, hbm⟩ := T.cls
  obtain ⟨hp, g, dr, tk, os⟩ := s
  have k : ∀ b o, hp.get? b = some o → ((hp.push (kdv_tup [v])).push (excO C hp.objs.size)).get? b = some o := fun b o e => Heap.get?_push_of_some _ (Heap.get?_push_of_some _ e)
  have hget : ((hp.push (kdv_tup [v])).push (excO C hp.objs.size)).get? (hp.objs.size + 1) = some (excO C hp.objs.size) := by heap_get
  have hnx : K.lookup (hp.objs.size + 1) = none := by
    cases e : K.lookup (hp.objs.size + 1) with
    | none => rfl
    | some o =>
      have z : hp.get? (hp.objs.size + 1) = some o := X _ _ e
      exact absurd (Nat.lt_of_succ_lt (Heap.lt_size z)) (Nat.lt_irrefl _)
  refine call_own F.excBase_ValueError (fun X => refsVE_contains X bm hbm) (X _ _ hC) (looks_findIn X T.iC) (fun self => bind_fn X self T.tC) (one_size v) ?_
  refine low_init (s := ⟨(hp.push (kdv_tup [v])).push (excO C hp.objs.size), g, dr, tk, os⟩) T (X.keeps k) (hlim.keeps k) hget hnx ?_ fun h' tk' dx ⟨k', hx, dn, dne, hns⟩ => ?_
  · show A.depth + 1 < recursionLimit
    exact hroom
  · have old : ∀ b o, hp.get? b = some o → h'.get? b = some o := fun b o e => k' b o (Nat.ne_of_lt (Nat.lt_succ_of_lt (Heap.lt_size e))) (k b o e)
    have z : hp.objs.size + 1 + 1 ≤ dx := by
      first
        | (simpa only [Heap.size_push] using dn)
        | exact dn
        | (have q := dn; rw [Heap.size_push, Heap.size_push] at q; exact q)
    exact ⟨rfl, hq h' tk' (hp.objs.size + 1) dx ⟨old, Nat.le_succ _, ⟨_, _, hx, rfl, rfl, rfl, rfl⟩, Nat.le_trans (Nat.le_trans (Nat.le_succ _) (Nat.le_succ _)) z, dne, hns⟩⟩
end
end XBadForest
end PySem
namespace L2
open PySem PySem.Spec PyProof.Rows
theorem relO__BadForest {v : V} {v' : Value} (r : RelV v v') (f : Str) : RelO (List.lookup f [(("part" : Str), v)]) (if f = "part" then some v' else none) := by
  by_cases hw : f = "part"
  · subst hw
    rw [if_pos rfl]
    have q : List.lookup ("part" : Str) [(("part" : Str), v)] = some v := by simp [List.lookup]
    rw [q]
    exact r
  · rw [if_neg hw]
    have qw : (f == ("part" : Str)) = false := by simpa using hw
    have q2 : List.lookup f [(("part" : Str), v)] = none := by simp [List.lookup, qw]
    rw [q2]
    trivial
section
variable {X : Cx} {C fI : Addr}
/-- Low(e) -/
def tMk_BadForest (C : Addr) (ta : TA) : St → Hp → XK → Prop := fun σ H Q => ta σ H fun vs H1 => ∃ v, vs = [v] ∧ ∀ d, H1 d = none → Q (.ref C) (some d) (upd H1 d (.xd [(("part" : Str), v)]))
theorem pmk__BadForest {a : Expr} {ta : TA} {p pos : Pos} {k : Nat} (T : PySem.XBadForest.TxtBadForest X.K X.mg C fI) (hr : Room k X.A) (ha : PA X [a] ta) (hg : Gl X "BadForest" := by rfl)
    (he : starEach (a :: []) X.env = (false, eval a X.env) :: starEach [] X.env := by rfl) (hpl : (backTo pos (starEach [] X.env)).any (·.1) = false := by rfl) :
    PMk X (.Call (.Name "BadForest" p) [a] [] pos) (tMk_BadForest C ta) := by
  intro pins s σ H Q I h
  refine wpAny_Call_Name_kw (ld_glob I hg T.gC ?_)
  refine PySem.W.callWith_K (h₀ := X.base) I.ok.mod.kin T.kC (thn (ha.run pos pins s σ H _ I h) fun us s1 hh => ?_) he hpl
  obtain ⟨vs, H1, I1, r1, v, ev, q1⟩ := hh
  subst ev
  refine ⟨I1.kIn, ?_⟩
  cases r1 with
  | cons rv rn =>
    rename_i v' us'
    cases rn
    show wpAny _ _ (call (.ref C) [v']) _ _ _
    have hlim := I1.nolimit
    obtain ⟨hp, g, dr, tk, os⟩ := s1
    refine wpAny_call (PySem.XBadForest.low_made T I1.kIn hlim (by have := hr.dp; omega) fun h' tk' e d M => ?_)
    show MkP X pins σ Q (.ref e) ⟨h', g, dr, tk', os⟩
    obtain ⟨oe, fv, hoe, hc, hd, hdat, h1⟩ := M.obj
    have hns := M.ns
    obtain ⟨G', g1, g2⟩ := restrict h' fun b => decide (b ≠ e)
    have gk : ∀ b, b ≠ e → G'.get? b = h'.get? b := fun b hb => g1 b (decide_eq_true hb)
    have ge : G'.get? e = none := g2 e (by simp)
    have old : ∀ b o, hp.get? b = some o → G'.get? b = some o := fun b o q => (gk b (Nat.ne_of_lt (Nat.lt_of_lt_of_le (Heap.lt_size q) M.new))).trans (M.keep b o q)
    have ob : ObjOk X.prog X.w (upd H1 d (.xd [(("part" : Str), v)])) G' d (.xd [(("part" : Str), v)]) :=
      ⟨_, hns.at (fun o q => (gk d M.dne).trans q), fun f => relO__BadForest rv f⟩
    have J : Inv X pins σ (upd H1 d (.xd [(("part" : Str), v)])) ⟨G', g, dr, tk', os⟩ := I1.laid (t' := tk') old M.dbig ob
    refine ⟨e, oe, fv, ⟨G', g, dr, tk', os⟩, _, .ref C, some d, rfl, J, fun b o q => ?_, ge, hoe, ⟨hc, hd⟩, hdat, h1, ?_, rfl, I1.bare, raises_own T.exC T.tyC, q1 d (I1.hok.fresh M.dbig)⟩
    · by_cases hb : b = e
      · have q' : G'.get? b = some o := q
        rw [hb, ge] at q'; cases q'
      · exact (gk b hb).symm.trans q
    · rw [upd_ne (Ne.symm M.dne)]
      exact I1.hok.fresh M.new
/-- raise Low(e) -/
def tRaise_BadForest (C : Addr) (W : WX) (ta : TA) : TS := fun _ σ H => tMk_BadForest C ta σ H fun cls d H' => W cls d σ H'
theorem ps_raise_BadForest {a : Expr} {ta : TA} {W : WX} {p pos pos2 : Pos} {k : Nat} (hc : X.calm = true) (T : PySem.XBadForest.TxtBadForest X.K X.mg C fI) (hr : Room k X.A) (tk : Takes X W) (ha : PA X [a] ta) (hg : Gl X "BadForest" := by rfl)
    (he : starEach (a :: []) X.env = (false, eval a X.env) :: starEach [] X.env := by rfl) (hpl : (backTo pos (starEach [] X.env)).any (·.1) = false := by rfl) :
    PS X (.Raise (some (.Call (.Name "BadForest" p) [a] [] pos)) none pos2) (tRaise_BadForest C W ta) := ps_raise hc tk (pmk__BadForest T hr ha hg he hpl)
/-- low.by, low the exception that the suite holds (at a; its class cls, its dict d) -/
def tBy_BadForest (C : Addr) (a : Addr) (cls : Value) (d : Option Addr) (te : TE) : TE := fun σ H Q => te σ H fun x H1 => x = .ref a ∧ cls = .ref C ∧ ∃ (dd : Addr) (v : V), d = some dd ∧ H1 dd = some (.xd [(("part" : Str), v)]) ∧ Q v H1
theorem pe_by_BadForest {a : Addr} {oe : Obj} {cls : Value} {d : Option Addr} {pn : List (Addr × Obj)} {e : Expr} {te : TE} {pos : Pos} (T : PySem.XBadForest.TxtBadForest X.K X.mg C fI) (hz : Zc cls d oe) (hf : ∃ vs, oe.data = .fields vs) (he : PE (X.suite a ((a, oe) :: pn)) e te)
    (hb : attributeBase e "part" X.env (eval e X.env) = eval e X.env := by rfl) :
    PE (X.suite a ((a, oe) :: pn)) (.Attribute e "part" pos) (tBy_BadForest C a cls d te) := by
  refine ⟨fun pins s σ H Q I h => ?_⟩
  refine attr_of hb (thn (he.run pins s σ H _ I h) fun u s1 hh => ?_)
  obtain ⟨x, H1, I1, rx, ex, ec, dd, v, ed, ea, q⟩ := hh
  subst ex
  obtain rfl : u = Value.ref a := rx
  subst ec
  subst ed
  obtain ⟨ha, _⟩ := I1.pin (a, oe) (List.mem_append_left _ List.mem_cons_self)
  obtain ⟨vs, hd⟩ := hf
  have hx : ObjOk X.prog X.w H1 s1.heap dd (.xd [(("part" : Str), v)]) := I1.hok dd _ ea
  obtain ⟨mA, hns, hr⟩ := hx
  obtain ⟨od, ho, hl⟩ := lookIn_ns hns
  have l : List.lookup ("part" : Str) [(("part" : Str), v)] = some v := by simp [List.lookup]
  obtain ⟨u, hu, ru⟩ := RelO.some_of (v := v) (o := mA "part") (by rw [← l]; exact hr "part")
  have J : PySem.W.InstAt s1.heap a oe C (some od) := ⟨ha, hz.1, by unfold PySem.W.notCls; rw [hd] <;> rfl, by rw [hz.2]; exact ho⟩
  exact HandSPX.exc_get I1.kIn J T.ga T.gg T.exC (PySem.W.findObj_own T.hdC T.noN rfl (by rw [hl, hu])) (handed_of ru) ⟨v, H1, I1.tok _, ru, q⟩
end
end L2

namespace PySem
namespace XNoHouse
open PySem.W PySem.Calls PyProof.Rows PySem.HandSPX
def iA (p1 : Pos) : Arguments := { posonlyargs := [], args := [{ arg := "self", annotation := none, pos := p1 }], vararg := none, kwonlyargs := [], kw_defaults := [], kwarg := none, defaults := [] }
def iB (q1 : Pos) : List Stmt := [.Pass q1]
def iS : Scope := { kind := .function, names := [(PySem.Str.ofString "self", .local)], isGenerator := false, isCoroutine := false, more := [] }
structure TxtNoHouse (K : Frag) (mg : Str → Option Value) (C fI : Addr) : Prop where
  gC : mg "NoHouse" = some (.ref C)
  cls : ∃ nm q N bs bm sn sub ab col dd k0 k1 k2 k3 k5, K.lookup C = some (excClassObj nm q C N bs bm true sn sub ab col dd k0 k1 k2 k3 k5 "ValueError.__new__") ∧ refsVE bm = true
  iC : findIn K (.ref C) "__init__" = some (some (.ref fI))
  tC : typeIn K (.ref fI) = some (.type "function")
  kC : keepIn K (.ref C) = true
  exC : subIn K (.ref C) (.type "BaseException") = some true
  tyC : typeIn K (.ref C) = some (.type "type")
  te : exmOne K (.ref C) (.ref C) = some true
  fn : ∃ (oc : Value) (od : Option Addr) (doc pm : Value) (an : Option Addr) (cdv ct : Value) (osl : Array (Option Value)) (p1 q1 : Pos),
    K.lookup fI = some ⟨oc, od, .func (fnOf "__init__" "NoHouse.__init__" (iA p1) (iB q1) iS .none .none doc pm an cdv ct), osl⟩ ∧ codeIn K cdv "NoHouse.__init__" = true
section
variable {prog : Program} {w : World} {A : Around} {E : Value → Shared → Prop} {R : Result → Shared → Prop} {s : Shared} {K : Frag} {mg : Str → Option Value} {C fI : Addr}
theorem low_init (T : TxtNoHouse K mg C fI) {x : Addr} (X : K.In s.heap) (hlim : s.heap.NoLimit) (hroom : A.depth < recursionLimit)
    (hq : ∀ h' tk, (∀ b o, s.heap.get? b = some o → h'.get? b = some o) → R (.ok (.ret .none)) { s with heap := h', toks := tk }) :
    codeAny (model prog w) A (.call (.ref fI) ⟨[.ref x], []⟩) R s := by
  obtain ⟨oc, od, doc, pm, an, cdv, ct, osl, p1, q1, ho, hcd⟩ := T.fn
  refine Att.call_fn (binds := [("self", .ref x)]) X hlim ho hcd hroom (BindsTo.of_eq (by first | rfl | with_unfolding_all rfl)) (by first | rfl | decide | with_unfolding_all rfl) (fun s₁ IC => ?_) rfl rfl rfl
  obtain ⟨h₁, tk₁, rfl⟩ := IC.toInCall.same
  have k : ∀ b o, s.heap.get? b = some o → h₁.get? b = some o := IC.toInCall.keep
  show wpAny _ _ (execs _ _) _ _ _
  refine wpAny_execs_cons (wpAny_Pass ?_)
  show wpAny _ _ (execs _ _) _ _ _
  exact wpAny_execs_nil (hq h₁ tk₁ k)
theorem low_made (T : TxtNoHouse K mg C fI) (X : K.In s.heap) (hlim : s.heap.NoLimit) (hroom : A.depth + 1 < recursionLimit)
    (hq : ∀ h' tk e t1, (∀ b o, s.heap.get? b = some o → h'.get? b = some o) → s.heap.objs.size ≤ e → h'.get? e = some (excO C t1) → R (.ok (.ret (.ref e))) { s with heap := h', toks := tk }) :
    codeAny (model prog w) A (.call (.ref C) ⟨[], []⟩) R s := by
  obtain ⟨nm, q, N, bs, bm, sn, sub, ab, col, dd, k0, k1, k2, k3, k5, hC, hbm⟩ := T.cls
  obtain ⟨hp, g, dr, tk, os⟩ := s
  have k : ∀ b o, hp.get? b = some o → ((hp.push (kdv_tup [])).push (excO C hp.objs.size)).get? b = some o := fun b o e => Heap.get?_push_of_some _ (Heap.get?_push_of_some _ e)
  have hget : ((hp.push (kdv_tup [])).push (excO C hp.objs.size)).get? (hp.objs.size + 1) = some (excO C hp.objs.size) := by heap_get
  refine call_own F.excBase_ValueError (fun X => refsVE_contains X bm hbm) (X _ _ hC) (looks_findIn X T.iC) (fun self => bind_fn X self T.tC) (Nat.zero_le _) ?_
  refine low_init (s := ⟨(hp.push (kdv_tup [])).push (excO C hp.objs.size), g, dr, tk, os⟩) T (X.keeps k) (hlim.keeps k) ?_ fun h' tk' k' => ?_
  · show A.depth + 1 < recursionLimit
    exact hroom
  · exact ⟨rfl, hq h' tk' (hp.objs.size + 1) hp.objs.size (fun b o e => k' b o (k b o e)) (Nat.le_succ _) (k' _ _ hget)⟩
end
end XNoHouse
end PySem
namespace L2
open PySem PySem.Spec PyProof.Rows
section
variable {X : Cx} {C fI : Addr}
theorem pmk__NoHouse {p pos : Pos} {k : Nat} (T : PySem.XNoHouse.TxtNoHouse X.K X.mg C fI) (hr : Room k X.A) (hg : Gl X "NoHouse" := by rfl) :
    PMk X (.Call (.Name "NoHouse" p) [] [] pos) (fun _ H Q => Q (.ref C) none H) := by
  intro pins s σ H Q I h
  refine wpAny_Call_Name_kw (ld_glob I hg T.gC ?_)
  refine PySem.W.callWith_K0 I.kIn T.kC ?_
  have hlim := I.nolimit
  have kin := I.kIn
  obtain ⟨hp, g, dr, tk, os⟩ := s
  show wpAny _ _ (call (.ref C) []) _ _ _
  refine wpAny_call (PySem.XNoHouse.low_made T kin hlim (by have := hr.dp; omega) fun h' tk' e t1 kp hnew he => ?_)
  show MkP X pins σ Q (.ref e) ⟨h', g, dr, tk', os⟩
  obtain ⟨G', g1, g2⟩ := restrict h' fun b => decide (b ≠ e)
  have gk : ∀ b, b ≠ e → G'.get? b = h'.get? b := fun b hb => g1 b (decide_eq_true hb)
  have ge : G'.get? e = none := g2 e (by simp)
  have old : ∀ b o, hp.get? b = some o → G'.get? b = some o := fun b o q => (gk b (Nat.ne_of_lt (Nat.lt_of_lt_of_le (Heap.lt_size q) hnew))).trans (kp b o q)
  have J : Inv X pins σ H ⟨G', g, dr, tk', os⟩ := I.kept (t' := tk') old
  refine ⟨e, _, _, ⟨G', g, dr, tk', os⟩, H, .ref C, none, rfl, J, fun b o q => ?_, ge, he, ⟨rfl, rfl⟩, rfl, rfl, I.hok.fresh hnew, rfl, I.bare, raises_own T.exC T.tyC, h⟩
  by_cases hb : b = e
  · have q' : G'.get? b = some o := q
    rw [hb, ge] at q'; cases q'
  · exact (gk b hb).symm.trans q
def tRaise_NoHouse (C : Addr) (W : WX) : TS := fun _ σ H => W (.ref C) none σ H
theorem ps_raise_NoHouse {W : WX} {p pos pos2 : Pos} {k : Nat} (hc : X.calm = true) (T : PySem.XNoHouse.TxtNoHouse X.K X.mg C fI) (hr : Room k X.A) (tk : Takes X W) (hg : Gl X "NoHouse" := by rfl) :
    PS X (.Raise (some (.Call (.Name "NoHouse" p) [] [] pos)) none pos2) (tRaise_NoHouse C W) := ps_raise hc tk (pmk__NoHouse T hr hg)
end
end L2
namespace PySem
namespace XNoShape
open PySem.W PySem.Calls PyProof.Rows PySem.HandSPX
def iA (p1 : Pos) : Arguments := { posonlyargs := [], args := [{ arg := "self", annotation := none, pos := p1 }], vararg := none, kwonlyargs := [], kw_defaults := [], kwarg := none, defaults := [] }
def iB (q1 : Pos) : List Stmt := [.Pass q1]
def iS : Scope := { kind := .function, names := [(PySem.Str.ofString "self", .local)], isGenerator := false, isCoroutine := false, more := [] }
structure TxtNoShape (K : Frag) (mg : Str → Option Value) (C fI : Addr) : Prop where
  gC : mg "NoShape" = some (.ref C)
  cls : ∃ nm q N bs bm sn sub ab col dd k0 k1 k2 k3 k5, K.lookup C = some (excClassObj nm q C N bs bm true sn sub ab col dd k0 k1 k2 k3 k5 "ValueError.__new__") ∧ refsVE bm = true
  iC : findIn K (.ref C) "__init__" = some (some (.ref fI))
  tC : typeIn K (.ref fI) = some (.type "function")
  kC : keepIn K (.ref C) = true
  exC : subIn K (.ref C) (.type "BaseException") = some true
  tyC : typeIn K (.ref C) = some (.type "type")
  te : exmOne K (.ref C) (.ref C) = some true
  fn : ∃ (oc : Value) (od : Option Addr) (doc pm : Value) (an : Option Addr) (cdv ct : Value) (osl : Array (Option Value)) (p1 q1 : Pos),
    K.lookup fI = some ⟨oc, od, .func (fnOf "__init__" "NoShape.__init__" (iA p1) (iB q1) iS .none .none doc pm an cdv ct), osl⟩ ∧ codeIn K cdv "NoShape.__init__" = true
section
variable {prog : Program} {w : World} {A : Around} {E : Value → Shared → Prop} {R : Result → Shared → Prop} {s : Shared} {K : Frag} {mg : Str → Option Value} {C fI : Addr}
theorem low_init (T : TxtNoShape K mg C fI) {x : Addr} (X : K.In s.heap) (hlim : s.heap.NoLimit) (hroom : A.depth < recursionLimit)
    (hq : ∀ h' tk, (∀ b o, s.heap.get? b = some o → h'.get? b = some o) → R (.ok (.ret .none)) { s with heap := h', toks := tk }) :
    codeAny (model prog w) A (.call (.ref fI) ⟨[.ref x], []⟩) R s := by
  obtain ⟨oc, od, doc, pm, an, cdv, ct, osl, p1, q1, ho, hcd⟩ := T.fn
  refine Att.call_fn (binds := [("self", .ref x)]) X hlim ho hcd hroom (BindsTo.of_eq (by first | rfl | with_unfolding_all rfl)) (by first | rfl | decide | with_unfolding_all rfl) (fun s₁ IC => ?_) rfl rfl rfl
  obtain ⟨h₁, tk₁, rfl⟩ := IC.toInCall.same
  have k : ∀ b o, s.heap.get? b = some o → h₁.get? b = some o := IC.toInCall.keep
  show wpAny _ _ (execs _ _) _ _ _
  refine wpAny_execs_cons (wpAny_Pass ?_)
  show wpAny _ _ (execs _ _) _ _ _
  exact wpAny_execs_nil (hq h₁ tk₁ k)
theorem low_made (T : TxtNoShape K mg C fI) (X : K.In s.heap) (hlim : s.heap.NoLimit) (hroom : A.depth + 1 < recursionLimit)
    (hq : ∀ h' tk e t1, (∀ b o, s.heap.get? b = some o → h'.get? b = some o) → s.heap.objs.size ≤ e → h'.get? e = some (excO C t1) → R (.ok (.ret (.ref e))) { s with heap := h', toks := tk }) :
    codeAny (model prog w) A (.call (.ref C) ⟨[], []⟩) R s := by
  obtain ⟨nm, q, N, bs, bm, sn, sub, ab, col, dd, k0, k1, k2, k3, k5, hC, hbm⟩ := T.cls
  obtain ⟨hp, g, dr, tk, os⟩ := s
  have k : ∀ b o, hp.get? b = some o → ((hp.push (kdv_tup [])).push (excO C hp.objs.size)).get? b = some o := fun b o e => Heap.get?_push_of_some _ (Heap.get?_push_of_some _ e)
  have hget : ((hp.push (kdv_tup [])).push (excO C hp.objs.size)).get? (hp.objs.size + 1) = some (excO C hp.objs.size) := by heap_get
  refine call_own F.excBase_ValueError (fun X => refsVE_contains X bm hbm) (X _ _ hC) (looks_findIn X T.iC) (fun self => bind_fn X self T.tC) (Nat.zero_le _) ?_
  refine low_init (s := ⟨(hp.push (kdv_tup [])).push (excO C hp.objs.size), g, dr, tk, os⟩) T (X.keeps k) (hlim.keeps k) ?_ fun h' tk' k' => ?_
  · show A.depth + 1 < recursionLimit
    exact hroom
  · exact ⟨rfl, hq h' tk' (hp.objs.size + 1) hp.objs.size (fun b o e => k' b o (k b o e)) (Nat.le_succ _) (k' _ _ hget)⟩
end
end XNoShape
end PySem
namespace L2
open PySem PySem.Spec PyProof.Rows
section
variable {X : Cx} {C fI : Addr}
theorem pmk__NoShape {p pos : Pos} {k : Nat} (T : PySem.XNoShape.TxtNoShape X.K X.mg C fI) (hr : Room k X.A) (hg : Gl X "NoShape" := by rfl) :
    PMk X (.Call (.Name "NoShape" p) [] [] pos) (fun _ H Q => Q (.ref C) none H) := by
  intro pins s σ H Q I h
  refine wpAny_Call_Name_kw (ld_glob I hg T.gC ?_)
  refine PySem.W.callWith_K0 I.kIn T.kC ?_
  have hlim := I.nolimit
  have kin := I.kIn
  obtain ⟨hp, g, dr, tk, os⟩ := s
  show wpAny _ _ (call (.ref C) []) _ _ _
  refine wpAny_call (PySem.XNoShape.low_made T kin hlim (by have := hr.dp; omega) fun h' tk' e t1 kp hnew he => ?_)
  show MkP X pins σ Q (.ref e) ⟨h', g, dr, tk', os⟩
  obtain ⟨G', g1, g2⟩ := restrict h' fun b => decide (b ≠ e)
  have gk : ∀ b, b ≠ e → G'.get? b = h'.get? b := fun b hb => g1 b (decide_eq_true hb)
  have ge : G'.get? e = none := g2 e (by simp)
  have old : ∀ b o, hp.get? b = some o → G'.get? b = some o := fun b o q => (gk b (Nat.ne_of_lt (Nat.lt_of_lt_of_le (Heap.lt_size q) hnew))).trans (kp b o q)
  have J : Inv X pins σ H ⟨G', g, dr, tk', os⟩ := I.kept (t' := tk') old
  refine ⟨e, _, _, ⟨G', g, dr, tk', os⟩, H, .ref C, none, rfl, J, fun b o q => ?_, ge, he, ⟨rfl, rfl⟩, rfl, rfl, I.hok.fresh hnew, rfl, I.bare, raises_own T.exC T.tyC, h⟩
  by_cases hb : b = e
  · have q' : G'.get? b = some o := q
    rw [hb, ge] at q'; cases q'
  · exact (gk b hb).symm.trans q
def tRaise_NoShape (C : Addr) (W : WX) : TS := fun _ σ H => W (.ref C) none σ H
theorem ps_raise_NoShape {W : WX} {p pos pos2 : Pos} {k : Nat} (hc : X.calm = true) (T : PySem.XNoShape.TxtNoShape X.K X.mg C fI) (hr : Room k X.A) (tk : Takes X W) (hg : Gl X "NoShape" := by rfl) :
    PS X (.Raise (some (.Call (.Name "NoShape" p) [] [] pos)) none pos2) (tRaise_NoShape C W) := ps_raise hc tk (pmk__NoShape T hr hg)
end
end L2
namespace PySem
namespace XNoTurn
open PySem.W PySem.Calls PyProof.Rows PySem.HandSPX
def iA (p1 : Pos) : Arguments := { posonlyargs := [], args := [{ arg := "self", annotation := none, pos := p1 }], vararg := none, kwonlyargs := [], kw_defaults := [], kwarg := none, defaults := [] }
def iB (q1 : Pos) : List Stmt := [.Pass q1]
def iS : Scope := { kind := .function, names := [(PySem.Str.ofString "self", .local)], isGenerator := false, isCoroutine := false, more := [] }
structure TxtNoTurn (K : Frag) (mg : Str → Option Value) (C fI : Addr) : Prop where
  gC : mg "NoTurn" = some (.ref C)
  cls : ∃ nm q N bs bm sn sub ab col dd k0 k1 k2 k3 k5, K.lookup C = some (excClassObj nm q C N bs bm true sn sub ab col dd k0 k1 k2 k3 k5 "ValueError.__new__") ∧ refsVE bm = true
  iC : findIn K (.ref C) "__init__" = some (some (.ref fI))
  tC : typeIn K (.ref fI) = some (.type "function")
  kC : keepIn K (.ref C) = true
  exC : subIn K (.ref C) (.type "BaseException") = some true
  tyC : typeIn K (.ref C) = some (.type "type")
  te : exmOne K (.ref C) (.ref C) = some true
  fn : ∃ (oc : Value) (od : Option Addr) (doc pm : Value) (an : Option Addr) (cdv ct : Value) (osl : Array (Option Value)) (p1 q1 : Pos),
    K.lookup fI = some ⟨oc, od, .func (fnOf "__init__" "NoTurn.__init__" (iA p1) (iB q1) iS .none .none doc pm an cdv ct), osl⟩ ∧ codeIn K cdv "NoTurn.__init__" = true
section
variable {prog : Program} {w : World} {A : Around} {E : Value → Shared → Prop} {R : Result → Shared → Prop} {s : Shared} {K : Frag} {mg : Str → Option Value} {C fI : Addr}
theorem low_init (T : TxtNoTurn K mg C fI) {x : Addr} (X : K.In s.heap) (hlim : s.heap.NoLimit) (hroom : A.depth < recursionLimit)
    (hq : ∀ h' tk, (∀ b o, s.heap.get? b = some o → h'.get? b = some o) → R (.ok (.ret .none)) { s with heap := h', toks := tk }) :
    codeAny (model prog w) A (.call (.ref fI) ⟨[.ref x], []⟩) R s := by
  obtain ⟨oc, od, doc, pm, an, cdv, ct, osl, p1, q1, ho, hcd⟩ := T.fn
  refine Att.call_fn (binds := [("self", .ref x)]) X hlim ho hcd hroom (BindsTo.of_eq (by first | rfl | with_unfolding_all rfl)) (by first | rfl | decide | with_unfolding_all rfl) (fun s₁ IC => ?_) rfl rfl rfl
  obtain ⟨h₁, tk₁, rfl⟩ := IC.toInCall.same
  have k : ∀ b o, s.heap.get? b = some o → h₁.get? b = some o := IC.toInCall.keep
  show wpAny _ _ (execs _ _) _ _ _
  refine wpAny_execs_cons (wpAny_Pass ?_)
  show wpAny _ _ (execs _ _) _ _ _
  exact wpAny_execs_nil (hq h₁ tk₁ k)
theorem low_made (T : TxtNoTurn K mg C fI) (X : K.In s.heap) (hlim : s.heap.NoLimit) (hroom : A.depth + 1 < recursionLimit)
    (hq : ∀ h' tk e t1, (∀ b o, s.heap.get? b = some o → h'.get? b = some o) → s.heap.objs.size ≤ e → h'.get? e = some (excO C t1) → R (.ok (.ret (.ref e))) { s with heap := h', toks := tk }) :
    codeAny (model prog w) A (.call (.ref C) ⟨[], []⟩) R s := by
  obtain ⟨nm, q, N, bs, bm, sn, sub, ab, col, dd, k0, k1, k2, k3, k5, hC, hbm⟩ := T.cls
  obtain ⟨hp, g, dr, tk, os⟩ := s
  have k : ∀ b o, hp.get? b = some o → ((hp.push (kdv_tup [])).push (excO C hp.objs.size)).get? b = some o := fun b o e => Heap.get?_push_of_some _ (Heap.get?_push_of_some _ e)
  have hget : ((hp.push (kdv_tup [])).push (excO C hp.objs.size)).get? (hp.objs.size + 1) = some (excO C hp.objs.size) := by heap_get
  refine call_own F.excBase_ValueError (fun X => refsVE_contains X bm hbm) (X _ _ hC) (looks_findIn X T.iC) (fun self => bind_fn X self T.tC) (Nat.zero_le _) ?_
  refine low_init (s := ⟨(hp.push (kdv_tup [])).push (excO C hp.objs.size), g, dr, tk, os⟩) T (X.keeps k) (hlim.keeps k) ?_ fun h' tk' k' => ?_
  · show A.depth + 1 < recursionLimit
    exact hroom
  · exact ⟨rfl, hq h' tk' (hp.objs.size + 1) hp.objs.size (fun b o e => k' b o (k b o e)) (Nat.le_succ _) (k' _ _ hget)⟩
end
end XNoTurn
end PySem
namespace L2
open PySem PySem.Spec PyProof.Rows
section
variable {X : Cx} {C fI : Addr}
theorem pmk__NoTurn {p pos : Pos} {k : Nat} (T : PySem.XNoTurn.TxtNoTurn X.K X.mg C fI) (hr : Room k X.A) (hg : Gl X "NoTurn" := by rfl) :
    PMk X (.Call (.Name "NoTurn" p) [] [] pos) (fun _ H Q => Q (.ref C) none H) := by
  intro pins s σ H Q I h
  refine wpAny_Call_Name_kw (ld_glob I hg T.gC ?_)
  refine PySem.W.callWith_K0 I.kIn T.kC ?_
  have hlim := I.nolimit
  have kin := I.kIn
  obtain ⟨hp, g, dr, tk, os⟩ := s
  show wpAny _ _ (call (.ref C) []) _ _ _
  refine wpAny_call (PySem.XNoTurn.low_made T kin hlim (by have := hr.dp; omega) fun h' tk' e t1 kp hnew he => ?_)
  show MkP X pins σ Q (.ref e) ⟨h', g, dr, tk', os⟩
  obtain ⟨G', g1, g2⟩ := restrict h' fun b => decide (b ≠ e)
  have gk : ∀ b, b ≠ e → G'.get? b = h'.get? b := fun b hb => g1 b (decide_eq_true hb)
  have ge : G'.get? e = none := g2 e (by simp)
  have old : ∀ b o, hp.get? b = some o → G'.get? b = some o := fun b o q => (gk b (Nat.ne_of_lt (Nat.lt_of_lt_of_le (Heap.lt_size q) hnew))).trans (kp b o q)
  have J : Inv X pins σ H ⟨G', g, dr, tk', os⟩ := I.kept (t' := tk') old
  refine ⟨e, _, _, ⟨G', g, dr, tk', os⟩, H, .ref C, none, rfl, J, fun b o q => ?_, ge, he, ⟨rfl, rfl⟩, rfl, rfl, I.hok.fresh hnew, rfl, I.bare, raises_own T.exC T.tyC, h⟩
  by_cases hb : b = e
  · have q' : G'.get? b = some o := q
    rw [hb, ge] at q'; cases q'
  · exact (gk b hb).symm.trans q
def tRaise_NoTurn (C : Addr) (W : WX) : TS := fun _ σ H => W (.ref C) none σ H
theorem ps_raise_NoTurn {W : WX} {p pos pos2 : Pos} {k : Nat} (hc : X.calm = true) (T : PySem.XNoTurn.TxtNoTurn X.K X.mg C fI) (hr : Room k X.A) (tk : Takes X W) (hg : Gl X "NoTurn" := by rfl) :
    PS X (.Raise (some (.Call (.Name "NoTurn" p) [] [] pos)) none pos2) (tRaise_NoTurn C W) := ps_raise hc tk (pmk__NoTurn T hr hg)
end
end L2
namespace W3
open PySem PySem.Spec PyProof.Rows L2 M3
def top (i : Nat) : Stmt := PySem.Challenge.pw_cutlinked_k09_whole_handing_on_and_turns.main.body.getD i (.Pass ⟨0, 0, 0, 0⟩)
abbrev s_is_integer : Stmt := top 8
theorem sc_is_integer : FnScope ["thing"] ["thing"] (defScope s_is_integer) := ⟨rfl, rfl, rfl, by decide +kernel, rfl, by decide +kernel, by decide +kernel⟩
abbrev s_Forest_eq : Stmt := (inClass (top 13) 1)
theorem sc_Forest_eq : FnScope ["self", "other"] ["self", "other"] (defScope s_Forest_eq) := ⟨rfl, rfl, rfl, by decide +kernel, rfl, by decide +kernel, by decide +kernel⟩
abbrev s_come_to_roots : Stmt := top 15
theorem sc_come_to_roots : FnScope ["parents", "sure", "parent", "house", "line", "at", "passed"] ["parents"] (defScope s_come_to_roots) := ⟨rfl, rfl, rfl, by decide +kernel, rfl, by decide +kernel, by decide +kernel⟩
abbrev s_Stand_init : Stmt := (inClass (top 18) 0)
theorem sc_Stand_init : FnScope ["self", "part"] ["self", "part"] (defScope s_Stand_init) := ⟨rfl, rfl, rfl, by decide +kernel, rfl, by decide +kernel, by decide +kernel⟩
abbrev s_has_its_sons : Stmt := top 21
theorem sc_has_its_sons : FnScope ["parts", "house", "sons", "son"] ["parts", "house"] (defScope s_has_its_sons) := ⟨rfl, rfl, rfl, by decide +kernel, rfl, by decide +kernel, by decide +kernel⟩
abbrev s_shape_of : Stmt := top 27
theorem sc_shape_of : FnScope ["stands", "at"] ["stands"] (defScope s_shape_of) := ⟨rfl, rfl, rfl, by decide +kernel, rfl, by decide +kernel, by decide +kernel⟩
abbrev s_is_top : Stmt := top 29
theorem sc_is_top : FnScope ["stands", "house", "up"] ["stands", "house"] (defScope s_is_top) := ⟨rfl, rfl, rfl, by decide +kernel, rfl, by decide +kernel, by decide +kernel⟩
abbrev s_line_up : Stmt := top 35
theorem sc_line_up : FnScope ["stands", "house", "line"] ["stands", "house"] (defScope s_line_up) := ⟨rfl, rfl, rfl, by decide +kernel, rfl, by decide +kernel, by decide +kernel⟩
abbrev s_hand_on : Stmt := top 37
theorem sc_hand_on : FnScope ["stands", "house", "stand", "sons", "son"] ["stands", "house"] (defScope s_hand_on) := ⟨rfl, rfl, rfl, by decide +kernel, rfl, by decide +kernel, by decide +kernel⟩
abbrev s_take_place : Stmt := top 39
theorem sc_take_place : FnScope ["stands", "house", "ahead", "stand", "above"] ["stands", "house", "ahead"] (defScope s_take_place) := ⟨rfl, rfl, rfl, by decide +kernel, rfl, by decide +kernel, by decide +kernel⟩
abbrev s_L_hand : Stmt := top 41
theorem sc_L_hand : FnScope ["_law_script", "_law_cell"] ["_law_script"] (defScope s_L_hand) := ⟨rfl, rfl, rfl, by decide +kernel, rfl, by decide +kernel, by decide +kernel⟩
abbrev s_L_draw : Stmt := top 42
theorem sc_L_draw : FnScope ["_law_hand_here", "_law_many_here", "_law_cell", "_law_digit", "_law_number"] ["_law_hand_here", "_law_many_here"] (defScope s_L_draw) := ⟨rfl, rfl, rfl, by decide +kernel, rfl, by decide +kernel, by decide +kernel⟩
abbrev s_L_house : Stmt := top 47
theorem sc_L_house : FnScope ["_law_up", "_law_value_here"] ["_law_up", "_law_value_here"] (defScope s_L_house) := ⟨rfl, rfl, rfl, by decide +kernel, rfl, by decide +kernel, by decide +kernel⟩
abbrev s_L_is_son : Stmt := top 49
theorem sc_L_is_son : FnScope ["_law_shape_here", "_law_house_here", "_law_up"] ["_law_shape_here", "_law_house_here"] (defScope s_L_is_son) := ⟨rfl, rfl, rfl, by decide +kernel, rfl, by decide +kernel, by decide +kernel⟩
abbrev s_L_hand_on : Stmt := top 53
theorem sc_L_hand_on : FnScope ["_law_shape_here", "_law_house_here", "_law_row", "_law_sons", "_law_son", "_law_theirs"] ["_law_shape_here", "_law_house_here"] (defScope s_L_hand_on) := ⟨rfl, rfl, rfl, by decide +kernel, rfl, by decide +kernel, by decide +kernel⟩
abbrev s_L_listed : Stmt := top 55
theorem sc_L_listed : FnScope ["_law_shape_here", "_law_row"] ["_law_shape_here"] (defScope s_L_listed) := ⟨rfl, rfl, rfl, by decide +kernel, rfl, by decide +kernel, by decide +kernel⟩
abbrev s_L_tupled : Stmt := top 56
theorem sc_L_tupled : FnScope ["_law_shape_here", "_law_row"] ["_law_shape_here"] (defScope s_L_tupled) := ⟨rfl, rfl, rfl, by decide +kernel, rfl, by decide +kernel, by decide +kernel⟩
abbrev s_is_between : Stmt := top 9
theorem sc_is_between : FnScope ["least", "most", "thing"] ["least", "most", "thing"] (defScope s_is_between) := ⟨rfl, rfl, rfl, by decide +kernel, rfl, by decide +kernel, by decide +kernel⟩
abbrev s_are_worths : Stmt := top 16
theorem sc_are_worths : FnScope ["thing", "houses", "worth"] ["thing", "houses"] (defScope s_are_worths) := ⟨rfl, rfl, rfl, by decide +kernel, rfl, by decide +kernel, by decide +kernel⟩
abbrev s_told_worth : Stmt := top 34
theorem sc_told_worth : FnScope ["stands", "house", "worth"] ["stands", "house"] (defScope s_told_worth) := ⟨rfl, rfl, rfl, by decide +kernel, rfl, by decide +kernel, by decide +kernel⟩
abbrev s_weights_of : Stmt := top 36
theorem sc_weights_of : FnScope ["stands", "found", "house", "at"] ["stands"] (defScope s_weights_of) := ⟨rfl, rfl, rfl, by decide +kernel, rfl, by decide +kernel, by decide +kernel⟩
abbrev s_turn_up : Stmt := top 38
theorem sc_turn_up : FnScope ["stands", "house", "lower", "ahead", "upper", "between", "inner"] ["stands", "house"] (defScope s_turn_up) := ⟨rfl, rfl, rfl, by decide +kernel, rfl, by decide +kernel, by decide +kernel⟩
abbrev s_L_value : Stmt := top 44
theorem sc_L_value : FnScope ["_law_hand_here", "_law_kind"] ["_law_hand_here"] (defScope s_L_value) := ⟨rfl, rfl, rfl, by decide +kernel, rfl, by decide +kernel, by decide +kernel⟩
abbrev s_L_many : Stmt := top 45
theorem sc_L_many : FnScope ["_law_hand_here", "_law_most"] ["_law_hand_here", "_law_most"] (defScope s_L_many) := ⟨rfl, rfl, rfl, by decide +kernel, rfl, by decide +kernel, by decide +kernel⟩
abbrev s_L_shuffled : Stmt := top 46
theorem sc_L_shuffled : FnScope ["_law_hand_here", "_law_many_here", "_law_found", "_law_at", "_law_other"] ["_law_hand_here", "_law_many_here"] (defScope s_L_shuffled) := ⟨rfl, rfl, rfl, by decide +kernel, rfl, by decide +kernel, by decide +kernel⟩
abbrev s_L_tops : Stmt := top 50
theorem sc_L_tops : FnScope ["_law_shape_here", "_law_house_here"] ["_law_shape_here"] (defScope s_L_tops) := ⟨rfl, rfl, rfl, by decide +kernel, rfl, by decide +kernel, by decide +kernel⟩
abbrev s_L_turn_up : Stmt := top 54
theorem sc_L_turn_up : FnScope ["_law_shape_here", "_law_house_here", "_law_up", "_law_mine", "_law_theirs", "_law_above", "_law_far", "_law_side", "_law_moved", "_law_son"] ["_law_shape_here", "_law_house_here"] (defScope s_L_turn_up) := ⟨rfl, rfl, rfl, by decide +kernel, rfl, by decide +kernel, by decide +kernel⟩
abbrev s_is_house : Stmt := top 10
theorem sc_is_house : FnScope ["many", "thing"] ["many", "thing"] (defScope s_is_house) := ⟨rfl, rfl, rfl, by decide +kernel, rfl, by decide +kernel, by decide +kernel⟩
abbrev s_is_many : Stmt := top 11
theorem sc_is_many : FnScope ["thing"] ["thing"] (defScope s_is_many) := ⟨rfl, rfl, rfl, by decide +kernel, rfl, by decide +kernel, by decide +kernel⟩
abbrev s_told_worths : Stmt := top 33
theorem sc_told_worths : FnScope ["stands", "house"] ["stands"] (defScope s_told_worths) := ⟨rfl, rfl, rfl, by decide +kernel, rfl, by decide +kernel, by decide +kernel⟩
abbrev s_L_shape : Stmt := top 48
theorem sc_L_shape : FnScope ["_law_hand_here", "_law_many_here", "_law_order_here", "_law_found", "_law_house_here", "_law_kind", "_law_at", "_law_mine", "_law_other", "_law_theirs", "_law_side", "_law_row"] ["_law_hand_here", "_law_many_here"] (defScope s_L_shape) := ⟨rfl, rfl, rfl, by decide +kernel, rfl, by decide +kernel, by decide +kernel⟩
abbrev s_are_parents : Stmt := top 14
theorem sc_are_parents : FnScope ["thing", "parent"] ["thing"] (defScope s_are_parents) := ⟨rfl, rfl, rfl, by decide +kernel, rfl, by decide +kernel, by decide +kernel⟩
abbrev s_is_part : Stmt := top 20
theorem sc_is_part : FnScope ["many", "thing", "near"] ["many", "thing"] (defScope s_is_part) := ⟨rfl, rfl, rfl, by decide +kernel, rfl, by decide +kernel, by decide +kernel⟩
abbrev s_need_house : Stmt := top 28
theorem sc_need_house : FnScope ["stands", "thing"] ["stands", "thing"] (defScope s_need_house) := ⟨rfl, rfl, rfl, by decide +kernel, rfl, by decide +kernel, by decide +kernel⟩
abbrev s_Forest_init : Stmt := (inClass (top 13) 0)
theorem sc_Forest_init : FnScope ["self", "parents", "worths"] ["self", "parents", "worths"] (defScope s_Forest_init) := ⟨rfl, rfl, rfl, by decide +kernel, rfl, by decide +kernel, by decide +kernel⟩
abbrev s_is_shape : Stmt := top 19
theorem sc_is_shape : FnScope ["thing", "part", "house"] ["thing"] (defScope s_is_shape) := ⟨rfl, rfl, rfl, by decide +kernel, rfl, by decide +kernel, by decide +kernel⟩
abbrev s_stands_of : Stmt := top 26
theorem sc_stands_of : FnScope ["shape", "part"] ["shape"] (defScope s_stands_of) := ⟨rfl, rfl, rfl, by decide +kernel, rfl, by decide +kernel, by decide +kernel⟩
abbrev s_weights : Stmt := top 23
theorem sc_weights : FnScope ["shape"] ["shape"] (defScope s_weights) := ⟨rfl, rfl, rfl, by decide +kernel, rfl, by decide +kernel, by decide +kernel⟩
abbrev s_handed_on : Stmt := top 24
theorem sc_handed_on : FnScope ["shape", "house", "stands"] ["shape", "house"] (defScope s_handed_on) := ⟨rfl, rfl, rfl, by decide +kernel, rfl, by decide +kernel, by decide +kernel⟩
abbrev s_turned_up : Stmt := top 25
theorem sc_turned_up : FnScope ["shape", "house", "stands"] ["shape", "house"] (defScope s_turned_up) := ⟨rfl, rfl, rfl, by decide +kernel, rfl, by decide +kernel, by decide +kernel⟩
abbrev s_L_is : Stmt := top 43
theorem sc_L_is : FnScope ["_law_told_here", "_law_due", "_law_one", "_law_two"] ["_law_told_here", "_law_due"] (defScope s_L_is) := ⟨rfl, rfl, rfl, by decide +kernel, rfl, by decide +kernel, by decide +kernel⟩
abbrev s_L_is_handed : Stmt := top 57
theorem sc_L_is_handed : FnScope ["_law_shape_here", "_law_house_here", "_law_due", "_law_told_here"] ["_law_shape_here", "_law_house_here"] (defScope s_L_is_handed) := ⟨rfl, rfl, rfl, by decide +kernel, rfl, by decide +kernel, by decide +kernel⟩
abbrev s_L_is_turned : Stmt := top 58
theorem sc_L_is_turned : FnScope ["_law_shape_here", "_law_house_here", "_law_up", "_law_due", "_law_ahead", "_law_behind", "_law_others", "_law_other"] ["_law_shape_here", "_law_house_here"] (defScope s_L_is_turned) := ⟨rfl, rfl, rfl, by decide +kernel, rfl, by decide +kernel, by decide +kernel⟩
abbrev s_part_in_order : Stmt := top 31
theorem sc_part_in_order : FnScope ["stands", "house", "backwards", "stand", "lefts", "rights"] ["stands", "house", "backwards"] (defScope s_part_in_order) := ⟨rfl, rfl, rfl, by decide +kernel, rfl, by decide +kernel, by decide +kernel⟩
abbrev s_L_order : Stmt := top 51
theorem sc_L_order : FnScope ["_law_shape_here", "_law_house_here", "_law_found"] ["_law_shape_here", "_law_house_here"] (defScope s_L_order) := ⟨rfl, rfl, rfl, by decide +kernel, rfl, by decide +kernel, by decide +kernel⟩
abbrev s_row_in_order : Stmt := top 30
theorem sc_row_in_order : FnScope ["stands", "top"] ["stands", "top"] (defScope s_row_in_order) := ⟨rfl, rfl, rfl, by decide +kernel, rfl, by decide +kernel, by decide +kernel⟩
abbrev s_L_told : Stmt := top 52
theorem sc_L_told : FnScope ["_law_shape_here", "_law_parents", "_law_top", "_law_ahead", "_law_house_here", "_law_worths", "_law_worth", "_law_here", "_law_turn"] ["_law_shape_here"] (defScope s_L_told) := ⟨rfl, rfl, rfl, by decide +kernel, rfl, by decide +kernel, by decide +kernel⟩
abbrev s_forest_of : Stmt := top 32
theorem sc_forest_of : FnScope ["stands", "parents", "top", "ahead", "house"] ["stands"] (defScope s_forest_of) := ⟨rfl, rfl, rfl, by decide +kernel, rfl, by decide +kernel, by decide +kernel⟩
abbrev s_told_forest : Stmt := top 22
theorem sc_told_forest : FnScope ["shape"] ["shape"] (defScope s_told_forest) := ⟨rfl, rfl, rfl, by decide +kernel, rfl, by decide +kernel, by decide +kernel⟩
abbrev s_law : Stmt := top 59
theorem sc_law : FnScope ["_law_script", "_law_hand_here", "_law_shape_here", "_law_told_here", "_law_turn", "_law_house_here", "_law_sons", "_law_son", "_law_is_right", "_law_found"] ["_law_script"] (defScope s_law) := ⟨rfl, rfl, rfl, by decide +kernel, rfl, by decide +kernel, by decide +kernel⟩
structure Txt (mg : Str → Option Value) : Prop where
  n_range : mg "range" = none
  n_all : mg "all" = none
  n_tuple : mg "tuple" = none
  n_isinstance : mg "isinstance" = none
  n_list : mg "list" = none
  n_int : mg "int" = none
  n_len : mg "len" = none
  n_bool : mg "bool" = none
  n_zip : mg "zip" = none
  n_min : mg "min" = none
  c_MOST_HOUSES : ∃ t, mg "MOST_HOUSES" = some (.int 64 t)
structure Fx (g : G) (w : World) (mg : Str → Option Value) (f_eBadForest f_eNoHouse f_eNoShape f_eNoTurn f_iForest f_iStand : Addr) : Prop where
  CSO : OwnCs g.K g.CS
  FO : FlOk g.K g.FL
  Forest : mg "Forest" = some (.ref g.Forest)
  mk_Forest : Mk g.K g.Forest f_iForest
  Stand : mg "Stand" = some (.ref g.Stand)
  mk_Stand : Mk g.K g.Stand f_iStand
  BadForest : PySem.XBadForest.TxtBadForest g.K mg g.BadForest f_eBadForest
  NoHouse : PySem.XNoHouse.TxtNoHouse g.K mg g.NoHouse f_eNoHouse
  NoShape : PySem.XNoShape.TxtNoShape g.K mg g.NoShape f_eNoShape
  NoTurn : PySem.XNoTurn.TxtNoTurn g.K mg g.NoTurn f_eNoTurn
theorem cr_Forest_ok (g : G) : ∀ vs H Q E, spM g.K 2 (mPure (mkC g.Forest (m_Forest_init g))) vs H Q E → spNew g.Forest (spM g.K 3 (m_Forest_init g)) vs H Q E := fun vs H Q E h => new_ok vs H Q E (pure_ok vs H Q E h)
theorem cr_Stand_ok (g : G) : ∀ vs H Q E, spM g.K 1 (mkC g.Stand (m_Stand_init g)) vs H Q E → spNew g.Stand (spM g.K 2 (m_Stand_init g)) vs H Q E := fun vs H Q E h => new_ok vs H Q E h
end W3
namespace W3
open PySem PySem.Spec PyProof.Rows L2 M3
section
variable {P : Program} {w : World} {g : G} {mg : Str → Option Value} {base : Heap} {f_eBadForest f_eNoHouse f_eNoShape f_eNoTurn f_iForest f_iStand : Addr}
theorem ok_is_integer (D : M3.Def g.K mg "is_integer" s_is_integer ["thing"]) (T : Txt mg) (Z : Fx g w mg f_eBadForest f_eNoHouse f_eNoShape f_eNoTurn f_iForest f_iStand) : M3.Cal P w g.K mg base 1 "is_integer" ["thing"] (spM g.K 1 (mPure (m_is_integer g))) := by
  refine M3.Cal.imp (D.cal (sp := (spM g.K 1 (m_is_integer g))) sc_is_integer (spM_len rfl) (fun f cdv A outer s H vs Q E hr h => ?_)) pure_ok
  exact body_all (N := ["thing"]) (E := E) ((pss_one (ps_ret (pe_and (pe_callB (call_isiM (K := g.K) rfl) (by rfl) T.n_isinstance (by decide +kernel) (pa_cons (pv 0) (pa_cons (pe_bltn (v := .ty "int") (by rfl) T.n_int (by decide +kernel) rfl) pa_nil))) (pe_one (pe_not (pe_callB (call_isiM (K := g.K) rfl) (by rfl) T.n_isinstance (by decide +kernel) (pa_cons (pv 0) (pa_cons (pe_bltn (v := .ty "bool") (by rfl) T.n_bool (by decide +kernel) rfl) pa_nil)))))))))
    ((ss_ret (se_and (se_call (isi_ok Z.CSO) (sa_cons se_var (sa_cons se_con sa_nil))) (se_not (se_call (isi_ok Z.CSO) (sa_cons se_var (sa_cons se_con sa_nil))))))) h

end
end W3
namespace W3
open PySem PySem.Spec PyProof.Rows L2 M3
section
variable {P : Program} {w : World} {g : G} {mg : Str → Option Value} {base : Heap} {f_eBadForest f_eNoHouse f_eNoShape f_eNoTurn f_iForest f_iStand : Addr}
theorem ok_come_to_roots (D : M3.Def g.K mg "come_to_roots" s_come_to_roots ["parents"]) (T : Txt mg) (Z : Fx g w mg f_eBadForest f_eNoHouse f_eNoShape f_eNoTurn f_iForest f_iStand) : M3.Cal P w g.K mg base 1 "come_to_roots" ["parents"] (spM g.K 1 (mPure (m_come_to_roots g))) := by
  refine M3.Cal.imp (D.cal (sp := (spM g.K 1 (m_come_to_roots g))) sc_come_to_roots (spM_len rfl) (fun f cdv A outer s H vs Q E hr h => ?_)) pure_ok
  exact body_all (N := ["parents", "sure", "parent", "house", "line", "at", "passed"]) (E := E) ((pss_cons (ps_setLc (i := 1) (own := [("parent", 2)]) (g := (gName 2)) (tt := tYes) (by rfl) sc_come_to_roots.nd rfl rfl (sw_true rfl rfl rfl (by decide +kernel)) (pi_M (K := g.K) rfl (pv 0)) (blkOk_by (own := [("parent", 2)]) (N := ["parents", "sure", "parent", "house", "line", "at", "passed"]) (sc := defScope s_come_to_roots) (by decide +kernel)) (fun _ _ _ _ _ => (pg_name (i := 2) sc_come_to_roots.nd rfl (Or.inl rfl))) (fun _ _ _ _ _ => pts_nil) (fun _ _ _ _ _ => (pe_cmpR op_isN (pv 2) pe_non (nomark _))))
      (pss_cons (ps_for (passes_of rfl) rfl (pi_range1 rfl T.n_range (pa_cons (pe_callB (call_lenM (K := g.K) rfl) (by rfl) T.n_len PySem.boot_len (pa_cons (pv 0) pa_nil)) pa_nil)) (pg_name (i := 3) sc_come_to_roots.nd rfl (Or.inl rfl)) (pss_cons (ps_set (i := 4) sc_come_to_roots.nd rfl (Or.inl rfl) (pe_lst pa_nil))
      (pss_cons (ps_set (i := 5) sc_come_to_roots.nd rfl (Or.inl rfl) (pv 3))
      (pss_cons (ps_while (passes_of rfl) (pt_not (pt_val (pe_ix (ix_M (K := g.K) rfl) (pv 1) (pv 5) (fun _ _ => rfl)))) (pss_cons (ps_if (pt_cmpR (op_eqM (K := g.K) rfl hr.units) (pe_callB (call_lenM (K := g.K) rfl) (by rfl) T.n_len PySem.boot_len (pa_cons (pv 4) pa_nil)) (pe_callB (call_lenM (K := g.K) rfl) (by rfl) T.n_len PySem.boot_len (pa_cons (pv 0) pa_nil)) (nomark _)) (pss_one (ps_ret pe_bl)) pss_nil)
      (pss_cons (ps_expr (pe_bmK (K := g.K) rfl PySem.F.plainAttrs_list PySem.F.slot_list_append PySem.F.type_list_append mt_append (pv 4) (pa_cons (pv 5) pa_nil)))
      (pss_one (ps_set (i := 5) sc_come_to_roots.nd rfl (Or.inl rfl) (pe_ix (ix_M (K := g.K) rfl) (pv 0) (pv 5) (fun _ _ => rfl)))))))
      (pss_one (ps_for (passes_of rfl) rfl (pi_M (K := g.K) rfl (pv 4)) (pg_name (i := 6) sc_come_to_roots.nd rfl (Or.inl rfl)) (pss_one (ps_asg pe_bl (pg_sub (pv 1) (pv 6) set_list)))))))))
      (pss_one (ps_ret pe_bl)))))
    ((ss_seq (ss_asgG (se_trk (sl_lc (si_walk se_var) (sgv_name (by decide)) st_yes (se_op isN_okR se_var se_non))) sg_name)
      (ss_seq (ss_for (si_rng1 (sa_cons (se_call len_ok (sa_cons se_var sa_nil)) sa_nil)) sg_name (ss_seq (ss_asgG (se_trk (sl_lst sa_nil)) sg_name)
      (ss_seq (ss_asgG se_var sg_name)
      (ss_seq (ss_while (st_not (st_tst (se_op ix_ok se_var se_var))) (ss_seq (ss_ifS (st_test (se_op eq_ok (se_call len_ok (sa_cons se_var sa_nil)) (se_call len_ok (sa_cons se_var sa_nil)))) (ss_ret se_bl) ss_next)
      (ss_seq (ss_drop (se_bm append_ok se_var (sa_cons se_var sa_nil)))
      (ss_asgG (se_op ix_ok se_var se_var) sg_name))))
      (ss_for (si_walk se_var) sg_name (ss_asgG se_bl (sg_sub se_var se_var)))))))
      (ss_ret se_bl)))) h

end
end W3
namespace W3
open PySem PySem.Spec PyProof.Rows L2 M3
section
variable {P : Program} {w : World} {g : G} {mg : Str → Option Value} {base : Heap} {f_eBadForest f_eNoHouse f_eNoShape f_eNoTurn f_iForest f_iStand : Addr}
theorem ok_has_its_sons (D : M3.Def g.K mg "_has_its_sons" s_has_its_sons ["parts", "house"]) (T : Txt mg) (Z : Fx g w mg f_eBadForest f_eNoHouse f_eNoShape f_eNoTurn f_iForest f_iStand) : M3.Cal P w g.K mg base 1 "_has_its_sons" ["parts", "house"] (spM g.K 2 (mPure (m_has_its_sons g))) := by
  refine M3.Cal.imp (D.cal (sp := (spM g.K 2 (m_has_its_sons g))) sc_has_its_sons (spM_len rfl) (fun f cdv A outer s H vs Q E hr h => ?_)) pure_ok
  exact body_all (N := ["parts", "house", "sons", "son"]) (E := E) ((pss_cons (ps_setLc (i := 2) (own := [("son", 3)]) (g := (gName 3)) (by rfl) sc_has_its_sons.nd rfl rfl (sw_true rfl rfl rfl (by decide +kernel)) (pi_M (K := g.K) rfl (pe_slice (sl_M (K := g.K) rfl) (pe_ix (ix_M (K := g.K) rfl) (pv 0) (pv 1) (fun _ _ => rfl)) (po_some pe_int) (po_some pe_int))) (blkOk_by (own := [("son", 3)]) (N := ["parts", "house", "sons", "son"]) (sc := defScope s_has_its_sons) (by decide +kernel)) (fun _ _ _ _ _ => (pg_name (i := 3) sc_has_its_sons.nd rfl (Or.inl rfl))) (fun _ _ _ _ _ => pts_one (pt_cmpR op_notN (pv 3) pe_non (nomark _))) (fun _ _ _ _ _ => (pv 3)))
      (pss_cons (ps_if (PW.pt (pw_and (pt_cmpR (op_eqM (K := g.K) rfl hr.units) (pe_callB (call_lenM (K := g.K) rfl) (by rfl) T.n_len PySem.boot_len (pa_cons (pv 2) pa_nil)) pe_int (nomark _)) (pw_and1 (pt_cmpR (op_eqM (K := g.K) rfl hr.units) (pe_ix (ix_M (K := g.K) rfl) (pv 2) pe_int (fun _ _ => rfl)) (pe_ix (ix_M (K := g.K) rfl) (pv 2) pe_int (fun _ _ => rfl)) (nomark _))))) (pss_one (ps_ret pe_bl)) pss_nil)
      (pss_one (ps_ret (pe_callB (call_allM (K := g.K) rfl rfl) (by rfl) T.n_all (by decide +kernel) (pa_cons ((pe_lc (own := [("son", 3)]) (g := (gName 3)) (tt := tYes) (by rfl) sc_has_its_sons.nd (pi_M (K := g.K) rfl (pv 2)) (blkOk_by (own := [("son", 3)]) (N := ["parts", "house", "sons", "son"]) (sc := defScope s_has_its_sons) (by decide +kernel)) (fun _ _ _ _ _ => (pg_name (i := 3) sc_has_its_sons.nd rfl (Or.inl rfl))) (fun _ _ _ _ _ => pts_nil) (fun _ _ _ _ _ => (pe_cmpR (op_eqM (K := g.K) rfl hr.units) (pe_ix (ix_M (K := g.K) rfl) (pe_ix (ix_M (K := g.K) rfl) (pv 0) (pv 3) (fun _ _ => rfl)) pe_int (fun _ _ => rfl)) (pv 1) (nomark _))))) pa_nil)))))))
    ((ss_seq (ss_asgG (se_frz (sl_lc (si_walk (se_sl (se_op ix_ok se_var se_var) (so_some se_int) (so_some se_int))) (sgv_name (by decide)) (st_test (se_op notN_okR se_var se_non)) se_var)) sg_name)
      (ss_seq (ss_ifS (st_and (st_test (se_op eq_ok (se_call len_ok (sa_cons se_var sa_nil)) se_int)) (st_test (se_op eq_ok (se_op ix_ok se_var se_int) (se_op ix_ok se_var se_int)))) (ss_ret se_bl) ss_next)
      (ss_ret (se_call all_ok (sa_cons (se_frz (sl_lc (si_walk se_var) (sgv_name (by decide)) st_yes (se_op eq_ok (se_op ix_ok (se_op ix_ok se_var se_var) se_int) se_var))) sa_nil)))))) h

end
end W3
namespace W3
open PySem PySem.Spec PyProof.Rows L2 M3
section
variable {P : Program} {w : World} {g : G} {mg : Str → Option Value} {base : Heap} {f_eBadForest f_eNoHouse f_eNoShape f_eNoTurn f_iForest f_iStand : Addr}
theorem ok_shape_of (D : M3.Def g.K mg "shape_of" s_shape_of ["stands"]) (T : Txt mg) (Z : Fx g w mg f_eBadForest f_eNoHouse f_eNoShape f_eNoTurn f_iForest f_iStand) : M3.Cal P w g.K mg base 1 "shape_of" ["stands"] (spM g.K 1 (mScope (m_shape_of g))) := by
  refine M3.Cal.imp (D.cal (sp := (spM g.K 1 (m_shape_of g))) sc_shape_of (spM_len rfl) (fun f cdv A outer s H vs Q E hr h => ?_)) scope_ok
  exact body_all (N := ["stands", "at"]) (E := E) ((pss_one (ps_ret (pe_callTy (call_tupM (K := g.K) rfl) (by rfl) T.n_tuple (by decide +kernel) (pa_cons ((pe_lc (own := [("at", 1)]) (g := (gName 1)) (tt := tYes) (by rfl) sc_shape_of.nd (pi_M (K := g.K) rfl (pv 0)) (blkOk_by (own := [("at", 1)]) (N := ["stands", "at"]) (sc := defScope s_shape_of) (by decide +kernel)) (fun _ _ _ _ _ => (pg_name (i := 1) sc_shape_of.nd rfl (Or.inl rfl))) (fun _ _ _ _ _ => pts_nil) (fun _ _ _ _ _ => (pe_tup (pa_cons (pe_fldK (K := g.K) rfl (pv 1) rfl) (pa_cons (pe_fldK (K := g.K) rfl (pv 1) rfl) (pa_cons (pe_fldK (K := g.K) rfl (pv 1) rfl) (pa_cons (pe_fldK (K := g.K) rfl (pv 1) rfl) (pa_cons (pe_fldK (K := g.K) rfl (pv 1) rfl) (pa_cons (pe_fldK (K := g.K) rfl (pv 1) rfl) pa_nil)))))))))) pa_nil)))))
    ((ss_ret (se_call tuple_ok (sa_cons (se_frz (sl_lc (si_walk se_var) (sgv_name (by decide)) st_yes (se_tup (sa_cons (se_fld Z.FO se_var) (sa_cons (se_fld Z.FO se_var) (sa_cons (se_fld Z.FO se_var) (sa_cons (se_fld Z.FO se_var) (sa_cons (se_fld Z.FO se_var) (sa_cons (se_fld Z.FO se_var) sa_nil))))))))) sa_nil)))) h

end
end W3
namespace W3
open PySem PySem.Spec PyProof.Rows L2 M3
section
variable {P : Program} {w : World} {g : G} {mg : Str → Option Value} {base : Heap} {f_eBadForest f_eNoHouse f_eNoShape f_eNoTurn f_iForest f_iStand : Addr}
theorem ok_is_top (D : M3.Def g.K mg "is_top" s_is_top ["stands", "house"]) (T : Txt mg) (Z : Fx g w mg f_eBadForest f_eNoHouse f_eNoShape f_eNoTurn f_iForest f_iStand) : M3.Cal P w g.K mg base 1 "is_top" ["stands", "house"] (spM g.K 2 (mScope (m_is_top g))) := by
  refine M3.Cal.imp (D.cal (sp := (spM g.K 2 (m_is_top g))) sc_is_top (spM_len rfl) (fun f cdv A outer s H vs Q E hr h => ?_)) scope_ok
  exact body_all (N := ["stands", "house", "up"]) (E := E) ((pss_cons (ps_set (i := 2) sc_is_top.nd rfl (Or.inl rfl) (pe_fldK (K := g.K) rfl (pe_ix (ix_M (K := g.K) rfl) (pv 0) (pv 1) (fun _ _ => rfl)) rfl))
      (pss_one (ps_ret (pe_or (pe_cmpR op_isN (pv 2) pe_non (nomark _)) (pe_one (pe_cmpR (op_notInM (K := g.K) rfl) (pv 1) (pe_tup (pa_cons (pe_fldK (K := g.K) rfl (pe_ix (ix_M (K := g.K) rfl) (pv 0) (pv 2) (fun _ _ => rfl)) rfl) (pa_cons (pe_fldK (K := g.K) rfl (pe_ix (ix_M (K := g.K) rfl) (pv 0) (pv 2) (fun _ _ => rfl)) rfl) pa_nil))) (by rfl))))))))
    ((ss_seq (ss_asgG (se_fld Z.FO (se_op ix_ok se_var se_var)) sg_name)
      (ss_ret (se_or (se_op isN_okR se_var se_non) (se_op notIn_ok se_var (se_tup (sa_cons (se_fld Z.FO (se_op ix_ok se_var se_var)) (sa_cons (se_fld Z.FO (se_op ix_ok se_var se_var)) sa_nil)))))))) h

end
end W3
namespace W3
open PySem PySem.Spec PyProof.Rows L2 M3
section
variable {P : Program} {w : World} {g : G} {mg : Str → Option Value} {base : Heap} {f_eBadForest f_eNoHouse f_eNoShape f_eNoTurn f_iForest f_iStand : Addr}
theorem ok_line_up (D : M3.Def g.K mg "line_up" s_line_up ["stands", "house"]) (T : Txt mg) (Z : Fx g w mg f_eBadForest f_eNoHouse f_eNoShape f_eNoTurn f_iForest f_iStand) : M3.Cal P w g.K mg base 1 "line_up" ["stands", "house"] (spM g.K 2 (mScope (m_line_up g))) := by
  refine M3.Cal.imp (D.cal (sp := (spM g.K 2 (m_line_up g))) sc_line_up (spM_len rfl) (fun f cdv A outer s H vs Q E hr h => ?_)) scope_ok
  exact body_all (N := ["stands", "house", "line"]) (E := E) ((pss_cons (ps_set (i := 2) sc_line_up.nd rfl (Or.inl rfl) (pe_lst (pa_cons (pv 1) pa_nil)))
      (pss_cons (ps_while (passes_of rfl) (pt_cmpR op_notN (pe_fldK (K := g.K) rfl (pe_ix (ix_M (K := g.K) rfl) (pv 0) (pe_ix (ix_M (K := g.K) rfl) (pv 2) (pe_un un_neg pe_int) (fun _ _ => rfl)) (fun _ _ => rfl)) rfl) pe_non (nomark _)) (pss_one (ps_expr (pe_bmK (K := g.K) rfl PySem.F.plainAttrs_list PySem.F.slot_list_append PySem.F.type_list_append mt_append (pv 2) (pa_cons (pe_fldK (K := g.K) rfl (pe_ix (ix_M (K := g.K) rfl) (pv 0) (pe_ix (ix_M (K := g.K) rfl) (pv 2) (pe_un un_neg pe_int) (fun _ _ => rfl)) (fun _ _ => rfl)) rfl) pa_nil)))))
      (pss_one (ps_ret (pv 2))))))
    ((ss_seq (ss_asgG (se_trk (sl_lst (sa_cons se_var sa_nil))) sg_name)
      (ss_seq (ss_while (st_test (se_op notN_okR (se_fld Z.FO (se_op ix_ok se_var (se_op ix_ok se_var (se_un neg_ok se_int)))) se_non)) (ss_drop (se_bm append_ok se_var (sa_cons (se_fld Z.FO (se_op ix_ok se_var (se_op ix_ok se_var (se_un neg_ok se_int)))) sa_nil))))
      (ss_ret se_var)))) h

end
end W3
namespace W3
open PySem PySem.Spec PyProof.Rows L2 M3
section
variable {P : Program} {w : World} {g : G} {mg : Str → Option Value} {base : Heap} {f_eBadForest f_eNoHouse f_eNoShape f_eNoTurn f_iForest f_iStand : Addr}
theorem ok_hand_on (D : M3.Def g.K mg "hand_on" s_hand_on ["stands", "house"]) (T : Txt mg) (Z : Fx g w mg f_eBadForest f_eNoHouse f_eNoShape f_eNoTurn f_iForest f_iStand) : M3.Cal P w g.K mg base 1 "hand_on" ["stands", "house"] (spM g.K 2 (mScope (m_hand_on g))) := by
  refine M3.Cal.imp (D.cal (sp := (spM g.K 2 (m_hand_on g))) sc_hand_on (spM_len rfl) (fun f cdv A outer s H vs Q E hr h => ?_)) scope_ok
  exact body_all (N := ["stands", "house", "stand", "sons", "son"]) (E := E) ((pss_cons (ps_set (i := 2) sc_hand_on.nd rfl (Or.inl rfl) (pe_ix (ix_M (K := g.K) rfl) (pv 0) (pv 1) (fun _ _ => rfl)))
      (pss_cons (ps_setLc (i := 3) (own := [("son", 4)]) (g := (gName 4)) (by rfl) sc_hand_on.nd rfl rfl (sw_true rfl rfl rfl (by decide +kernel)) (pi_M (K := g.K) rfl (pe_tup (pa_cons (pe_fldK (K := g.K) rfl (pv 2) rfl) (pa_cons (pe_fldK (K := g.K) rfl (pv 2) rfl) pa_nil)))) (blkOk_by (own := [("son", 4)]) (N := ["stands", "house", "stand", "sons", "son"]) (sc := defScope s_hand_on) (by decide +kernel)) (fun _ _ _ _ _ => (pg_name (i := 4) sc_hand_on.nd rfl (Or.inl rfl))) (fun _ _ _ _ _ => pts_one (pt_cmpR op_notN (pv 4) pe_non (nomark _))) (fun _ _ _ _ _ => (pe_ix (ix_M (K := g.K) rfl) (pv 0) (pv 4) (fun _ _ => rfl))))
      (pss_cons (ps_if (pt_val (pe_fldK (K := g.K) rfl (pv 2) rfl)) (pss_cons (ps_asg (pe_tup (pa_cons (pe_fldK (K := g.K) rfl (pv 2) rfl) (pa_cons (pe_fldK (K := g.K) rfl (pv 2) rfl) pa_nil))) (pg_tup rfl (pgs_cons (pg_fldK (K := g.K) rfl (pv 2)) (pgs_cons (pg_fldK (K := g.K) rfl (pv 2)) pgs_nil))))
      (pss_cons (ps_fld (pv 2) pe_bl rfl)
      (pss_one (ps_for (passes_of rfl) rfl (pi_M (K := g.K) rfl (pv 3)) (pg_name (i := 4) sc_hand_on.nd rfl (Or.inl rfl)) (pss_one (ps_fld (pv 4) (pe_not (pe_fldK (K := g.K) rfl (pv 4) rfl)) rfl)))))) pss_nil)
      (pss_cons (ps_for (passes_of rfl) rfl (pi_M (K := g.K) rfl (pv 3)) (pg_name (i := 4) sc_hand_on.nd rfl (Or.inl rfl)) (pss_cons (ps_fldaug (pv 4) (pe_fldK (K := g.K) rfl (pv 2) rfl) in_add)
      (pss_one (ps_fldaug (pv 4) (pe_fldK (K := g.K) rfl (pv 2) rfl) in_add))))
      (pss_one (ps_fld (pv 2) pe_int rfl)))))))
    ((ss_seq (ss_asgG (se_op ix_ok se_var se_var) sg_name)
      (ss_seq (ss_asgG (se_trk (sl_lc (si_walk (se_tup (sa_cons (se_fld Z.FO se_var) (sa_cons (se_fld Z.FO se_var) sa_nil)))) (sgv_name (by decide)) (st_test (se_op notN_okR se_var se_non)) (se_op ix_ok se_var se_var))) sg_name)
      (ss_seq (ss_ifS (st_tst (se_fld Z.FO se_var)) (ss_seq (ss_asgG (se_tup (sa_cons (se_fld Z.FO se_var) (sa_cons (se_fld Z.FO se_var) sa_nil))) (sg_tup (sgs_cons (fun _ _ => rfl) (sg_fld Z.FO se_var) (sgs_cons (fun _ _ => rfl) (sg_fld Z.FO se_var) sgs_nil))))
      (ss_seq (ss_setF Z.FO se_var se_bl)
      (ss_for (si_walk se_var) sg_name (ss_setF Z.FO se_var (se_not (se_fld Z.FO se_var)))))) ss_next)
      (ss_seq (ss_for (si_walk se_var) sg_name (ss_seq (ss_augF Z.FO in_add_ok se_var (se_fld Z.FO se_var))
      (ss_augF Z.FO in_add_ok se_var (se_fld Z.FO se_var))))
      (ss_setF Z.FO se_var se_int)))))) h

end
end W3
namespace W3
open PySem PySem.Spec PyProof.Rows L2 M3
section
variable {P : Program} {w : World} {g : G} {mg : Str → Option Value} {base : Heap} {f_eBadForest f_eNoHouse f_eNoShape f_eNoTurn f_iForest f_iStand : Addr}
theorem ok_take_place (D : M3.Def g.K mg "_take_place" s_take_place ["stands", "house", "ahead"]) (T : Txt mg) (Z : Fx g w mg f_eBadForest f_eNoHouse f_eNoShape f_eNoTurn f_iForest f_iStand) : M3.Cal P w g.K mg base 1 "_take_place" ["stands", "house", "ahead"] (spM g.K 3 (mScope (m_take_place g))) := by
  refine M3.Cal.imp (D.cal (sp := (spM g.K 3 (m_take_place g))) sc_take_place (spM_len rfl) (fun f cdv A outer s H vs Q E hr h => ?_)) scope_ok
  exact body_all (N := ["stands", "house", "ahead", "stand", "above"]) (E := E) ((pss_cons (ps_set (i := 3) sc_take_place.nd rfl (Or.inl rfl) (pe_ix (ix_M (K := g.K) rfl) (pv 0) (pv 1) (fun _ _ => rfl)))
      (pss_cons (ps_fld (pv 3) (pe_fldK (K := g.K) rfl (pe_ix (ix_M (K := g.K) rfl) (pv 0) (pv 2) (fun _ _ => rfl)) rfl) rfl)
      (pss_cons (ps_if (pt_cmpR op_isN (pe_fldK (K := g.K) rfl (pv 3) rfl) pe_non (nomark _)) (pss_one (ps_retN)) pss_nil)
      (pss_cons (ps_set (i := 4) sc_take_place.nd rfl (Or.inl rfl) (pe_ix (ix_M (K := g.K) rfl) (pv 0) (pe_fldK (K := g.K) rfl (pv 3) rfl) (fun _ _ => rfl)))
      (pss_one (ps_if (pt_cmpR (op_eqM (K := g.K) rfl hr.units) (pe_fldK (K := g.K) rfl (pv 4) rfl) (pv 2) (nomark _)) (pss_one (ps_fld (pv 4) (pv 1) rfl)) (pss_one (ps_if (pt_cmpR (op_eqM (K := g.K) rfl hr.units) (pe_fldK (K := g.K) rfl (pv 4) rfl) (pv 2) (nomark _)) (pss_one (ps_fld (pv 4) (pv 1) rfl)) pss_nil)))))))))
    ((ss_seq (ss_asgG (se_op ix_ok se_var se_var) sg_name)
      (ss_seq (ss_setF Z.FO se_var (se_fld Z.FO (se_op ix_ok se_var se_var)))
      (ss_seq (ss_ifS (st_test (se_op isN_okR (se_fld Z.FO se_var) se_non)) ss_retN ss_next)
      (ss_seq (ss_asgG (se_op ix_ok se_var (se_fld Z.FO se_var)) sg_name)
      (ss_ifS (st_test (se_op eq_ok (se_fld Z.FO se_var) se_var)) (ss_setF Z.FO se_var se_var) (ss_ifS (st_test (se_op eq_ok (se_fld Z.FO se_var) se_var)) (ss_setF Z.FO se_var se_var) ss_next))))))) h

end
end W3
namespace W3
open PySem PySem.Spec PyProof.Rows L2 M3
section
variable {P : Program} {w : World} {g : G} {mg : Str → Option Value} {base : Heap} {f_eBadForest f_eNoHouse f_eNoShape f_eNoTurn f_iForest f_iStand : Addr}
theorem ok_L_hand (D : M3.Def g.K mg "_law_hand" s_L_hand ["_law_script"]) (T : Txt mg) (Z : Fx g w mg f_eBadForest f_eNoHouse f_eNoShape f_eNoTurn f_iForest f_iStand) : M3.Cal P w g.K mg base 1 "_law_hand" ["_law_script"] (spM g.K 1 (m_L_hand g)) := by
  refine M3.Cal.mono (D.cal (sp := (spM g.K 1 (m_L_hand g))) sc_L_hand (spM_len rfl) (fun f cdv A outer s H vs Q E hr h => ?_)) (Nat.le_refl _)
  exact body_all (N := ["_law_script", "_law_cell"]) (E := E) ((pss_one (ps_ret (pe_lst (pa_cons ((pe_lc (own := [("_law_cell", 1)]) (g := (gName 1)) (tt := tYes) (by rfl) sc_L_hand.nd (pi_M (K := g.K) rfl (pe_slice (sl_M (K := g.K) rfl) (pv 0) po_none (po_some pe_int))) (blkOk_by (own := [("_law_cell", 1)]) (N := ["_law_script", "_law_cell"]) (sc := defScope s_L_hand) (by decide +kernel)) (fun _ _ _ _ _ => (pg_name (i := 1) sc_L_hand.nd rfl (Or.inl rfl))) (fun _ _ _ _ _ => pts_nil) (fun _ _ _ _ _ => (pe_callTy call_int1 (by rfl) T.n_int (by decide +kernel) (pa_cons (pv 1) pa_nil))))) (pa_cons pe_int (pa_cons pe_int (pa_cons (pe_op (op_addM (K := g.K) rfl) pe_int (pe_callB (call_lenM (K := g.K) rfl) (by rfl) T.n_len PySem.boot_len (pa_cons (pe_slice (sl_M (K := g.K) rfl) (pv 0) po_none (po_some pe_int)) pa_nil))) (pa_cons pe_int pa_nil)))))))))
    ((ss_ret (se_trk (sl_lst (sa_cons (se_frz (sl_lc (si_walk (se_sl se_var so_none (so_some se_int))) (sgv_name (by decide)) st_yes (se_call int_ok (sa_cons se_var sa_nil)))) (sa_cons se_int (sa_cons se_int (sa_cons (se_op add_ok se_int (se_call len_ok (sa_cons (se_sl se_var so_none (so_some se_int)) sa_nil))) (sa_cons se_int sa_nil))))))))) h

end
end W3
namespace W3
open PySem PySem.Spec PyProof.Rows L2 M3
section
variable {P : Program} {w : World} {g : G} {mg : Str → Option Value} {base : Heap} {f_eBadForest f_eNoHouse f_eNoShape f_eNoTurn f_iForest f_iStand : Addr}
theorem ok_L_draw (D : M3.Def g.K mg "_law_draw" s_L_draw ["_law_hand_here", "_law_many_here"]) (T : Txt mg) (Z : Fx g w mg f_eBadForest f_eNoHouse f_eNoShape f_eNoTurn f_iForest f_iStand) : M3.Cal P w g.K mg base 1 "_law_draw" ["_law_hand_here", "_law_many_here"] (spM g.K 2 (mScope (m_L_draw g))) := by
  refine M3.Cal.imp (D.cal (sp := (spM g.K 2 (m_L_draw g))) sc_L_draw (spM_len rfl) (fun f cdv A outer s H vs Q E hr h => ?_)) scope_ok
  exact body_all (N := ["_law_hand_here", "_law_many_here", "_law_cell", "_law_digit", "_law_number"]) (E := E) ((pss_cons (ps_if (PW.pt (pw_and (pt_cmpR (op_eqM (K := g.K) rfl hr.units) (pe_ix (ix_M (K := g.K) rfl) (pv 0) pe_int (fun _ _ => rfl)) pe_int (nomark _)) (pw_and1 (pt_cmpR op_lt (pe_ix (ix_M (K := g.K) rfl) (pv 0) pe_int (fun _ _ => rfl)) (pe_callB (call_lenM (K := g.K) rfl) (by rfl) T.n_len PySem.boot_len (pa_cons (pe_ix (ix_M (K := g.K) rfl) (pv 0) pe_int (fun _ _ => rfl)) pa_nil)) (nomark _))))) (pss_cons (ps_set (i := 2) sc_L_draw.nd rfl (Or.inl rfl) (pe_ix (ix_M (K := g.K) rfl) (pe_ix (ix_M (K := g.K) rfl) (pv 0) pe_int (fun _ _ => rfl)) (pe_ix (ix_M (K := g.K) rfl) (pv 0) pe_int (fun _ _ => rfl)) (fun _ _ => rfl)))
      (pss_cons (ps_asg (pe_op (op_addM (K := g.K) rfl) (pe_ix (ix_M (K := g.K) rfl) (pv 0) pe_int (fun _ _ => rfl)) pe_int) (pg_sub (pv 0) pe_int set_list))
      (pss_cons (ps_asg (pe_op op_mod (pe_callTy call_int1 (by rfl) T.n_int (by decide +kernel) (pa_cons (pe_op (op_addM (K := g.K) rfl) (pe_op (op_addM (K := g.K) rfl) (pe_op (op_mulM (K := g.K) rfl) (pe_ix (ix_M (K := g.K) rfl) (pv 0) pe_int (fun _ _ => rfl)) pe_int) (pe_op (op_mulM (K := g.K) rfl) (pv 2) pe_int)) pe_int) pa_nil)) pe_int) (pg_sub (pv 0) pe_int set_list))
      (pss_one (ps_if (pt_cmpR op_ge (pv 2) (pe_op op_pow pe_int pe_int) (nomark _)) (pss_one (ps_asg (pv 2) (pg_sub (pv 0) pe_int set_list))) pss_nil))))) pss_nil)
      (pss_cons (ps_if (pt_cmpR op_gt (pe_ix (ix_M (K := g.K) rfl) (pv 0) pe_int (fun _ _ => rfl)) pe_int (nomark _)) (pss_cons (ps_set (i := 3) sc_L_draw.nd rfl (Or.inl rfl) (pe_op op_mod (pe_callTy call_int1 (by rfl) T.n_int (by decide +kernel) (pa_cons (pe_ix (ix_M (K := g.K) rfl) (pv 0) pe_int (fun _ _ => rfl)) pa_nil)) (pv 1)))
      (pss_cons (ps_asg (pe_op op_fdivW (pe_ix (ix_M (K := g.K) rfl) (pv 0) pe_int (fun _ _ => rfl)) (pv 1)) (pg_sub (pv 0) pe_int set_list))
      (pss_one (ps_ret (pv 3))))) pss_nil)
      (pss_cons (ps_asg (pe_op (op_addM (K := g.K) rfl) (pe_ix (ix_M (K := g.K) rfl) (pv 0) pe_int (fun _ _ => rfl)) pe_int) (pg_sub (pv 0) pe_int set_list))
      (pss_cons (ps_set (i := 4) sc_L_draw.nd rfl (Or.inl rfl) (pe_op op_mod (pe_callTy call_int1 (by rfl) T.n_int (by decide +kernel) (pa_cons (pe_op (op_mulM (K := g.K) rfl) (pe_callTy call_int1 (by rfl) T.n_int (by decide +kernel) (pa_cons (pe_op (op_addM (K := g.K) rfl) (pe_ix (ix_M (K := g.K) rfl) (pv 0) pe_int (fun _ _ => rfl)) (pe_op (op_mulM (K := g.K) rfl) pe_int (pe_ix (ix_M (K := g.K) rfl) (pv 0) pe_int (fun _ _ => rfl)))) pa_nil)) pe_int) pa_nil)) pe_int))
      (pss_cons (ps_set (i := 4) sc_L_draw.nd rfl (Or.inl rfl) (pe_op op_mod (pe_callTy call_int1 (by rfl) T.n_int (by decide +kernel) (pa_cons (pe_op (op_mulM (K := g.K) rfl) (pv 4) (pe_op (op_addM (K := g.K) rfl) (pe_op op_fdivW (pv 4) pe_int) pe_int)) pa_nil)) pe_int))
      (pss_cons (ps_set (i := 4) sc_L_draw.nd rfl (Or.inl rfl) (pe_op op_mod (pe_callTy call_int1 (by rfl) T.n_int (by decide +kernel) (pa_cons (pe_op (op_mulM (K := g.K) rfl) (pv 4) (pe_op (op_addM (K := g.K) rfl) (pe_op op_fdivW (pv 4) pe_int) pe_int)) pa_nil)) pe_int))
      (pss_one (ps_ret (pe_op op_mod (pe_callTy call_int1 (by rfl) T.n_int (by decide +kernel) (pa_cons (pe_op op_fdivW (pv 4) pe_int) pa_nil)) (pv 1)))))))))))
    ((ss_seq (ss_ifS (st_and (st_test (se_op eq_ok (se_op ix_ok se_var se_int) se_int)) (st_test (se_op lt_ok (se_op ix_ok se_var se_int) (se_call len_ok (sa_cons (se_op ix_ok se_var se_int) sa_nil))))) (ss_seq (ss_asgG (se_op ix_ok (se_op ix_ok se_var se_int) (se_op ix_ok se_var se_int)) sg_name)
      (ss_seq (ss_asgG (se_op add_ok (se_op ix_ok se_var se_int) se_int) (sg_sub se_var se_int))
      (ss_seq (ss_asgG (se_op mod_ok (se_call int_ok (sa_cons (se_op add_ok (se_op add_ok (se_op mul_ok (se_op ix_ok se_var se_int) se_int) (se_op mul_ok se_var se_int)) se_int) sa_nil)) se_int) (sg_sub se_var se_int))
      (ss_ifS (st_test (se_op ge_ok se_var (se_op pow_ok se_int se_int))) (ss_asgG se_var (sg_sub se_var se_int)) ss_next)))) ss_next)
      (ss_seq (ss_ifS (st_test (se_op gt_ok (se_op ix_ok se_var se_int) se_int)) (ss_seq (ss_asgG (se_op mod_ok (se_call int_ok (sa_cons (se_op ix_ok se_var se_int) sa_nil)) se_var) sg_name)
      (ss_seq (ss_asgG (se_op div_ok (se_op ix_ok se_var se_int) se_var) (sg_sub se_var se_int))
      (ss_ret se_var))) ss_next)
      (ss_seq (ss_asgG (se_op add_ok (se_op ix_ok se_var se_int) se_int) (sg_sub se_var se_int))
      (ss_seq (ss_asgG (se_op mod_ok (se_call int_ok (sa_cons (se_op mul_ok (se_call int_ok (sa_cons (se_op add_ok (se_op ix_ok se_var se_int) (se_op mul_ok se_int (se_op ix_ok se_var se_int))) sa_nil)) se_int) sa_nil)) se_int) sg_name)
      (ss_seq (ss_asgG (se_op mod_ok (se_call int_ok (sa_cons (se_op mul_ok se_var (se_op add_ok (se_op div_ok se_var se_int) se_int)) sa_nil)) se_int) sg_name)
      (ss_seq (ss_asgG (se_op mod_ok (se_call int_ok (sa_cons (se_op mul_ok se_var (se_op add_ok (se_op div_ok se_var se_int) se_int)) sa_nil)) se_int) sg_name)
      (ss_ret (se_op mod_ok (se_call int_ok (sa_cons (se_op div_ok se_var se_int) sa_nil)) se_var))))))))) h

end
end W3
namespace W3
open PySem PySem.Spec PyProof.Rows L2 M3
section
variable {P : Program} {w : World} {g : G} {mg : Str → Option Value} {base : Heap} {f_eBadForest f_eNoHouse f_eNoShape f_eNoTurn f_iForest f_iStand : Addr}
theorem ok_L_house (D : M3.Def g.K mg "_law_house" s_L_house ["_law_up", "_law_value_here"]) (T : Txt mg) (Z : Fx g w mg f_eBadForest f_eNoHouse f_eNoShape f_eNoTurn f_iForest f_iStand) : M3.Cal P w g.K mg base 1 "_law_house" ["_law_up", "_law_value_here"] (spM g.K 2 (m_L_house g)) := by
  refine M3.Cal.mono (D.cal (sp := (spM g.K 2 (m_L_house g))) sc_L_house (spM_len rfl) (fun f cdv A outer s H vs Q E hr h => ?_)) (Nat.le_refl _)
  exact body_all (N := ["_law_up", "_law_value_here"]) (E := E) ((pss_one (ps_ret (pe_lst (pa_cons (pv 0) (pa_cons pe_non (pa_cons pe_non (pa_cons pe_bl (pa_cons pe_int (pa_cons (pv 1) pa_nil))))))))))
    ((ss_ret (se_trk (sl_lst (sa_cons se_var (sa_cons se_non (sa_cons se_non (sa_cons se_bl (sa_cons se_int (sa_cons se_var sa_nil)))))))))) h

end
end W3
namespace W3
open PySem PySem.Spec PyProof.Rows L2 M3
section
variable {P : Program} {w : World} {g : G} {mg : Str → Option Value} {base : Heap} {f_eBadForest f_eNoHouse f_eNoShape f_eNoTurn f_iForest f_iStand : Addr}
theorem ok_L_is_son (D : M3.Def g.K mg "_law_is_son" s_L_is_son ["_law_shape_here", "_law_house_here"]) (T : Txt mg) (Z : Fx g w mg f_eBadForest f_eNoHouse f_eNoShape f_eNoTurn f_iForest f_iStand) : M3.Cal P w g.K mg base 1 "_law_is_son" ["_law_shape_here", "_law_house_here"] (spM g.K 2 (mPure (m_L_is_son g))) := by
  refine M3.Cal.imp (D.cal (sp := (spM g.K 2 (m_L_is_son g))) sc_L_is_son (spM_len rfl) (fun f cdv A outer s H vs Q E hr h => ?_)) pure_ok
  exact body_all (N := ["_law_shape_here", "_law_house_here", "_law_up"]) (E := E) ((pss_cons (ps_set (i := 2) sc_L_is_son.nd rfl (Or.inl rfl) (pe_ix (ix_M (K := g.K) rfl) (pe_ix (ix_M (K := g.K) rfl) (pv 0) (pv 1) (fun _ _ => rfl)) pe_int (fun _ _ => rfl)))
      (pss_one (ps_ret (pe_and (pe_cmpR op_notN (pv 2) pe_non (nomark _)) (pe_one (pe_cmpR (op_inM (K := g.K) rfl) (pv 1) (pe_slice (sl_M (K := g.K) rfl) (pe_ix (ix_M (K := g.K) rfl) (pv 0) (pv 2) (fun _ _ => rfl)) (po_some pe_int) (po_some pe_int)) (by rfl))))))))
    ((ss_seq (ss_asgG (se_op ix_ok (se_op ix_ok se_var se_var) se_int) sg_name)
      (ss_ret (se_and (se_op notN_okR se_var se_non) (se_op in_ok se_var (se_sl (se_op ix_ok se_var se_var) (so_some se_int) (so_some se_int))))))) h

end
end W3
namespace W3
open PySem PySem.Spec PyProof.Rows L2 M3
section
variable {P : Program} {w : World} {g : G} {mg : Str → Option Value} {base : Heap} {f_eBadForest f_eNoHouse f_eNoShape f_eNoTurn f_iForest f_iStand : Addr}
theorem ok_L_hand_on (D : M3.Def g.K mg "_law_hand_on" s_L_hand_on ["_law_shape_here", "_law_house_here"]) (T : Txt mg) (Z : Fx g w mg f_eBadForest f_eNoHouse f_eNoShape f_eNoTurn f_iForest f_iStand) : M3.Cal P w g.K mg base 1 "_law_hand_on" ["_law_shape_here", "_law_house_here"] (spM g.K 2 (mScope (m_L_hand_on g))) := by
  refine M3.Cal.imp (D.cal (sp := (spM g.K 2 (m_L_hand_on g))) sc_L_hand_on (spM_len rfl) (fun f cdv A outer s H vs Q E hr h => ?_)) scope_ok
  exact body_all (N := ["_law_shape_here", "_law_house_here", "_law_row", "_law_sons", "_law_son", "_law_theirs"]) (E := E) ((pss_cons (ps_set (i := 2) sc_L_hand_on.nd rfl (Or.inl rfl) (pe_ix (ix_M (K := g.K) rfl) (pv 0) (pv 1) (fun _ _ => rfl)))
      (pss_cons (ps_setLc (i := 3) (own := [("_law_son", 4)]) (g := (gName 4)) (by rfl) sc_L_hand_on.nd rfl rfl (sw_true rfl rfl rfl (by decide +kernel)) (pi_M (K := g.K) rfl (pe_slice (sl_M (K := g.K) rfl) (pv 2) (po_some pe_int) (po_some pe_int))) (blkOk_by (own := [("_law_son", 4)]) (N := ["_law_shape_here", "_law_house_here", "_law_row", "_law_sons", "_law_son", "_law_theirs"]) (sc := defScope s_L_hand_on) (by decide +kernel)) (fun _ _ _ _ _ => (pg_name (i := 4) sc_L_hand_on.nd rfl (Or.inl rfl))) (fun _ _ _ _ _ => pts_one (pt_cmpR op_notN (pv 4) pe_non (nomark _))) (fun _ _ _ _ _ => (pv 4)))
      (pss_cons (ps_if (pt_val (pe_ix (ix_M (K := g.K) rfl) (pv 2) pe_int (fun _ _ => rfl))) (pss_cons (ps_asg (pe_tup (pa_cons (pe_ix (ix_M (K := g.K) rfl) (pv 2) pe_int (fun _ _ => rfl)) (pa_cons (pe_ix (ix_M (K := g.K) rfl) (pv 2) pe_int (fun _ _ => rfl)) pa_nil))) (pg_tup rfl (pgs_cons (pg_sub (pv 2) pe_int set_list) (pgs_cons (pg_sub (pv 2) pe_int set_list) pgs_nil))))
      (pss_cons (ps_asg pe_bl (pg_sub (pv 2) pe_int set_list))
      (pss_one (ps_for (passes_of rfl) rfl (pi_M (K := g.K) rfl (pv 3)) (pg_name (i := 4) sc_L_hand_on.nd rfl (Or.inl rfl)) (pss_cons (ps_set (i := 5) sc_L_hand_on.nd rfl (Or.inl rfl) (pe_ix (ix_M (K := g.K) rfl) (pv 0) (pv 4) (fun _ _ => rfl)))
      (pss_one (ps_asg (pe_not (pe_ix (ix_M (K := g.K) rfl) (pv 5) pe_int (fun _ _ => rfl))) (pg_sub (pv 5) pe_int set_list)))))))) pss_nil)
      (pss_cons (ps_for (passes_of rfl) rfl (pi_M (K := g.K) rfl (pv 3)) (pg_name (i := 4) sc_L_hand_on.nd rfl (Or.inl rfl)) (pss_cons (ps_set (i := 5) sc_L_hand_on.nd rfl (Or.inl rfl) (pe_ix (ix_M (K := g.K) rfl) (pv 0) (pv 4) (fun _ _ => rfl)))
      (pss_cons (ps_asg (pe_op (op_addM (K := g.K) rfl) (pe_ix (ix_M (K := g.K) rfl) (pv 5) pe_int (fun _ _ => rfl)) (pe_ix (ix_M (K := g.K) rfl) (pv 2) pe_int (fun _ _ => rfl))) (pg_sub (pv 5) pe_int set_list))
      (pss_one (ps_asg (pe_op (op_addM (K := g.K) rfl) (pe_ix (ix_M (K := g.K) rfl) (pv 5) pe_int (fun _ _ => rfl)) (pe_ix (ix_M (K := g.K) rfl) (pv 2) pe_int (fun _ _ => rfl))) (pg_sub (pv 5) pe_int set_list))))))
      (pss_one (ps_asg pe_int (pg_sub (pv 2) pe_int set_list))))))))
    ((ss_seq (ss_asgG (se_op ix_ok se_var se_var) sg_name)
      (ss_seq (ss_asgG (se_frz (sl_lc (si_walk (se_sl se_var (so_some se_int) (so_some se_int))) (sgv_name (by decide)) (st_test (se_op notN_okR se_var se_non)) se_var)) sg_name)
      (ss_seq (ss_ifS (st_tst (se_op ix_ok se_var se_int)) (ss_seq (ss_asgG (se_tup (sa_cons (se_op ix_ok se_var se_int) (sa_cons (se_op ix_ok se_var se_int) sa_nil))) (sg_tup (sgs_cons (fun _ _ => rfl) (sg_sub se_var se_int) (sgs_cons (fun _ _ => rfl) (sg_sub se_var se_int) sgs_nil))))
      (ss_seq (ss_asgG se_bl (sg_sub se_var se_int))
      (ss_for (si_walk se_var) sg_name (ss_seq (ss_asgG (se_op ix_ok se_var se_var) sg_name)
      (ss_asgG (se_not (se_op ix_ok se_var se_int)) (sg_sub se_var se_int)))))) ss_next)
      (ss_seq (ss_for (si_walk se_var) sg_name (ss_seq (ss_asgG (se_op ix_ok se_var se_var) sg_name)
      (ss_seq (ss_asgG (se_op add_ok (se_op ix_ok se_var se_int) (se_op ix_ok se_var se_int)) (sg_sub se_var se_int))
      (ss_asgG (se_op add_ok (se_op ix_ok se_var se_int) (se_op ix_ok se_var se_int)) (sg_sub se_var se_int)))))
      (ss_asgG se_int (sg_sub se_var se_int))))))) h

end
end W3
namespace W3
open PySem PySem.Spec PyProof.Rows L2 M3
section
variable {P : Program} {w : World} {g : G} {mg : Str → Option Value} {base : Heap} {f_eBadForest f_eNoHouse f_eNoShape f_eNoTurn f_iForest f_iStand : Addr}
theorem ok_L_listed (D : M3.Def g.K mg "_law_listed" s_L_listed ["_law_shape_here"]) (T : Txt mg) (Z : Fx g w mg f_eBadForest f_eNoHouse f_eNoShape f_eNoTurn f_iForest f_iStand) : M3.Cal P w g.K mg base 1 "_law_listed" ["_law_shape_here"] (spM g.K 1 (m_L_listed g)) := by
  refine M3.Cal.mono (D.cal (sp := (spM g.K 1 (m_L_listed g))) sc_L_listed (spM_len rfl) (fun f cdv A outer s H vs Q E hr h => ?_)) (Nat.le_refl _)
  exact body_all (N := ["_law_shape_here", "_law_row"]) (E := E) ((pss_one (ps_ret (pe_lc (own := [("_law_row", 1)]) (g := (gName 1)) (tt := tYes) (by rfl) sc_L_listed.nd (pi_M (K := g.K) rfl (pv 0)) (blkOk_by (own := [("_law_row", 1)]) (N := ["_law_shape_here", "_law_row"]) (sc := defScope s_L_listed) (by decide +kernel)) (fun _ _ _ _ _ => (pg_name (i := 1) sc_L_listed.nd rfl (Or.inl rfl))) (fun _ _ _ _ _ => pts_nil) (fun _ _ _ _ _ => ((pe_callTy (call_listM (K := g.K) rfl) (by rfl) T.n_list (by decide +kernel) (pa_cons (pv 1) pa_nil))))))))
    ((ss_ret (se_trk (sl_lc (si_walk se_var) (sgv_name (by decide)) st_yes (se_trk (sl_list (sa_cons se_var sa_nil))))))) h

end
end W3
namespace W3
open PySem PySem.Spec PyProof.Rows L2 M3
section
variable {P : Program} {w : World} {g : G} {mg : Str → Option Value} {base : Heap} {f_eBadForest f_eNoHouse f_eNoShape f_eNoTurn f_iForest f_iStand : Addr}
theorem ok_L_tupled (D : M3.Def g.K mg "_law_tupled" s_L_tupled ["_law_shape_here"]) (T : Txt mg) (Z : Fx g w mg f_eBadForest f_eNoHouse f_eNoShape f_eNoTurn f_iForest f_iStand) : M3.Cal P w g.K mg base 1 "_law_tupled" ["_law_shape_here"] (spM g.K 1 (mScope (m_L_tupled g))) := by
  refine M3.Cal.imp (D.cal (sp := (spM g.K 1 (m_L_tupled g))) sc_L_tupled (spM_len rfl) (fun f cdv A outer s H vs Q E hr h => ?_)) scope_ok
  exact body_all (N := ["_law_shape_here", "_law_row"]) (E := E) ((pss_one (ps_ret (pe_callTy (call_tupM (K := g.K) rfl) (by rfl) T.n_tuple (by decide +kernel) (pa_cons ((pe_lc (own := [("_law_row", 1)]) (g := (gName 1)) (tt := tYes) (by rfl) sc_L_tupled.nd (pi_M (K := g.K) rfl (pv 0)) (blkOk_by (own := [("_law_row", 1)]) (N := ["_law_shape_here", "_law_row"]) (sc := defScope s_L_tupled) (by decide +kernel)) (fun _ _ _ _ _ => (pg_name (i := 1) sc_L_tupled.nd rfl (Or.inl rfl))) (fun _ _ _ _ _ => pts_nil) (fun _ _ _ _ _ => (pe_callTy (call_tupM (K := g.K) rfl) (by rfl) T.n_tuple (by decide +kernel) (pa_cons (pv 1) pa_nil))))) pa_nil)))))
    ((ss_ret (se_call tuple_ok (sa_cons (se_frz (sl_lc (si_walk se_var) (sgv_name (by decide)) st_yes (se_call tuple_ok (sa_cons se_var sa_nil)))) sa_nil)))) h

end
end W3
namespace W3
open PySem PySem.Spec PyProof.Rows L2 M3
section
variable {P : Program} {w : World} {g : G} {mg : Str → Option Value} {base : Heap} {f_eBadForest f_eNoHouse f_eNoShape f_eNoTurn f_iForest f_iStand : Addr}
theorem ok_is_between (D : M3.Def g.K mg "is_between" s_is_between ["least", "most", "thing"]) (T : Txt mg) (Z : Fx g w mg f_eBadForest f_eNoHouse f_eNoShape f_eNoTurn f_iForest f_iStand) (C_is_integer : M3.Cal P w g.K mg base 1 "is_integer" ["thing"] (spM g.K 1 (mPure (m_is_integer g)))) : M3.Cal P w g.K mg base 2 "is_between" ["least", "most", "thing"] (spM g.K 3 (mPure (m_is_between g))) := by
  refine M3.Cal.imp (D.cal (sp := (spM g.K 3 (m_is_between g))) sc_is_between (spM_len rfl) (fun f cdv A outer s H vs Q E hr h => ?_)) pure_ok
  exact body_all (N := ["least", "most", "thing"]) (E := E) ((pss_one (ps_ret (pe_and (pcal C_is_integer hr (by omega) rfl (takes_of rfl rfl rfl rfl) (pa_cons (pv 2) pa_nil)) (pe_one (pe_chain op_le op_le (pv 0) (pv 2) (pv 1)))))))
    ((ss_ret (se_and (se_def (sa_cons se_var sa_nil)) (se_chain le_ok le_ok se_var se_var se_var)))) h

end
end W3
namespace W3
open PySem PySem.Spec PyProof.Rows L2 M3
section
variable {P : Program} {w : World} {g : G} {mg : Str → Option Value} {base : Heap} {f_eBadForest f_eNoHouse f_eNoShape f_eNoTurn f_iForest f_iStand : Addr}
theorem ok_are_worths (D : M3.Def g.K mg "_are_worths" s_are_worths ["thing", "houses"]) (T : Txt mg) (Z : Fx g w mg f_eBadForest f_eNoHouse f_eNoShape f_eNoTurn f_iForest f_iStand) (C_is_integer : M3.Cal P w g.K mg base 1 "is_integer" ["thing"] (spM g.K 1 (mPure (m_is_integer g)))) : M3.Cal P w g.K mg base 2 "_are_worths" ["thing", "houses"] (spM g.K 2 (mPure (m_are_worths g))) := by
  refine M3.Cal.imp (D.cal (sp := (spM g.K 2 (m_are_worths g))) sc_are_worths (spM_len rfl) (fun f cdv A outer s H vs Q E hr h => ?_)) pure_ok
  exact body_all (N := ["thing", "houses", "worth"]) (E := E) ((pss_cons (ps_if (PW.pt (pw_or (pt_not (pt_val (pe_callB (call_isiM (K := g.K) rfl) (by rfl) T.n_isinstance (by decide +kernel) (pa_cons (pv 0) (pa_cons (pe_bltn (v := .ty "tuple") (by rfl) T.n_tuple (by decide +kernel) rfl) pa_nil))))) (pw_or1 (pt_cmpR (op_neM (K := g.K) rfl hr.units) (pe_callB (call_lenM (K := g.K) rfl) (by rfl) T.n_len PySem.boot_len (pa_cons (pv 0) pa_nil)) (pv 1) (nomark _))))) (pss_one (ps_ret pe_bl)) pss_nil)
      (pss_one (ps_ret (pe_callB (call_allM (K := g.K) rfl rfl) (by rfl) T.n_all (by decide +kernel) (pa_cons ((pe_lc (own := [("worth", 2)]) (g := (gName 2)) (tt := tYes) (by rfl) sc_are_worths.nd (pi_M (K := g.K) rfl (pv 0)) (blkOk_by (own := [("worth", 2)]) (N := ["thing", "houses", "worth"]) (sc := defScope s_are_worths) (by decide +kernel)) (fun _ _ _ _ _ => (pg_name (i := 2) sc_are_worths.nd rfl (Or.inl rfl))) (fun _ _ _ _ _ => pts_nil) (fun _ _ _ _ _ => (pcalF C_is_integer hr (by omega) rfl (pa_cons (pv 2) pa_nil))))) pa_nil))))))
    ((ss_seq (ss_ifS (st_or (st_not (st_tst (se_call (isi_ok Z.CSO) (sa_cons se_var (sa_cons se_con sa_nil))))) (st_test (se_op ne_ok (se_call len_ok (sa_cons se_var sa_nil)) se_var))) (ss_ret se_bl) ss_next)
      (ss_ret (se_call all_ok (sa_cons (se_frz (sl_lc (si_walk se_var) (sgv_name (by decide)) st_yes (se_defF (sa_cons se_var sa_nil)))) sa_nil))))) h

end
end W3
namespace W3
open PySem PySem.Spec PyProof.Rows L2 M3
section
variable {P : Program} {w : World} {g : G} {mg : Str → Option Value} {base : Heap} {f_eBadForest f_eNoHouse f_eNoShape f_eNoTurn f_iForest f_iStand : Addr}
theorem ok_told_worth (D : M3.Def g.K mg "_told_worth" s_told_worth ["stands", "house"]) (T : Txt mg) (Z : Fx g w mg f_eBadForest f_eNoHouse f_eNoShape f_eNoTurn f_iForest f_iStand) (C_is_top : M3.Cal P w g.K mg base 1 "is_top" ["stands", "house"] (spM g.K 2 (mScope (m_is_top g)))) : M3.Cal P w g.K mg base 2 "_told_worth" ["stands", "house"] (spM g.K 2 (mScope (m_told_worth g))) := by
  refine M3.Cal.imp (D.cal (sp := (spM g.K 2 (m_told_worth g))) sc_told_worth (spM_len rfl) (fun f cdv A outer s H vs Q E hr h => ?_)) scope_ok
  exact body_all (N := ["stands", "house", "worth"]) (E := E) ((pss_cons (ps_set (i := 2) sc_told_worth.nd rfl (Or.inl rfl) (pe_fldK (K := g.K) rfl (pe_ix (ix_M (K := g.K) rfl) (pv 0) (pv 1) (fun _ _ => rfl)) rfl))
      (pss_cons (ps_while (passes_of rfl) (pt_not (pt_val (pcal C_is_top hr (by omega) rfl (takes_of rfl rfl rfl rfl) (pa_cons (pv 0) (pa_cons (pv 1) pa_nil))))) (pss_cons (ps_set (i := 1) sc_told_worth.nd rfl (Or.inl rfl) (pe_fldK (K := g.K) rfl (pe_ix (ix_M (K := g.K) rfl) (pv 0) (pv 1) (fun _ _ => rfl)) rfl))
      (pss_one (ps_aug (i := 2) sc_told_worth.nd rfl (Or.inl rfl) (pe_fldK (K := g.K) rfl (pe_ix (ix_M (K := g.K) rfl) (pv 0) (pv 1) (fun _ _ => rfl)) rfl) ip_add))))
      (pss_one (ps_ret (pv 2))))))
    ((ss_seq (ss_asgG (se_fld Z.FO (se_op ix_ok se_var se_var)) sg_name)
      (ss_seq (ss_while (st_not (st_tst (se_def (sa_cons se_var (sa_cons se_var sa_nil))))) (ss_seq (ss_asgG (se_fld Z.FO (se_op ix_ok se_var se_var)) sg_name)
      (ss_aug (se_fld Z.FO (se_op ix_ok se_var se_var)) ip_add_ok)))
      (ss_ret se_var)))) h

end
end W3
namespace W3
open PySem PySem.Spec PyProof.Rows L2 M3
section
variable {P : Program} {w : World} {g : G} {mg : Str → Option Value} {base : Heap} {f_eBadForest f_eNoHouse f_eNoShape f_eNoTurn f_iForest f_iStand : Addr}
theorem ok_weights_of (D : M3.Def g.K mg "_weights_of" s_weights_of ["stands"]) (T : Txt mg) (Z : Fx g w mg f_eBadForest f_eNoHouse f_eNoShape f_eNoTurn f_iForest f_iStand) (C_line_up : M3.Cal P w g.K mg base 1 "line_up" ["stands", "house"] (spM g.K 2 (mScope (m_line_up g)))) : M3.Cal P w g.K mg base 2 "_weights_of" ["stands"] (spM g.K 1 (mScope (m_weights_of g))) := by
  refine M3.Cal.imp (D.cal (sp := (spM g.K 1 (m_weights_of g))) sc_weights_of (spM_len rfl) (fun f cdv A outer s H vs Q E hr h => ?_)) scope_ok
  exact body_all (N := ["stands", "found", "house", "at"]) (E := E) ((pss_cons (ps_set (i := 1) sc_weights_of.nd rfl (Or.inl rfl) (pe_op (op_mulM (K := g.K) rfl) ((pe_lst (pa_cons pe_int pa_nil))) (pe_callB (call_lenM (K := g.K) rfl) (by rfl) T.n_len PySem.boot_len (pa_cons (pv 0) pa_nil))))
      (pss_cons (ps_for (passes_of rfl) rfl (pi_range1 rfl T.n_range (pa_cons (pe_callB (call_lenM (K := g.K) rfl) (by rfl) T.n_len PySem.boot_len (pa_cons (pv 0) pa_nil)) pa_nil)) (pg_name (i := 2) sc_weights_of.nd rfl (Or.inl rfl)) (pss_one (ps_for (passes_of rfl) rfl (pi_M (K := g.K) rfl (pcal C_line_up hr (by omega) rfl (takes_of rfl rfl rfl rfl) (pa_cons (pv 0) (pa_cons (pv 2) pa_nil)))) (pg_name (i := 3) sc_weights_of.nd rfl (Or.inl rfl)) (pss_one (ps_augS (pv 1) (pv 3) (get_K (K := g.K) rfl) pe_int ip_add set_list)))))
      (pss_one (ps_ret (pe_callTy (call_tupM (K := g.K) rfl) (by rfl) T.n_tuple (by decide +kernel) (pa_cons (pv 1) pa_nil)))))))
    ((ss_seq (ss_asgG (se_trk (sl_mulL (se_frz (sl_lst (sa_cons se_int sa_nil))) (se_call len_ok (sa_cons se_var sa_nil)))) sg_name)
      (ss_seq (ss_for (si_rng1 (sa_cons (se_call len_ok (sa_cons se_var sa_nil)) sa_nil)) sg_name (ss_for (si_walk (se_def (sa_cons se_var (sa_cons se_var sa_nil)))) sg_name (ss_augS se_var se_var se_int)))
      (ss_ret (se_call tuple_ok (sa_cons se_var sa_nil)))))) h

end
end W3
namespace W3
open PySem PySem.Spec PyProof.Rows L2 M3
section
variable {P : Program} {w : World} {g : G} {mg : Str → Option Value} {base : Heap} {f_eBadForest f_eNoHouse f_eNoShape f_eNoTurn f_iForest f_iStand : Addr}
theorem ok_turn_up (D : M3.Def g.K mg "turn_up" s_turn_up ["stands", "house"]) (T : Txt mg) (Z : Fx g w mg f_eBadForest f_eNoHouse f_eNoShape f_eNoTurn f_iForest f_iStand) (C_take_place : M3.Cal P w g.K mg base 1 "_take_place" ["stands", "house", "ahead"] (spM g.K 3 (mScope (m_take_place g)))) (C_hand_on : M3.Cal P w g.K mg base 1 "hand_on" ["stands", "house"] (spM g.K 2 (mScope (m_hand_on g)))) : M3.Cal P w g.K mg base 2 "turn_up" ["stands", "house"] (spM g.K 2 (mScope (m_turn_up g))) := by
  refine M3.Cal.imp (D.cal (sp := (spM g.K 2 (m_turn_up g))) sc_turn_up (spM_len rfl) (fun f cdv A outer s H vs Q E hr h => ?_)) scope_ok
  exact body_all (N := ["stands", "house", "lower", "ahead", "upper", "between", "inner"]) (E := E) ((pss_cons (ps_set (i := 2) sc_turn_up.nd rfl (Or.inl rfl) (pe_ix (ix_M (K := g.K) rfl) (pv 0) (pv 1) (fun _ _ => rfl)))
      (pss_cons (ps_set (i := 3) sc_turn_up.nd rfl (Or.inl rfl) (pe_fldK (K := g.K) rfl (pv 2) rfl))
      (pss_cons (ps_set (i := 4) sc_turn_up.nd rfl (Or.inl rfl) (pe_ix (ix_M (K := g.K) rfl) (pv 0) (pv 3) (fun _ _ => rfl)))
      (pss_cons (ps_expr (pcal C_hand_on hr (by omega) rfl (takes_of rfl rfl rfl rfl) (pa_cons (pv 0) (pa_cons (pv 3) pa_nil))))
      (pss_cons (ps_expr (pcal C_hand_on hr (by omega) rfl (takes_of rfl rfl rfl rfl) (pa_cons (pv 0) (pa_cons (pv 1) pa_nil))))
      (pss_cons (ps_expr (pcal C_take_place hr (by omega) rfl (takes_of rfl rfl rfl rfl) (pa_cons (pv 0) (pa_cons (pv 1) (pa_cons (pv 3) pa_nil)))))
      (pss_cons (ps_if (pt_cmpR (op_eqM (K := g.K) rfl hr.units) (pe_fldK (K := g.K) rfl (pv 4) rfl) (pv 1) (nomark _)) (pss_cons (ps_set (i := 5) sc_turn_up.nd rfl (Or.inl rfl) (pe_fldK (K := g.K) rfl (pv 2) rfl))
      (pss_cons (ps_fld (pv 4) (pv 5) rfl)
      (pss_one (ps_fld (pv 2) (pv 3) rfl)))) (pss_cons (ps_set (i := 5) sc_turn_up.nd rfl (Or.inl rfl) (pe_fldK (K := g.K) rfl (pv 2) rfl))
      (pss_cons (ps_fld (pv 4) (pv 5) rfl)
      (pss_one (ps_fld (pv 2) (pv 3) rfl)))))
      (pss_cons (ps_fld (pv 4) (pv 1) rfl)
      (pss_one (ps_if (pt_cmpR op_notN (pv 5) pe_non (nomark _)) (pss_cons (ps_set (i := 6) sc_turn_up.nd rfl (Or.inl rfl) (pe_ix (ix_M (K := g.K) rfl) (pv 0) (pv 5) (fun _ _ => rfl)))
      (pss_one (ps_fld (pv 6) (pv 3) rfl))) pss_nil)))))))))))
    ((ss_seq (ss_asgG (se_op ix_ok se_var se_var) sg_name)
      (ss_seq (ss_asgG (se_fld Z.FO se_var) sg_name)
      (ss_seq (ss_asgG (se_op ix_ok se_var se_var) sg_name)
      (ss_seq (ss_drop (se_def (sa_cons se_var (sa_cons se_var sa_nil))))
      (ss_seq (ss_drop (se_def (sa_cons se_var (sa_cons se_var sa_nil))))
      (ss_seq (ss_drop (se_def (sa_cons se_var (sa_cons se_var (sa_cons se_var sa_nil)))))
      (ss_seq (ss_ifS (st_test (se_op eq_ok (se_fld Z.FO se_var) se_var)) (ss_seq (ss_asgG (se_fld Z.FO se_var) sg_name)
      (ss_seq (ss_setF Z.FO se_var se_var)
      (ss_setF Z.FO se_var se_var))) (ss_seq (ss_asgG (se_fld Z.FO se_var) sg_name)
      (ss_seq (ss_setF Z.FO se_var se_var)
      (ss_setF Z.FO se_var se_var))))
      (ss_seq (ss_setF Z.FO se_var se_var)
      (ss_ifS (st_test (se_op notN_okR se_var se_non)) (ss_seq (ss_asgG (se_op ix_ok se_var se_var) sg_name)
      (ss_setF Z.FO se_var se_var)) ss_next)))))))))) h

end
end W3
namespace W3
open PySem PySem.Spec PyProof.Rows L2 M3
section
variable {P : Program} {w : World} {g : G} {mg : Str → Option Value} {base : Heap} {f_eBadForest f_eNoHouse f_eNoShape f_eNoTurn f_iForest f_iStand : Addr}
theorem ok_L_value (D : M3.Def g.K mg "_law_value" s_L_value ["_law_hand_here"]) (T : Txt mg) (Z : Fx g w mg f_eBadForest f_eNoHouse f_eNoShape f_eNoTurn f_iForest f_iStand) (C_L_draw : M3.Cal P w g.K mg base 1 "_law_draw" ["_law_hand_here", "_law_many_here"] (spM g.K 2 (mScope (m_L_draw g)))) : M3.Cal P w g.K mg base 2 "_law_value" ["_law_hand_here"] (spM g.K 1 (mScope (m_L_value g))) := by
  refine M3.Cal.imp (D.cal (sp := (spM g.K 1 (m_L_value g))) sc_L_value (spM_len rfl) (fun f cdv A outer s H vs Q E hr h => ?_)) scope_ok
  exact body_all (N := ["_law_hand_here", "_law_kind"]) (E := E) ((pss_cons (ps_set (i := 1) sc_L_value.nd rfl (Or.inl rfl) (pcal C_L_draw hr (by omega) rfl (takes_of rfl rfl rfl rfl) (pa_cons (pv 0) (pa_cons pe_int pa_nil))))
      (pss_cons (ps_if (pt_cmpR (op_eqM (K := g.K) rfl hr.units) (pv 1) pe_int (nomark _)) (pss_one (ps_ret (pe_ix (ix_M (K := g.K) rfl) ((pe_lst (pa_cons (pe_op op_pow pe_int pe_int) (pa_cons (pe_op op_sub pe_int (pe_op op_pow pe_int pe_int)) (pa_cons (pe_op op_pow pe_int pe_int) (pa_cons (pe_un un_neg pe_int) (pa_cons pe_int (pa_cons (pe_op op_pow pe_int pe_int) pa_nil)))))))) (pcal C_L_draw hr (by omega) rfl (takes_of rfl rfl rfl rfl) (pa_cons (pv 0) (pa_cons pe_int pa_nil))) (fun _ _ => rfl)))) pss_nil)
      (pss_one (ps_ret (pe_op op_sub (pcal C_L_draw hr (by omega) rfl (takes_of rfl rfl rfl rfl) (pa_cons (pv 0) (pa_cons pe_int pa_nil))) pe_int))))))
    ((ss_seq (ss_asgG (se_def (sa_cons se_var (sa_cons se_int sa_nil))) sg_name)
      (ss_seq (ss_ifS (st_test (se_op eq_ok se_var se_int)) (ss_ret (se_op ix_ok (se_frz (sl_lst (sa_cons (se_op pow_ok se_int se_int) (sa_cons (se_op sub_ok se_int (se_op pow_ok se_int se_int)) (sa_cons (se_op pow_ok se_int se_int) (sa_cons (se_un neg_ok se_int) (sa_cons se_int (sa_cons (se_op pow_ok se_int se_int) sa_nil)))))))) (se_def (sa_cons se_var (sa_cons se_int sa_nil))))) ss_next)
      (ss_ret (se_op sub_ok (se_def (sa_cons se_var (sa_cons se_int sa_nil))) se_int))))) h

end
end W3
namespace W3
open PySem PySem.Spec PyProof.Rows L2 M3
section
variable {P : Program} {w : World} {g : G} {mg : Str → Option Value} {base : Heap} {f_eBadForest f_eNoHouse f_eNoShape f_eNoTurn f_iForest f_iStand : Addr}
theorem ok_L_many (D : M3.Def g.K mg "_law_many" s_L_many ["_law_hand_here", "_law_most"]) (T : Txt mg) (Z : Fx g w mg f_eBadForest f_eNoHouse f_eNoShape f_eNoTurn f_iForest f_iStand) (C_L_draw : M3.Cal P w g.K mg base 1 "_law_draw" ["_law_hand_here", "_law_many_here"] (spM g.K 2 (mScope (m_L_draw g)))) : M3.Cal P w g.K mg base 2 "_law_many" ["_law_hand_here", "_law_most"] (spM g.K 2 (mScope (m_L_many g))) := by
  refine M3.Cal.imp (D.cal (sp := (spM g.K 2 (m_L_many g))) sc_L_many (spM_len rfl) (fun f cdv A outer s H vs Q E hr h => ?_)) scope_ok
  exact body_all (N := ["_law_hand_here", "_law_most"]) (E := E) ((pss_cons (ps_if (pt_cmpR (op_eqM (K := g.K) rfl hr.units) (pcal C_L_draw hr (by omega) rfl (takes_of rfl rfl rfl rfl) (pa_cons (pv 0) (pa_cons pe_int pa_nil))) pe_int (nomark _)) (pss_one (ps_ret (pe_ix (ix_M (K := g.K) rfl) ((pe_lst (pa_cons pe_int (pa_cons pe_int (pa_cons pe_int (pa_cons pe_int (pa_cons pe_int pa_nil))))))) (pcal C_L_draw hr (by omega) rfl (takes_of rfl rfl rfl rfl) (pa_cons (pv 0) (pa_cons pe_int pa_nil))) (fun _ _ => rfl)))) pss_nil)
      (pss_one (ps_ret (pe_op (op_addM (K := g.K) rfl) pe_int (pcal C_L_draw hr (by omega) rfl (takes_of rfl rfl rfl rfl) (pa_cons (pv 0) (pa_cons (pv 1) pa_nil))))))))
    ((ss_seq (ss_ifS (st_test (se_op eq_ok (se_def (sa_cons se_var (sa_cons se_int sa_nil))) se_int)) (ss_ret (se_op ix_ok (se_frz (sl_lst (sa_cons se_int (sa_cons se_int (sa_cons se_int (sa_cons se_int (sa_cons se_int sa_nil))))))) (se_def (sa_cons se_var (sa_cons se_int sa_nil))))) ss_next)
      (ss_ret (se_op add_ok se_int (se_def (sa_cons se_var (sa_cons se_var sa_nil))))))) h

end
end W3
namespace W3
open PySem PySem.Spec PyProof.Rows L2 M3
section
variable {P : Program} {w : World} {g : G} {mg : Str → Option Value} {base : Heap} {f_eBadForest f_eNoHouse f_eNoShape f_eNoTurn f_iForest f_iStand : Addr}
theorem ok_L_shuffled (D : M3.Def g.K mg "_law_shuffled" s_L_shuffled ["_law_hand_here", "_law_many_here"]) (T : Txt mg) (Z : Fx g w mg f_eBadForest f_eNoHouse f_eNoShape f_eNoTurn f_iForest f_iStand) (C_L_draw : M3.Cal P w g.K mg base 1 "_law_draw" ["_law_hand_here", "_law_many_here"] (spM g.K 2 (mScope (m_L_draw g)))) : M3.Cal P w g.K mg base 2 "_law_shuffled" ["_law_hand_here", "_law_many_here"] (spM g.K 2 (mScope (m_L_shuffled g))) := by
  refine M3.Cal.imp (D.cal (sp := (spM g.K 2 (m_L_shuffled g))) sc_L_shuffled (spM_len rfl) (fun f cdv A outer s H vs Q E hr h => ?_)) scope_ok
  exact body_all (N := ["_law_hand_here", "_law_many_here", "_law_found", "_law_at", "_law_other"]) (E := E) ((pss_cons (ps_set (i := 2) sc_L_shuffled.nd rfl (Or.inl rfl) (pe_listRg rfl (by rfl) T.n_list (prg_1 (by rfl) T.n_range (pv 1))))
      (pss_cons (ps_for (passes_of rfl) rfl (pi_range1 rfl T.n_range (pa_cons (pv 1) pa_nil)) (pg_name (i := 3) sc_L_shuffled.nd rfl (Or.inl rfl)) (pss_cons (ps_set (i := 4) sc_L_shuffled.nd rfl (Or.inl rfl) (pe_op (op_addM (K := g.K) rfl) (pv 3) (pcal C_L_draw hr (by omega) rfl (takes_of rfl rfl rfl rfl) (pa_cons (pv 0) (pa_cons (pe_op op_sub (pv 1) (pv 3)) pa_nil)))))
      (pss_one (ps_asg (pe_tup (pa_cons (pe_ix (ix_M (K := g.K) rfl) (pv 2) (pv 4) (fun _ _ => rfl)) (pa_cons (pe_ix (ix_M (K := g.K) rfl) (pv 2) (pv 3) (fun _ _ => rfl)) pa_nil))) (pg_tup rfl (pgs_cons (pg_sub (pv 2) (pv 3) set_list) (pgs_cons (pg_sub (pv 2) (pv 4) set_list) pgs_nil)))))))
      (pss_one (ps_ret (pv 2))))))
    ((ss_seq (ss_asgG (se_trk (sl_listRg1 se_var)) sg_name)
      (ss_seq (ss_for (si_rng1 (sa_cons se_var sa_nil)) sg_name (ss_seq (ss_asgG (se_op add_ok se_var (se_def (sa_cons se_var (sa_cons (se_op sub_ok se_var se_var) sa_nil)))) sg_name)
      (ss_asgG (se_tup (sa_cons (se_op ix_ok se_var se_var) (sa_cons (se_op ix_ok se_var se_var) sa_nil))) (sg_tup (sgs_cons (fun _ _ => rfl) (sg_sub se_var se_var) (sgs_cons (fun _ _ => rfl) (sg_sub se_var se_var) sgs_nil))))))
      (ss_ret se_var)))) h

end
end W3
namespace W3
open PySem PySem.Spec PyProof.Rows L2 M3
section
variable {P : Program} {w : World} {g : G} {mg : Str → Option Value} {base : Heap} {f_eBadForest f_eNoHouse f_eNoShape f_eNoTurn f_iForest f_iStand : Addr}
theorem ok_L_tops (D : M3.Def g.K mg "_law_tops" s_L_tops ["_law_shape_here"]) (T : Txt mg) (Z : Fx g w mg f_eBadForest f_eNoHouse f_eNoShape f_eNoTurn f_iForest f_iStand) (C_L_is_son : M3.Cal P w g.K mg base 1 "_law_is_son" ["_law_shape_here", "_law_house_here"] (spM g.K 2 (mPure (m_L_is_son g)))) : M3.Cal P w g.K mg base 2 "_law_tops" ["_law_shape_here"] (spM g.K 1 (mPure (m_L_tops g))) := by
  refine M3.Cal.imp (D.cal (sp := (spM g.K 1 (m_L_tops g))) sc_L_tops (spM_len rfl) (fun f cdv A outer s H vs Q E hr h => ?_)) pure_ok
  exact body_all (N := ["_law_shape_here", "_law_house_here"]) (E := E) ((pss_one (ps_ret ((pe_lc (own := [("_law_house_here", 1)]) (g := (gName 1)) (by rfl) sc_L_tops.nd (pi_range1 rfl T.n_range (pa_cons (pe_callB (call_lenM (K := g.K) rfl) (by rfl) T.n_len PySem.boot_len (pa_cons (pv 0) pa_nil)) pa_nil)) (blkOk_by (own := [("_law_house_here", 1)]) (N := ["_law_shape_here", "_law_house_here"]) (sc := defScope s_L_tops) (by decide +kernel)) (fun _ _ _ _ _ => (pg_name (i := 1) sc_L_tops.nd rfl (Or.inl rfl))) (fun _ _ _ _ _ => pts_one (pt_not (pt_val (pcalF C_L_is_son hr (by omega) rfl (pa_cons (pv 0) (pa_cons (pv 1) pa_nil)))))) (fun _ _ _ _ _ => (pv 1)))))))
    ((ss_ret (se_frz (sl_lc (si_rng1 (sa_cons (se_call len_ok (sa_cons se_var sa_nil)) sa_nil)) (sgv_name (by decide)) (st_not (st_tst (se_defF (sa_cons se_var (sa_cons se_var sa_nil))))) se_var)))) h

end
end W3
namespace W3
open PySem PySem.Spec PyProof.Rows L2 M3
section
variable {P : Program} {w : World} {g : G} {mg : Str → Option Value} {base : Heap} {f_eBadForest f_eNoHouse f_eNoShape f_eNoTurn f_iForest f_iStand : Addr}
theorem ok_L_turn_up (D : M3.Def g.K mg "_law_turn_up" s_L_turn_up ["_law_shape_here", "_law_house_here"]) (T : Txt mg) (Z : Fx g w mg f_eBadForest f_eNoHouse f_eNoShape f_eNoTurn f_iForest f_iStand) (C_L_hand_on : M3.Cal P w g.K mg base 1 "_law_hand_on" ["_law_shape_here", "_law_house_here"] (spM g.K 2 (mScope (m_L_hand_on g)))) : M3.Cal P w g.K mg base 2 "_law_turn_up" ["_law_shape_here", "_law_house_here"] (spM g.K 2 (mScope (m_L_turn_up g))) := by
  refine M3.Cal.imp (D.cal (sp := (spM g.K 2 (m_L_turn_up g))) sc_L_turn_up (spM_len rfl) (fun f cdv A outer s H vs Q E hr h => ?_)) scope_ok
  exact body_all (N := ["_law_shape_here", "_law_house_here", "_law_up", "_law_mine", "_law_theirs", "_law_above", "_law_far", "_law_side", "_law_moved", "_law_son"]) (E := E) ((pss_cons (ps_set (i := 2) sc_L_turn_up.nd rfl (Or.inl rfl) (pe_ix (ix_M (K := g.K) rfl) (pe_ix (ix_M (K := g.K) rfl) (pv 0) (pv 1) (fun _ _ => rfl)) pe_int (fun _ _ => rfl)))
      (pss_cons (ps_expr (pcal C_L_hand_on hr (by omega) rfl (takes_of rfl rfl rfl rfl) (pa_cons (pv 0) (pa_cons (pv 2) pa_nil))))
      (pss_cons (ps_expr (pcal C_L_hand_on hr (by omega) rfl (takes_of rfl rfl rfl rfl) (pa_cons (pv 0) (pa_cons (pv 1) pa_nil))))
      (pss_cons (ps_set (i := 3) sc_L_turn_up.nd rfl (Or.inl rfl) (pe_ix (ix_M (K := g.K) rfl) (pv 0) (pv 1) (fun _ _ => rfl)))
      (pss_cons (ps_set (i := 4) sc_L_turn_up.nd rfl (Or.inl rfl) (pe_ix (ix_M (K := g.K) rfl) (pv 0) (pv 2) (fun _ _ => rfl)))
      (pss_cons (ps_set (i := 5) sc_L_turn_up.nd rfl (Or.inl rfl) (pe_ix (ix_M (K := g.K) rfl) (pv 4) pe_int (fun _ _ => rfl)))
      (pss_cons (ps_if (pt_cmpR op_notN (pv 5) pe_non (nomark _)) (pss_cons (ps_set (i := 6) sc_L_turn_up.nd rfl (Or.inl rfl) (pe_ix (ix_M (K := g.K) rfl) (pv 0) (pv 5) (fun _ _ => rfl)))
      (pss_one (ps_if (pt_cmpR (op_eqM (K := g.K) rfl hr.units) (pe_ix (ix_M (K := g.K) rfl) (pv 6) pe_int (fun _ _ => rfl)) (pv 2) (nomark _)) (pss_one (ps_asg (pv 1) (pg_sub (pv 6) pe_int set_list))) (pss_one (ps_if (pt_cmpR (op_eqM (K := g.K) rfl hr.units) (pe_ix (ix_M (K := g.K) rfl) (pv 6) pe_int (fun _ _ => rfl)) (pv 2) (nomark _)) (pss_one (ps_asg (pv 1) (pg_sub (pv 6) pe_int set_list))) pss_nil))))) pss_nil)
      (pss_cons (ps_set (i := 7) sc_L_turn_up.nd rfl (Or.inl rfl) (pe_ifExp (pt_cmpR (op_eqM (K := g.K) rfl hr.units) (pe_ix (ix_M (K := g.K) rfl) (pv 4) pe_int (fun _ _ => rfl)) (pv 1) (nomark _)) pe_int pe_int))
      (pss_cons (ps_set (i := 8) sc_L_turn_up.nd rfl (Or.inl rfl) (pe_ix (ix_M (K := g.K) rfl) (pv 3) (pv 7) (fun _ _ => rfl)))
      (pss_cons (ps_asg (pv 5) (pg_sub (pv 3) pe_int set_list))
      (pss_cons (ps_asg (pv 2) (pg_sub (pv 3) (pv 7) set_list))
      (pss_cons (ps_asg (pv 1) (pg_sub (pv 4) pe_int set_list))
      (pss_cons (ps_asg (pv 8) (pg_sub (pv 4) (pe_op op_sub pe_int (pv 7)) set_list))
      (pss_one (ps_if (pt_cmpR op_notN (pv 8) pe_non (nomark _)) (pss_cons (ps_set (i := 9) sc_L_turn_up.nd rfl (Or.inl rfl) (pe_ix (ix_M (K := g.K) rfl) (pv 0) (pv 8) (fun _ _ => rfl)))
      (pss_one (ps_asg (pv 2) (pg_sub (pv 9) pe_int set_list)))) pss_nil))))))))))))))))
    ((ss_seq (ss_asgG (se_op ix_ok (se_op ix_ok se_var se_var) se_int) sg_name)
      (ss_seq (ss_drop (se_def (sa_cons se_var (sa_cons se_var sa_nil))))
      (ss_seq (ss_drop (se_def (sa_cons se_var (sa_cons se_var sa_nil))))
      (ss_seq (ss_asgG (se_op ix_ok se_var se_var) sg_name)
      (ss_seq (ss_asgG (se_op ix_ok se_var se_var) sg_name)
      (ss_seq (ss_asgG (se_op ix_ok se_var se_int) sg_name)
      (ss_seq (ss_ifS (st_test (se_op notN_okR se_var se_non)) (ss_seq (ss_asgG (se_op ix_ok se_var se_var) sg_name)
      (ss_ifS (st_test (se_op eq_ok (se_op ix_ok se_var se_int) se_var)) (ss_asgG se_var (sg_sub se_var se_int)) (ss_ifS (st_test (se_op eq_ok (se_op ix_ok se_var se_int) se_var)) (ss_asgG se_var (sg_sub se_var se_int)) ss_next))) ss_next)
      (ss_seq (ss_asgG (se_if (st_test (se_op eq_ok (se_op ix_ok se_var se_int) se_var)) se_int se_int) sg_name)
      (ss_seq (ss_asgG (se_op ix_ok se_var se_var) sg_name)
      (ss_seq (ss_asgG se_var (sg_sub se_var se_int))
      (ss_seq (ss_asgG se_var (sg_sub se_var se_var))
      (ss_seq (ss_asgG se_var (sg_sub se_var se_int))
      (ss_seq (ss_asgG se_var (sg_sub se_var (se_op sub_ok se_int se_var)))
      (ss_ifS (st_test (se_op notN_okR se_var se_non)) (ss_seq (ss_asgG (se_op ix_ok se_var se_var) sg_name)
      (ss_asgG se_var (sg_sub se_var se_int))) ss_next))))))))))))))) h

end
end W3
namespace W3
open PySem PySem.Spec PyProof.Rows L2 M3
section
variable {P : Program} {w : World} {g : G} {mg : Str → Option Value} {base : Heap} {f_eBadForest f_eNoHouse f_eNoShape f_eNoTurn f_iForest f_iStand : Addr}
theorem ok_is_house (D : M3.Def g.K mg "is_house" s_is_house ["many", "thing"]) (T : Txt mg) (Z : Fx g w mg f_eBadForest f_eNoHouse f_eNoShape f_eNoTurn f_iForest f_iStand) (C_is_between : M3.Cal P w g.K mg base 2 "is_between" ["least", "most", "thing"] (spM g.K 3 (mPure (m_is_between g)))) : M3.Cal P w g.K mg base 3 "is_house" ["many", "thing"] (spM g.K 2 (mPure (m_is_house g))) := by
  refine M3.Cal.imp (D.cal (sp := (spM g.K 2 (m_is_house g))) sc_is_house (spM_len rfl) (fun f cdv A outer s H vs Q E hr h => ?_)) pure_ok
  exact body_all (N := ["many", "thing"]) (E := E) ((pss_one (ps_ret (pcal C_is_between hr (by omega) rfl (takes_of rfl rfl rfl rfl) (pa_cons pe_int (pa_cons (pe_op op_sub (pv 0) pe_int) (pa_cons (pv 1) pa_nil)))))))
    ((ss_ret (se_def (sa_cons se_int (sa_cons (se_op sub_ok se_var se_int) (sa_cons se_var sa_nil)))))) h

end
end W3
namespace W3
open PySem PySem.Spec PyProof.Rows L2 M3
section
variable {P : Program} {w : World} {g : G} {mg : Str → Option Value} {base : Heap} {f_eBadForest f_eNoHouse f_eNoShape f_eNoTurn f_iForest f_iStand : Addr}
theorem ok_is_many (D : M3.Def g.K mg "is_many" s_is_many ["thing"]) (T : Txt mg) (Z : Fx g w mg f_eBadForest f_eNoHouse f_eNoShape f_eNoTurn f_iForest f_iStand) (C_is_between : M3.Cal P w g.K mg base 2 "is_between" ["least", "most", "thing"] (spM g.K 3 (mPure (m_is_between g)))) : M3.Cal P w g.K mg base 3 "is_many" ["thing"] (spM g.K 1 (mPure (m_is_many g))) := by
  obtain ⟨tk_MOST_HOUSES, h_MOST_HOUSES⟩ := T.c_MOST_HOUSES
  refine M3.Cal.imp (D.cal (sp := (spM g.K 1 (m_is_many g))) sc_is_many (spM_len rfl) (fun f cdv A outer s H vs Q E hr h => ?_)) pure_ok
  exact body_all (N := ["thing"]) (E := E) ((pss_one (ps_ret (pcal C_is_between hr (by omega) rfl (takes_of rfl rfl rfl rfl) (pa_cons pe_int (pa_cons (pe_glob (v := .int 64) rfl h_MOST_HOUSES ⟨_, rfl⟩) (pa_cons (pv 0) pa_nil)))))))
    ((ss_ret (se_def (sa_cons se_int (sa_cons se_int (sa_cons se_var sa_nil)))))) h

end
end W3
namespace W3
open PySem PySem.Spec PyProof.Rows L2 M3
section
variable {P : Program} {w : World} {g : G} {mg : Str → Option Value} {base : Heap} {f_eBadForest f_eNoHouse f_eNoShape f_eNoTurn f_iForest f_iStand : Addr}
theorem ok_told_worths (D : M3.Def g.K mg "told_worths" s_told_worths ["stands"]) (T : Txt mg) (Z : Fx g w mg f_eBadForest f_eNoHouse f_eNoShape f_eNoTurn f_iForest f_iStand) (C_told_worth : M3.Cal P w g.K mg base 2 "_told_worth" ["stands", "house"] (spM g.K 2 (mScope (m_told_worth g)))) : M3.Cal P w g.K mg base 3 "told_worths" ["stands"] (spM g.K 1 (mScope (m_told_worths g))) := by
  refine M3.Cal.imp (D.cal (sp := (spM g.K 1 (m_told_worths g))) sc_told_worths (spM_len rfl) (fun f cdv A outer s H vs Q E hr h => ?_)) scope_ok
  exact body_all (N := ["stands", "house"]) (E := E) ((pss_one (ps_ret (pe_callTy (call_tupM (K := g.K) rfl) (by rfl) T.n_tuple (by decide +kernel) (pa_cons ((pe_lc (own := [("house", 1)]) (g := (gName 1)) (tt := tYes) (by rfl) sc_told_worths.nd (pi_range1 rfl T.n_range (pa_cons (pe_callB (call_lenM (K := g.K) rfl) (by rfl) T.n_len PySem.boot_len (pa_cons (pv 0) pa_nil)) pa_nil)) (blkOk_by (own := [("house", 1)]) (N := ["stands", "house"]) (sc := defScope s_told_worths) (by decide +kernel)) (fun _ _ _ _ _ => (pg_name (i := 1) sc_told_worths.nd rfl (Or.inl rfl))) (fun _ _ _ _ _ => pts_nil) (fun _ _ _ _ _ => (pcalF C_told_worth hr (by omega) rfl (pa_cons (pv 0) (pa_cons (pv 1) pa_nil)))))) pa_nil)))))
    ((ss_ret (se_call tuple_ok (sa_cons (se_frz (sl_lc (si_rng1 (sa_cons (se_call len_ok (sa_cons se_var sa_nil)) sa_nil)) (sgv_name (by decide)) st_yes (se_defF (sa_cons se_var (sa_cons se_var sa_nil))))) sa_nil)))) h

end
end W3
namespace W3
open PySem PySem.Spec PyProof.Rows L2 M3
section
variable {P : Program} {w : World} {g : G} {mg : Str → Option Value} {base : Heap} {f_eBadForest f_eNoHouse f_eNoShape f_eNoTurn f_iForest f_iStand : Addr}
theorem ok_L_shape (D : M3.Def g.K mg "_law_shape" s_L_shape ["_law_hand_here", "_law_many_here"]) (T : Txt mg) (Z : Fx g w mg f_eBadForest f_eNoHouse f_eNoShape f_eNoTurn f_iForest f_iStand) (C_L_draw : M3.Cal P w g.K mg base 1 "_law_draw" ["_law_hand_here", "_law_many_here"] (spM g.K 2 (mScope (m_L_draw g)))) (C_L_house : M3.Cal P w g.K mg base 1 "_law_house" ["_law_up", "_law_value_here"] (spM g.K 2 (m_L_house g))) (C_L_value : M3.Cal P w g.K mg base 2 "_law_value" ["_law_hand_here"] (spM g.K 1 (mScope (m_L_value g)))) (C_L_shuffled : M3.Cal P w g.K mg base 2 "_law_shuffled" ["_law_hand_here", "_law_many_here"] (spM g.K 2 (mScope (m_L_shuffled g)))) : M3.Cal P w g.K mg base 3 "_law_shape" ["_law_hand_here", "_law_many_here"] (spM g.K 2 (mScope (m_L_shape g))) := by
  refine M3.Cal.imp (D.cal (sp := (spM g.K 2 (m_L_shape g))) sc_L_shape (spM_len rfl) (fun f cdv A outer s H vs Q E hr h => ?_)) scope_ok
  exact body_all (N := ["_law_hand_here", "_law_many_here", "_law_order_here", "_law_found", "_law_house_here", "_law_kind", "_law_at", "_law_mine", "_law_other", "_law_theirs", "_law_side", "_law_row"]) (E := E) ((pss_cons (ps_set (i := 2) sc_L_shape.nd rfl (Or.inl rfl) (pcal C_L_shuffled hr (by omega) rfl (takes_of rfl rfl rfl rfl) (pa_cons (pv 0) (pa_cons (pv 1) pa_nil))))
      (pss_cons (ps_setLc (i := 3) (own := [("_law_house_here", 4)]) (g := (gName 4)) (tt := tYes) (by rfl) sc_L_shape.nd rfl rfl (sw_true rfl rfl rfl (by decide +kernel)) (pi_range1 rfl T.n_range (pa_cons (pv 1) pa_nil)) (blkOk_by (own := [("_law_house_here", 4)]) (N := ["_law_hand_here", "_law_many_here", "_law_order_here", "_law_found", "_law_house_here", "_law_kind", "_law_at", "_law_mine", "_law_other", "_law_theirs", "_law_side", "_law_row"]) (sc := defScope s_L_shape) (by decide +kernel)) (fun _ _ _ _ _ => (pg_name (i := 4) sc_L_shape.nd rfl (Or.inl rfl))) (fun _ _ _ _ _ => pts_nil) (fun _ _ _ _ _ => (pcalF C_L_house hr (by omega) rfl (pa_cons pe_non (pa_cons (pcalF C_L_value hr (by omega) rfl (pa_cons (pv 0) pa_nil)) pa_nil)))))
      (pss_cons (ps_set (i := 5) sc_L_shape.nd rfl (Or.inl rfl) (pcal C_L_draw hr (by omega) rfl (takes_of rfl rfl rfl rfl) (pa_cons (pv 0) (pa_cons pe_int pa_nil))))
      (pss_cons (ps_for (passes_of rfl) rfl (pi_range1 rfl T.n_range (pa_cons (pv 1) pa_nil)) (pg_name (i := 6) sc_L_shape.nd rfl (Or.inl rfl)) (pss_cons (ps_set (i := 7) sc_L_shape.nd rfl (Or.inl rfl) (pe_ix (ix_M (K := g.K) rfl) (pv 3) (pe_ix (ix_M (K := g.K) rfl) (pv 2) (pv 6) (fun _ _ => rfl)) (fun _ _ => rfl)))
      (pss_cons (ps_asg (pe_cmpR (op_eqM (K := g.K) rfl hr.units) (pcal C_L_draw hr (by omega) rfl (takes_of rfl rfl rfl rfl) (pa_cons (pv 0) (pa_cons pe_int pa_nil))) pe_int (nomark _)) (pg_sub (pv 7) pe_int set_list))
      (pss_cons (ps_asg (pe_ix (ix_M (K := g.K) rfl) ((pe_lst (pa_cons pe_int (pa_cons pe_int (pa_cons pe_int (pa_cons pe_int (pa_cons (pe_un un_neg pe_int) (pa_cons (pe_op op_pow pe_int pe_int) pa_nil)))))))) (pcal C_L_draw hr (by omega) rfl (takes_of rfl rfl rfl rfl) (pa_cons (pv 0) (pa_cons pe_int pa_nil))) (fun _ _ => rfl)) (pg_sub (pv 7) pe_int set_list))
      (pss_one (ps_if (pt_cmpR op_gt (pv 6) pe_int (nomark _)) (pss_cons (ps_set (i := 8) sc_L_shape.nd rfl (Or.inl rfl) (pe_ix (ix_M (K := g.K) rfl) (pv 2) (pe_op op_sub (pe_op op_sub (pv 6) pe_int) (pcal C_L_draw hr (by omega) rfl (takes_of rfl rfl rfl rfl) (pa_cons (pv 0) (pa_cons (pe_ix (ix_M (K := g.K) rfl) ((pe_lst (pa_cons (pv 6) (pa_cons (pe_callB (call_minM (K := g.K) rfl rfl) (by rfl) T.n_min (by decide +kernel) (pa_cons (pv 6) (pa_cons pe_int pa_nil))) (pa_cons pe_int (pa_cons (pv 6) pa_nil)))))) (pv 5) (fun _ _ => rfl)) pa_nil)))) (fun _ _ => rfl)))
      (pss_cons (ps_set (i := 9) sc_L_shape.nd rfl (Or.inl rfl) (pe_ix (ix_M (K := g.K) rfl) (pv 3) (pv 8) (fun _ _ => rfl)))
      (pss_cons (ps_set (i := 10) sc_L_shape.nd rfl (Or.inl rfl) (pe_op (op_addM (K := g.K) rfl) pe_int (pcal C_L_draw hr (by omega) rfl (takes_of rfl rfl rfl rfl) (pa_cons (pv 0) (pa_cons pe_int pa_nil)))))
      (pss_one (ps_if (pt_cmpR op_gt (pcal C_L_draw hr (by omega) rfl (takes_of rfl rfl rfl rfl) (pa_cons (pv 0) (pa_cons pe_int pa_nil))) pe_int (nomark _)) (pss_cons (ps_asg (pv 8) (pg_sub (pv 7) pe_int set_list))
      (pss_one (ps_if (PW.pt (pw_and (pt_cmpR op_isN (pe_ix (ix_M (K := g.K) rfl) (pv 9) (pv 10) (fun _ _ => rfl)) pe_non (nomark _)) (pw_and1 (pt_cmpR op_gt (pcal C_L_draw hr (by omega) rfl (takes_of rfl rfl rfl rfl) (pa_cons (pv 0) (pa_cons pe_int pa_nil))) pe_int (nomark _))))) (pss_one (ps_asg (pe_ix (ix_M (K := g.K) rfl) (pv 2) (pv 6) (fun _ _ => rfl)) (pg_sub (pv 9) (pv 10) set_list))) pss_nil))) pss_nil))))) pss_nil))))))
      (pss_one (ps_ret (pe_callTy (call_tupM (K := g.K) rfl) (by rfl) T.n_tuple (by decide +kernel) (pa_cons ((pe_lc (own := [("_law_row", 11)]) (g := (gName 11)) (tt := tYes) (by rfl) sc_L_shape.nd (pi_M (K := g.K) rfl (pv 3)) (blkOk_by (own := [("_law_row", 11)]) (N := ["_law_hand_here", "_law_many_here", "_law_order_here", "_law_found", "_law_house_here", "_law_kind", "_law_at", "_law_mine", "_law_other", "_law_theirs", "_law_side", "_law_row"]) (sc := defScope s_L_shape) (by decide +kernel)) (fun _ _ _ _ _ => (pg_name (i := 11) sc_L_shape.nd rfl (Or.inl rfl))) (fun _ _ _ _ _ => pts_nil) (fun _ _ _ _ _ => (pe_callTy (call_tupM (K := g.K) rfl) (by rfl) T.n_tuple (by decide +kernel) (pa_cons (pv 11) pa_nil))))) pa_nil)))))))))
    ((ss_seq (ss_asgG (se_def (sa_cons se_var (sa_cons se_var sa_nil))) sg_name)
      (ss_seq (ss_asgG (se_trk (sl_lc (si_rng1 (sa_cons se_var sa_nil)) (sgv_name (by decide)) st_yes (se_defF (sa_cons se_non (sa_cons (se_defF (sa_cons se_var sa_nil)) sa_nil))))) sg_name)
      (ss_seq (ss_asgG (se_def (sa_cons se_var (sa_cons se_int sa_nil))) sg_name)
      (ss_seq (ss_for (si_rng1 (sa_cons se_var sa_nil)) sg_name (ss_seq (ss_asgG (se_op ix_ok se_var (se_op ix_ok se_var se_var)) sg_name)
      (ss_seq (ss_asgG (se_op eq_ok (se_def (sa_cons se_var (sa_cons se_int sa_nil))) se_int) (sg_sub se_var se_int))
      (ss_seq (ss_asgG (se_op ix_ok (se_frz (sl_lst (sa_cons se_int (sa_cons se_int (sa_cons se_int (sa_cons se_int (sa_cons (se_un neg_ok se_int) (sa_cons (se_op pow_ok se_int se_int) sa_nil)))))))) (se_def (sa_cons se_var (sa_cons se_int sa_nil)))) (sg_sub se_var se_int))
      (ss_ifS (st_test (se_op gt_ok se_var se_int)) (ss_seq (ss_asgG (se_op ix_ok se_var (se_op sub_ok (se_op sub_ok se_var se_int) (se_def (sa_cons se_var (sa_cons (se_op ix_ok (se_frz (sl_lst (sa_cons se_var (sa_cons (se_call min_ok (sa_cons se_var (sa_cons se_int sa_nil))) (sa_cons se_int (sa_cons se_var sa_nil)))))) se_var) sa_nil))))) sg_name)
      (ss_seq (ss_asgG (se_op ix_ok se_var se_var) sg_name)
      (ss_seq (ss_asgG (se_op add_ok se_int (se_def (sa_cons se_var (sa_cons se_int sa_nil)))) sg_name)
      (ss_ifS (st_test (se_op gt_ok (se_def (sa_cons se_var (sa_cons se_int sa_nil))) se_int)) (ss_seq (ss_asgG se_var (sg_sub se_var se_int))
      (ss_ifS (st_and (st_test (se_op isN_okR (se_op ix_ok se_var se_var) se_non)) (st_test (se_op gt_ok (se_def (sa_cons se_var (sa_cons se_int sa_nil))) se_int))) (ss_asgG (se_op ix_ok se_var se_var) (sg_sub se_var se_var)) ss_next)) ss_next)))) ss_next)))))
      (ss_ret (se_call tuple_ok (sa_cons (se_frz (sl_lc (si_walk se_var) (sgv_name (by decide)) st_yes (se_call tuple_ok (sa_cons se_var sa_nil)))) sa_nil)))))))) h

end
end W3
namespace W3
open PySem PySem.Spec PyProof.Rows L2 M3
section
variable {P : Program} {w : World} {g : G} {mg : Str → Option Value} {base : Heap} {f_eBadForest f_eNoHouse f_eNoShape f_eNoTurn f_iForest f_iStand : Addr}
theorem ok_are_parents (D : M3.Def g.K mg "_are_parents" s_are_parents ["thing"]) (T : Txt mg) (Z : Fx g w mg f_eBadForest f_eNoHouse f_eNoShape f_eNoTurn f_iForest f_iStand) (C_come_to_roots : M3.Cal P w g.K mg base 1 "come_to_roots" ["parents"] (spM g.K 1 (mPure (m_come_to_roots g)))) (C_is_house : M3.Cal P w g.K mg base 3 "is_house" ["many", "thing"] (spM g.K 2 (mPure (m_is_house g)))) (C_is_many : M3.Cal P w g.K mg base 3 "is_many" ["thing"] (spM g.K 1 (mPure (m_is_many g)))) : M3.Cal P w g.K mg base 4 "_are_parents" ["thing"] (spM g.K 1 (mPure (m_are_parents g))) := by
  refine M3.Cal.imp (D.cal (sp := (spM g.K 1 (m_are_parents g))) sc_are_parents (spM_len rfl) (fun f cdv A outer s H vs Q E hr h => ?_)) pure_ok
  exact body_all (N := ["thing", "parent"]) (E := E) ((pss_cons (ps_if (PW.pt (pw_or (pt_not (pt_val (pe_callB (call_isiM (K := g.K) rfl) (by rfl) T.n_isinstance (by decide +kernel) (pa_cons (pv 0) (pa_cons (pe_bltn (v := .ty "tuple") (by rfl) T.n_tuple (by decide +kernel) rfl) pa_nil))))) (pw_or1 (pt_not (pt_val (pcal C_is_many hr (by omega) rfl (takes_of rfl rfl rfl rfl) (pa_cons (pe_callB (call_lenM (K := g.K) rfl) (by rfl) T.n_len PySem.boot_len (pa_cons (pv 0) pa_nil)) pa_nil))))))) (pss_one (ps_ret pe_bl)) pss_nil)
      (pss_cons (ps_if (pt_not (pt_val (pe_callB (call_allM (K := g.K) rfl rfl) (by rfl) T.n_all (by decide +kernel) (pa_cons ((pe_lc (own := [("parent", 1)]) (g := (gName 1)) (tt := tYes) (by rfl) sc_are_parents.nd (pi_M (K := g.K) rfl (pv 0)) (blkOk_by (own := [("parent", 1)]) (N := ["thing", "parent"]) (sc := defScope s_are_parents) (by decide +kernel)) (fun _ _ _ _ _ => (pg_name (i := 1) sc_are_parents.nd rfl (Or.inl rfl))) (fun _ _ _ _ _ => pts_nil) (fun _ _ _ _ _ => (pe_or (pe_cmpR op_isN (pv 1) pe_non (nomark _)) (pe_one (pcalF C_is_house hr (by omega) rfl (pa_cons (pe_callB (call_lenM (K := g.K) rfl) (by rfl) T.n_len PySem.boot_len (pa_cons (pv 0) pa_nil)) (pa_cons (pv 1) pa_nil)))))))) pa_nil)))) (pss_one (ps_ret pe_bl)) pss_nil)
      (pss_one (ps_ret (pcal C_come_to_roots hr (by omega) rfl (takes_of rfl rfl rfl rfl) (pa_cons (pv 0) pa_nil)))))))
    ((ss_seq (ss_ifS (st_or (st_not (st_tst (se_call (isi_ok Z.CSO) (sa_cons se_var (sa_cons se_con sa_nil))))) (st_not (st_tst (se_def (sa_cons (se_call len_ok (sa_cons se_var sa_nil)) sa_nil))))) (ss_ret se_bl) ss_next)
      (ss_seq (ss_ifS (st_not (st_tst (se_call all_ok (sa_cons (se_frz (sl_lc (si_walk se_var) (sgv_name (by decide)) st_yes (se_or (se_op isN_okR se_var se_non) (se_defF (sa_cons (se_call len_ok (sa_cons se_var sa_nil)) (sa_cons se_var sa_nil)))))) sa_nil)))) (ss_ret se_bl) ss_next)
      (ss_ret (se_def (sa_cons se_var sa_nil)))))) h

end
end W3
namespace W3
open PySem PySem.Spec PyProof.Rows L2 M3
section
variable {P : Program} {w : World} {g : G} {mg : Str → Option Value} {base : Heap} {f_eBadForest f_eNoHouse f_eNoShape f_eNoTurn f_iForest f_iStand : Addr}
theorem ok_is_part (D : M3.Def g.K mg "_is_part" s_is_part ["many", "thing"]) (T : Txt mg) (Z : Fx g w mg f_eBadForest f_eNoHouse f_eNoShape f_eNoTurn f_iForest f_iStand) (C_is_integer : M3.Cal P w g.K mg base 1 "is_integer" ["thing"] (spM g.K 1 (mPure (m_is_integer g)))) (C_is_house : M3.Cal P w g.K mg base 3 "is_house" ["many", "thing"] (spM g.K 2 (mPure (m_is_house g)))) : M3.Cal P w g.K mg base 4 "_is_part" ["many", "thing"] (spM g.K 2 (mPure (m_is_part g))) := by
  refine M3.Cal.imp (D.cal (sp := (spM g.K 2 (m_is_part g))) sc_is_part (spM_len rfl) (fun f cdv A outer s H vs Q E hr h => ?_)) pure_ok
  exact body_all (N := ["many", "thing", "near"]) (E := E) ((pss_cons (ps_if (PW.pt (pw_or (pt_not (pt_val (pe_callB (call_isiM (K := g.K) rfl) (by rfl) T.n_isinstance (by decide +kernel) (pa_cons (pv 1) (pa_cons (pe_bltn (v := .ty "tuple") (by rfl) T.n_tuple (by decide +kernel) rfl) pa_nil))))) (pw_or1 (pt_cmpR (op_neM (K := g.K) rfl hr.units) (pe_callB (call_lenM (K := g.K) rfl) (by rfl) T.n_len PySem.boot_len (pa_cons (pv 1) pa_nil)) pe_int (nomark _))))) (pss_one (ps_ret pe_bl)) pss_nil)
      (pss_cons (ps_if (pt_not (pt_val (pe_callB (call_allM (K := g.K) rfl rfl) (by rfl) T.n_all (by decide +kernel) (pa_cons ((pe_lc (own := [("near", 2)]) (g := (gName 2)) (tt := tYes) (by rfl) sc_is_part.nd (pi_M (K := g.K) rfl (pe_slice (sl_M (K := g.K) rfl) (pv 1) po_none (po_some pe_int))) (blkOk_by (own := [("near", 2)]) (N := ["many", "thing", "near"]) (sc := defScope s_is_part) (by decide +kernel)) (fun _ _ _ _ _ => (pg_name (i := 2) sc_is_part.nd rfl (Or.inl rfl))) (fun _ _ _ _ _ => pts_nil) (fun _ _ _ _ _ => (pe_or (pe_cmpR op_isN (pv 2) pe_non (nomark _)) (pe_one (pcalF C_is_house hr (by omega) rfl (pa_cons (pv 0) (pa_cons (pv 2) pa_nil)))))))) pa_nil)))) (pss_one (ps_ret pe_bl)) pss_nil)
      (pss_one (ps_ret (pe_and (pe_callB (call_isiM (K := g.K) rfl) (by rfl) T.n_isinstance (by decide +kernel) (pa_cons (pe_ix (ix_M (K := g.K) rfl) (pv 1) pe_int (fun _ _ => rfl)) (pa_cons (pe_bltn (v := .ty "bool") (by rfl) T.n_bool (by decide +kernel) rfl) pa_nil))) (pe_and (pcal C_is_integer hr (by omega) rfl (takes_of rfl rfl rfl rfl) (pa_cons (pe_ix (ix_M (K := g.K) rfl) (pv 1) pe_int (fun _ _ => rfl)) pa_nil)) (pe_one (pcal C_is_integer hr (by omega) rfl (takes_of rfl rfl rfl rfl) (pa_cons (pe_ix (ix_M (K := g.K) rfl) (pv 1) pe_int (fun _ _ => rfl)) pa_nil))))))))))
    ((ss_seq (ss_ifS (st_or (st_not (st_tst (se_call (isi_ok Z.CSO) (sa_cons se_var (sa_cons se_con sa_nil))))) (st_test (se_op ne_ok (se_call len_ok (sa_cons se_var sa_nil)) se_int))) (ss_ret se_bl) ss_next)
      (ss_seq (ss_ifS (st_not (st_tst (se_call all_ok (sa_cons (se_frz (sl_lc (si_walk (se_sl se_var so_none (so_some se_int))) (sgv_name (by decide)) st_yes (se_or (se_op isN_okR se_var se_non) (se_defF (sa_cons se_var (sa_cons se_var sa_nil)))))) sa_nil)))) (ss_ret se_bl) ss_next)
      (ss_ret (se_and (se_call (isi_ok Z.CSO) (sa_cons (se_op ix_ok se_var se_int) (sa_cons se_con sa_nil))) (se_and (se_def (sa_cons (se_op ix_ok se_var se_int) sa_nil)) (se_def (sa_cons (se_op ix_ok se_var se_int) sa_nil)))))))) h

end
end W3
namespace W3
open PySem PySem.Spec PyProof.Rows L2 M3
section
variable {P : Program} {w : World} {g : G} {mg : Str → Option Value} {base : Heap} {f_eBadForest f_eNoHouse f_eNoShape f_eNoTurn f_iForest f_iStand : Addr}
theorem ok_need_house (D : M3.Def g.K mg "need_house" s_need_house ["stands", "thing"]) (T : Txt mg) (Z : Fx g w mg f_eBadForest f_eNoHouse f_eNoShape f_eNoTurn f_iForest f_iStand) (C_is_house : M3.Cal P w g.K mg base 3 "is_house" ["many", "thing"] (spM g.K 2 (mPure (m_is_house g)))) : M3.Cal P w g.K mg base 4 "need_house" ["stands", "thing"] (spM g.K 2 (mScope (m_need_house g))) := by
  refine M3.Cal.imp (D.cal (sp := (spM g.K 2 (m_need_house g))) sc_need_house (spM_len rfl) (fun f cdv A outer s H vs Q E hr h => ?_)) scope_ok
  exact body_all (N := ["stands", "thing"]) (E := E) ((pss_one (ps_if (pt_not (pt_val (pcal C_is_house hr (by omega) rfl (takes_of rfl rfl rfl rfl) (pa_cons (pe_callB (call_lenM (K := g.K) rfl) (by rfl) T.n_len PySem.boot_len (pa_cons (pv 0) pa_nil)) (pa_cons (pv 1) pa_nil))))) (pss_one (ps_raise_NoHouse rfl Z.NoHouse hr (takes_of rfl rfl rfl rfl))) pss_nil)))
    ((ss_ifS (st_not (st_tst (se_def (sa_cons (se_call len_ok (sa_cons se_var sa_nil)) (sa_cons se_var sa_nil))))) ss_raise0 ss_next)) h

end
end W3
namespace W3
open PySem PySem.Spec PyProof.Rows L2 M3
section
variable {P : Program} {w : World} {g : G} {mg : Str → Option Value} {base : Heap} {f_eBadForest f_eNoHouse f_eNoShape f_eNoTurn f_iForest f_iStand : Addr}
theorem ok_is_shape (D : M3.Def g.K mg "is_shape" s_is_shape ["thing"]) (T : Txt mg) (Z : Fx g w mg f_eBadForest f_eNoHouse f_eNoShape f_eNoTurn f_iForest f_iStand) (C_come_to_roots : M3.Cal P w g.K mg base 1 "come_to_roots" ["parents"] (spM g.K 1 (mPure (m_come_to_roots g)))) (C_has_its_sons : M3.Cal P w g.K mg base 1 "_has_its_sons" ["parts", "house"] (spM g.K 2 (mPure (m_has_its_sons g)))) (C_is_part : M3.Cal P w g.K mg base 4 "_is_part" ["many", "thing"] (spM g.K 2 (mPure (m_is_part g)))) (C_is_many : M3.Cal P w g.K mg base 3 "is_many" ["thing"] (spM g.K 1 (mPure (m_is_many g)))) : M3.Cal P w g.K mg base 5 "is_shape" ["thing"] (spM g.K 1 (mPure (m_is_shape g))) := by
  refine M3.Cal.imp (D.cal (sp := (spM g.K 1 (m_is_shape g))) sc_is_shape (spM_len rfl) (fun f cdv A outer s H vs Q E hr h => ?_)) pure_ok
  exact body_all (N := ["thing", "part", "house"]) (E := E) ((pss_cons (ps_if (PW.pt (pw_or (pt_not (pt_val (pe_callB (call_isiM (K := g.K) rfl) (by rfl) T.n_isinstance (by decide +kernel) (pa_cons (pv 0) (pa_cons (pe_bltn (v := .ty "tuple") (by rfl) T.n_tuple (by decide +kernel) rfl) pa_nil))))) (pw_or1 (pt_not (pt_val (pcal C_is_many hr (by omega) rfl (takes_of rfl rfl rfl rfl) (pa_cons (pe_callB (call_lenM (K := g.K) rfl) (by rfl) T.n_len PySem.boot_len (pa_cons (pv 0) pa_nil)) pa_nil))))))) (pss_one (ps_ret pe_bl)) pss_nil)
      (pss_cons (ps_if (pt_not (pt_val (pe_callB (call_allM (K := g.K) rfl rfl) (by rfl) T.n_all (by decide +kernel) (pa_cons ((pe_lc (own := [("part", 1)]) (g := (gName 1)) (tt := tYes) (by rfl) sc_is_shape.nd (pi_M (K := g.K) rfl (pv 0)) (blkOk_by (own := [("part", 1)]) (N := ["thing", "part", "house"]) (sc := defScope s_is_shape) (by decide +kernel)) (fun _ _ _ _ _ => (pg_name (i := 1) sc_is_shape.nd rfl (Or.inl rfl))) (fun _ _ _ _ _ => pts_nil) (fun _ _ _ _ _ => (pcalF C_is_part hr (by omega) rfl (pa_cons (pe_callB (call_lenM (K := g.K) rfl) (by rfl) T.n_len PySem.boot_len (pa_cons (pv 0) pa_nil)) (pa_cons (pv 1) pa_nil)))))) pa_nil)))) (pss_one (ps_ret pe_bl)) pss_nil)
      (pss_cons (ps_if (pt_not (pt_val (pe_callB (call_allM (K := g.K) rfl rfl) (by rfl) T.n_all (by decide +kernel) (pa_cons ((pe_lc (own := [("house", 2)]) (g := (gName 2)) (tt := tYes) (by rfl) sc_is_shape.nd (pi_range1 rfl T.n_range (pa_cons (pe_callB (call_lenM (K := g.K) rfl) (by rfl) T.n_len PySem.boot_len (pa_cons (pv 0) pa_nil)) pa_nil)) (blkOk_by (own := [("house", 2)]) (N := ["thing", "part", "house"]) (sc := defScope s_is_shape) (by decide +kernel)) (fun _ _ _ _ _ => (pg_name (i := 2) sc_is_shape.nd rfl (Or.inl rfl))) (fun _ _ _ _ _ => pts_nil) (fun _ _ _ _ _ => (pcalF C_has_its_sons hr (by omega) rfl (pa_cons (pv 0) (pa_cons (pv 2) pa_nil)))))) pa_nil)))) (pss_one (ps_ret pe_bl)) pss_nil)
      (pss_one (ps_ret (pcal C_come_to_roots hr (by omega) rfl (takes_of rfl rfl rfl rfl) (pa_cons (pe_callTy (call_tupM (K := g.K) rfl) (by rfl) T.n_tuple (by decide +kernel) (pa_cons ((pe_lc (own := [("part", 1)]) (g := (gName 1)) (tt := tYes) (by rfl) sc_is_shape.nd (pi_M (K := g.K) rfl (pv 0)) (blkOk_by (own := [("part", 1)]) (N := ["thing", "part", "house"]) (sc := defScope s_is_shape) (by decide +kernel)) (fun _ _ _ _ _ => (pg_name (i := 1) sc_is_shape.nd rfl (Or.inl rfl))) (fun _ _ _ _ _ => pts_nil) (fun _ _ _ _ _ => (pe_ix (ix_M (K := g.K) rfl) (pv 1) pe_int (fun _ _ => rfl))))) pa_nil)) pa_nil))))))))
    ((ss_seq (ss_ifS (st_or (st_not (st_tst (se_call (isi_ok Z.CSO) (sa_cons se_var (sa_cons se_con sa_nil))))) (st_not (st_tst (se_def (sa_cons (se_call len_ok (sa_cons se_var sa_nil)) sa_nil))))) (ss_ret se_bl) ss_next)
      (ss_seq (ss_ifS (st_not (st_tst (se_call all_ok (sa_cons (se_frz (sl_lc (si_walk se_var) (sgv_name (by decide)) st_yes (se_defF (sa_cons (se_call len_ok (sa_cons se_var sa_nil)) (sa_cons se_var sa_nil))))) sa_nil)))) (ss_ret se_bl) ss_next)
      (ss_seq (ss_ifS (st_not (st_tst (se_call all_ok (sa_cons (se_frz (sl_lc (si_rng1 (sa_cons (se_call len_ok (sa_cons se_var sa_nil)) sa_nil)) (sgv_name (by decide)) st_yes (se_defF (sa_cons se_var (sa_cons se_var sa_nil))))) sa_nil)))) (ss_ret se_bl) ss_next)
      (ss_ret (se_def (sa_cons (se_call tuple_ok (sa_cons (se_frz (sl_lc (si_walk se_var) (sgv_name (by decide)) st_yes (se_op ix_ok se_var se_int))) sa_nil)) sa_nil))))))) h

end
end W3
namespace W3
open PySem PySem.Spec PyProof.Rows L2 M3
section
variable {P : Program} {w : World} {g : G} {mg : Str → Option Value} {base : Heap} {f_eBadForest f_eNoHouse f_eNoShape f_eNoTurn f_iForest f_iStand : Addr}
theorem ok_stands_of (D : M3.Def g.K mg "stands_of" s_stands_of ["shape"]) (T : Txt mg) (Z : Fx g w mg f_eBadForest f_eNoHouse f_eNoShape f_eNoTurn f_iForest f_iStand) {fd_Stand_init : FuncData} (F_Stand_init : FnOk P w g.K mg base (L2.CX P w) 1 f_iStand fd_Stand_init ["self", "part"] (spM g.K 2 (m_Stand_init g))) (B_Stand_init : Binds g.K fd_Stand_init ["self", "part"] []) (C_is_shape : M3.Cal P w g.K mg base 5 "is_shape" ["thing"] (spM g.K 1 (mPure (m_is_shape g)))) : M3.Cal P w g.K mg base 6 "stands_of" ["shape"] (spM g.K 1 (m_stands_of g)) := by
  refine M3.Cal.mono (D.cal (sp := (spM g.K 1 (m_stands_of g))) sc_stands_of (spM_len rfl) (fun f cdv A outer s H vs Q E hr h => ?_)) (Nat.le_refl _)
  exact body_all (N := ["shape", "part"]) (E := E) ((pss_cons (ps_if (pt_not (pt_val (pcal C_is_shape hr (by omega) rfl (takes_of rfl rfl rfl rfl) (pa_cons (pv 0) pa_nil)))) (pss_one (ps_raise_NoShape rfl Z.NoShape hr (takes_of rfl rfl rfl rfl))) pss_nil)
      (pss_one (ps_ret (pe_lc (own := [("part", 1)]) (g := (gName 1)) (tt := tYes) (by rfl) sc_stands_of.nd (pi_M (K := g.K) rfl (pv 0)) (blkOk_by (own := [("part", 1)]) (N := ["shape", "part"]) (sc := defScope s_stands_of) (by decide +kernel)) (fun _ _ _ _ _ => (pg_name (i := 1) sc_stands_of.nd rfl (Or.inl rfl))) (fun _ _ _ _ _ => pts_nil) (fun _ _ _ _ _ => (pe_makeF Z.mk_Stand F_Stand_init (hr.mono (by omega)) rfl Z.Stand B_Stand_init (pa_cons (pv 1) pa_nil))))))))
    ((ss_seq (ss_ifS (st_not (st_tst (se_def (sa_cons se_var sa_nil)))) ss_raise0 ss_next)
      (ss_ret (se_trk (sl_lc (si_walk se_var) (sgv_name (by decide)) st_yes (se_newF (cr_Stand_ok g) (sa_cons se_var sa_nil))))))) h

end
end W3
namespace W3
open PySem PySem.Spec PyProof.Rows L2 M3
section
variable {P : Program} {w : World} {g : G} {mg : Str → Option Value} {base : Heap} {f_eBadForest f_eNoHouse f_eNoShape f_eNoTurn f_iForest f_iStand : Addr}
theorem ok_weights (D : M3.Def g.K mg "weights" s_weights ["shape"]) (T : Txt mg) (Z : Fx g w mg f_eBadForest f_eNoHouse f_eNoShape f_eNoTurn f_iForest f_iStand) (C_weights_of : M3.Cal P w g.K mg base 2 "_weights_of" ["stands"] (spM g.K 1 (mScope (m_weights_of g)))) (C_stands_of : M3.Cal P w g.K mg base 6 "stands_of" ["shape"] (spM g.K 1 (m_stands_of g))) : M3.Cal P w g.K mg base 7 "weights" ["shape"] (spM g.K 1 (mPure (m_weights g))) := by
  refine M3.Cal.imp (D.cal (sp := (spM g.K 1 (m_weights g))) sc_weights (spM_len rfl) (fun f cdv A outer s H vs Q E hr h => ?_)) pure_ok
  exact body_all (N := ["shape"]) (E := E) ((pss_one (ps_ret (pcal C_weights_of hr (by omega) rfl (takes_of rfl rfl rfl rfl) (pa_cons (pcal C_stands_of hr (by omega) rfl (takes_of rfl rfl rfl rfl) (pa_cons (pv 0) pa_nil)) pa_nil)))))
    ((ss_ret (se_def (sa_cons (se_def (sa_cons se_var sa_nil)) sa_nil)))) h

end
end W3
namespace W3
open PySem PySem.Spec PyProof.Rows L2 M3
section
variable {P : Program} {w : World} {g : G} {mg : Str → Option Value} {base : Heap} {f_eBadForest f_eNoHouse f_eNoShape f_eNoTurn f_iForest f_iStand : Addr}
theorem ok_handed_on (D : M3.Def g.K mg "handed_on" s_handed_on ["shape", "house"]) (T : Txt mg) (Z : Fx g w mg f_eBadForest f_eNoHouse f_eNoShape f_eNoTurn f_iForest f_iStand) (C_shape_of : M3.Cal P w g.K mg base 1 "shape_of" ["stands"] (spM g.K 1 (mScope (m_shape_of g)))) (C_hand_on : M3.Cal P w g.K mg base 1 "hand_on" ["stands", "house"] (spM g.K 2 (mScope (m_hand_on g)))) (C_need_house : M3.Cal P w g.K mg base 4 "need_house" ["stands", "thing"] (spM g.K 2 (mScope (m_need_house g)))) (C_stands_of : M3.Cal P w g.K mg base 6 "stands_of" ["shape"] (spM g.K 1 (m_stands_of g))) : M3.Cal P w g.K mg base 7 "handed_on" ["shape", "house"] (spM g.K 2 (mPure (m_handed_on g))) := by
  refine M3.Cal.imp (D.cal (sp := (spM g.K 2 (m_handed_on g))) sc_handed_on (spM_len rfl) (fun f cdv A outer s H vs Q E hr h => ?_)) pure_ok
  exact body_all (N := ["shape", "house", "stands"]) (E := E) ((pss_cons (ps_set (i := 2) sc_handed_on.nd rfl (Or.inl rfl) (pcal C_stands_of hr (by omega) rfl (takes_of rfl rfl rfl rfl) (pa_cons (pv 0) pa_nil)))
      (pss_cons (ps_expr (pcal C_need_house hr (by omega) rfl (takes_of rfl rfl rfl rfl) (pa_cons (pv 2) (pa_cons (pv 1) pa_nil))))
      (pss_cons (ps_expr (pcal C_hand_on hr (by omega) rfl (takes_of rfl rfl rfl rfl) (pa_cons (pv 2) (pa_cons (pv 1) pa_nil))))
      (pss_one (ps_ret (pcal C_shape_of hr (by omega) rfl (takes_of rfl rfl rfl rfl) (pa_cons (pv 2) pa_nil))))))))
    ((ss_seq (ss_asgG (se_def (sa_cons se_var sa_nil)) sg_name)
      (ss_seq (ss_drop (se_def (sa_cons se_var (sa_cons se_var sa_nil))))
      (ss_seq (ss_drop (se_def (sa_cons se_var (sa_cons se_var sa_nil))))
      (ss_ret (se_def (sa_cons se_var sa_nil))))))) h

end
end W3
namespace W3
open PySem PySem.Spec PyProof.Rows L2 M3
section
variable {P : Program} {w : World} {g : G} {mg : Str → Option Value} {base : Heap} {f_eBadForest f_eNoHouse f_eNoShape f_eNoTurn f_iForest f_iStand : Addr}
theorem ok_turned_up (D : M3.Def g.K mg "turned_up" s_turned_up ["shape", "house"]) (T : Txt mg) (Z : Fx g w mg f_eBadForest f_eNoHouse f_eNoShape f_eNoTurn f_iForest f_iStand) (C_shape_of : M3.Cal P w g.K mg base 1 "shape_of" ["stands"] (spM g.K 1 (mScope (m_shape_of g)))) (C_turn_up : M3.Cal P w g.K mg base 2 "turn_up" ["stands", "house"] (spM g.K 2 (mScope (m_turn_up g)))) (C_is_top : M3.Cal P w g.K mg base 1 "is_top" ["stands", "house"] (spM g.K 2 (mScope (m_is_top g)))) (C_need_house : M3.Cal P w g.K mg base 4 "need_house" ["stands", "thing"] (spM g.K 2 (mScope (m_need_house g)))) (C_stands_of : M3.Cal P w g.K mg base 6 "stands_of" ["shape"] (spM g.K 1 (m_stands_of g))) : M3.Cal P w g.K mg base 7 "turned_up" ["shape", "house"] (spM g.K 2 (mPure (m_turned_up g))) := by
  refine M3.Cal.imp (D.cal (sp := (spM g.K 2 (m_turned_up g))) sc_turned_up (spM_len rfl) (fun f cdv A outer s H vs Q E hr h => ?_)) pure_ok
  exact body_all (N := ["shape", "house", "stands"]) (E := E) ((pss_cons (ps_set (i := 2) sc_turned_up.nd rfl (Or.inl rfl) (pcal C_stands_of hr (by omega) rfl (takes_of rfl rfl rfl rfl) (pa_cons (pv 0) pa_nil)))
      (pss_cons (ps_expr (pcal C_need_house hr (by omega) rfl (takes_of rfl rfl rfl rfl) (pa_cons (pv 2) (pa_cons (pv 1) pa_nil))))
      (pss_cons (ps_if (pt_val (pcal C_is_top hr (by omega) rfl (takes_of rfl rfl rfl rfl) (pa_cons (pv 2) (pa_cons (pv 1) pa_nil)))) (pss_one (ps_raise_NoTurn rfl Z.NoTurn hr (takes_of rfl rfl rfl rfl))) pss_nil)
      (pss_cons (ps_expr (pcal C_turn_up hr (by omega) rfl (takes_of rfl rfl rfl rfl) (pa_cons (pv 2) (pa_cons (pv 1) pa_nil))))
      (pss_one (ps_ret (pcal C_shape_of hr (by omega) rfl (takes_of rfl rfl rfl rfl) (pa_cons (pv 2) pa_nil)))))))))
    ((ss_seq (ss_asgG (se_def (sa_cons se_var sa_nil)) sg_name)
      (ss_seq (ss_drop (se_def (sa_cons se_var (sa_cons se_var sa_nil))))
      (ss_seq (ss_ifS (st_tst (se_def (sa_cons se_var (sa_cons se_var sa_nil)))) ss_raise0 ss_next)
      (ss_seq (ss_drop (se_def (sa_cons se_var (sa_cons se_var sa_nil))))
      (ss_ret (se_def (sa_cons se_var sa_nil)))))))) h

end
end W3
namespace W3
open PySem PySem.Spec PyProof.Rows L2 M3
section
variable {P : Program} {w : World} {g : G} {mg : Str → Option Value} {base : Heap} {f_eBadForest f_eNoHouse f_eNoShape f_eNoTurn f_iForest f_iStand : Addr}
theorem ok_L_is (D : M3.Def g.K mg "_law_is" s_L_is ["_law_told_here", "_law_due"]) (T : Txt mg) (Z : Fx g w mg f_eBadForest f_eNoHouse f_eNoShape f_eNoTurn f_iForest f_iStand) : ∀ d : Nat, M3.Cal P w g.K mg base (1 + d) "_law_is" ["_law_told_here", "_law_due"] (spM g.K 2 (mPure (m_L_is g d))) := by
  intro d
  induction d with
  | zero =>
    obtain ⟨f, fd, F, hm, b⟩ := D.ex
    exact M3.Cal.imp (sp := (spM g.K 2 (m_L_is g 0))) ⟨f, fd, ⟨spM_len rfl, fun A outer s H args us vs Q E _ _ _ _ h => (spM_fail h).elim⟩, hm, F.kp, b⟩ pure_ok
  | succ d C_L_is =>
    refine M3.Cal.imp (D.cal (k := 1 + d) (sp := (spM g.K 2 (m_L_is g (d + 1)))) sc_L_is (spM_len rfl) (fun f cdv A outer s H vs Q E hr h => ?_)) pure_ok
    exact body_all (N := ["_law_told_here", "_law_due", "_law_one", "_law_two"]) (E := E) ((pss_cons (ps_if (pt_val (pe_callB (call_isiTM (K := g.K) rfl) (by rfl) T.n_isinstance (by decide +kernel) (pa_cons (pv 1) (pa_cons (pe_tup (pa_cons (pe_bltn (v := .ty "tuple") (by rfl) T.n_tuple (by decide +kernel) rfl) (pa_cons (pe_bltn (v := .ty "list") (by rfl) T.n_list (by decide +kernel) rfl) pa_nil))) pa_nil)))) (pss_cons (ps_if (PW.pt (pw_or (pt_cmpR (op_neM (K := g.K) rfl hr.units) (pe_callB (call_isiM (K := g.K) rfl) (by rfl) T.n_isinstance (by decide +kernel) (pa_cons (pv 0) (pa_cons (pe_bltn (v := .ty "tuple") (by rfl) T.n_tuple (by decide +kernel) rfl) pa_nil))) (pe_callB (call_isiM (K := g.K) rfl) (by rfl) T.n_isinstance (by decide +kernel) (pa_cons (pv 1) (pa_cons (pe_bltn (v := .ty "tuple") (by rfl) T.n_tuple (by decide +kernel) rfl) pa_nil))) (nomark _)) (pw_or1 (pt_not (pt_val (pe_callB (call_isiTM (K := g.K) rfl) (by rfl) T.n_isinstance (by decide +kernel) (pa_cons (pv 0) (pa_cons (pe_tup (pa_cons (pe_bltn (v := .ty "tuple") (by rfl) T.n_tuple (by decide +kernel) rfl) (pa_cons (pe_bltn (v := .ty "list") (by rfl) T.n_list (by decide +kernel) rfl) pa_nil))) pa_nil)))))))) (pss_one (ps_ret pe_bl)) pss_nil)
      (pss_one (ps_ret (pe_and (pe_cmpR (op_eqM (K := g.K) rfl hr.units) (pe_callB (call_lenM (K := g.K) rfl) (by rfl) T.n_len PySem.boot_len (pa_cons (pv 0) pa_nil)) (pe_callB (call_lenM (K := g.K) rfl) (by rfl) T.n_len PySem.boot_len (pa_cons (pv 1) pa_nil)) (nomark _)) (pe_one (pe_callB (call_allM (K := g.K) rfl rfl) (by rfl) T.n_all (by decide +kernel) (pa_cons ((pe_lc (own := [("_law_one", 2), ("_law_two", 3)]) (g := (gTup g.K 2 (gCons (gName 2) (gCons (gName 3) gNil)))) (tt := tYes) (by rfl) sc_L_is.nd (RZ.pi_zipA (by rfl) T.n_zip (pa_cons (pv 0) (pa_cons (pv 1) pa_nil))) (blkOk_by (own := [("_law_one", 2), ("_law_two", 3)]) (N := ["_law_told_here", "_law_due", "_law_one", "_law_two"]) (sc := defScope s_L_is) (by decide +kernel)) (fun _ _ _ _ _ => (pg_tup rfl (pgs_cons (pg_name (i := 2) sc_L_is.nd rfl (Or.inl rfl)) (pgs_cons (pg_name (i := 3) sc_L_is.nd rfl (Or.inl rfl)) pgs_nil)))) (fun _ _ _ _ _ => pts_nil) (fun _ _ _ _ _ => (pcalF C_L_is hr (by omega) rfl (pa_cons (pv 2) (pa_cons (pv 3) pa_nil)))))) pa_nil))))))) pss_nil)
      (pss_one (ps_ret (pe_and (pe_cmpR (op_eqM (K := g.K) rfl hr.units) (pe_callB (call_isiM (K := g.K) rfl) (by rfl) T.n_isinstance (by decide +kernel) (pa_cons (pv 0) (pa_cons (pe_bltn (v := .ty "bool") (by rfl) T.n_bool (by decide +kernel) rfl) pa_nil))) (pe_callB (call_isiM (K := g.K) rfl) (by rfl) T.n_isinstance (by decide +kernel) (pa_cons (pv 1) (pa_cons (pe_bltn (v := .ty "bool") (by rfl) T.n_bool (by decide +kernel) rfl) pa_nil))) (nomark _)) (pe_one (pe_cmpR (op_eqM (K := g.K) rfl hr.units) (pv 0) (pv 1) (nomark _))))))))
      ((ss_seq (ss_ifS (st_tst (se_isiT Z.CSO se_var (sa_cons se_con (sa_cons se_con sa_nil)))) (ss_seq (ss_ifS (st_or (st_test (se_op ne_ok (se_call (isi_ok Z.CSO) (sa_cons se_var (sa_cons se_con sa_nil))) (se_call (isi_ok Z.CSO) (sa_cons se_var (sa_cons se_con sa_nil))))) (st_not (st_tst (se_isiT Z.CSO se_var (sa_cons se_con (sa_cons se_con sa_nil)))))) (ss_ret se_bl) ss_next)
      (ss_ret (se_and (se_op eq_ok (se_call len_ok (sa_cons se_var sa_nil)) (se_call len_ok (sa_cons se_var sa_nil))) (se_call all_ok (sa_cons (se_frz (sl_lc (si_zip (sa_cons se_var (sa_cons se_var sa_nil))) (sgv_tup (sgvs_cons (sgv_name (by decide)) (sgvs_cons (sgv_name (by decide)) sgvs_nil))) st_yes (se_defF (sa_cons se_var (sa_cons se_var sa_nil))))) sa_nil))))) ss_next)
      (ss_ret (se_and (se_op eq_ok (se_call (isi_ok Z.CSO) (sa_cons se_var (sa_cons se_con sa_nil))) (se_call (isi_ok Z.CSO) (sa_cons se_var (sa_cons se_con sa_nil)))) (se_op eq_ok se_var se_var))))) h

end
end W3
namespace W3
open PySem PySem.Spec PyProof.Rows L2 M3
section
variable {P : Program} {w : World} {g : G} {mg : Str → Option Value} {base : Heap} {f_eBadForest f_eNoHouse f_eNoShape f_eNoTurn f_iForest f_iStand : Addr}
theorem ok_L_is_handed (D : M3.Def g.K mg "_law_is_handed" s_L_is_handed ["_law_shape_here", "_law_house_here"]) (T : Txt mg) (Z : Fx g w mg f_eBadForest f_eNoHouse f_eNoShape f_eNoTurn f_iForest f_iStand) (C_L_tupled : M3.Cal P w g.K mg base 1 "_law_tupled" ["_law_shape_here"] (spM g.K 1 (mScope (m_L_tupled g)))) (C_L_is : M3.Cal P w g.K mg base 61 "_law_is" ["_law_told_here", "_law_due"] (spM g.K 2 (mPure (m_L_is g 60)))) (C_handed_on : M3.Cal P w g.K mg base 7 "handed_on" ["shape", "house"] (spM g.K 2 (mPure (m_handed_on g)))) (C_L_hand_on : M3.Cal P w g.K mg base 1 "_law_hand_on" ["_law_shape_here", "_law_house_here"] (spM g.K 2 (mScope (m_L_hand_on g)))) (C_L_listed : M3.Cal P w g.K mg base 1 "_law_listed" ["_law_shape_here"] (spM g.K 1 (m_L_listed g))) : M3.Cal P w g.K mg base 62 "_law_is_handed" ["_law_shape_here", "_law_house_here"] (spM g.K 2 (mPure (m_L_is_handed g))) := by
  refine M3.Cal.imp (D.cal (sp := (spM g.K 2 (m_L_is_handed g))) sc_L_is_handed (spM_len rfl) (fun f cdv A outer s H vs Q E hr h => ?_)) pure_ok
  exact body_all (N := ["_law_shape_here", "_law_house_here", "_law_due", "_law_told_here"]) (E := E) ((pss_cons (ps_set (i := 2) sc_L_is_handed.nd rfl (Or.inl rfl) (pcal C_L_listed hr (by omega) rfl (takes_of rfl rfl rfl rfl) (pa_cons (pv 0) pa_nil)))
      (pss_cons (ps_expr (pcal C_L_hand_on hr (by omega) rfl (takes_of rfl rfl rfl rfl) (pa_cons (pv 2) (pa_cons (pv 1) pa_nil))))
      (pss_cons (ps_set (i := 3) sc_L_is_handed.nd rfl (Or.inl rfl) (pcal C_handed_on hr (by omega) rfl (takes_of rfl rfl rfl rfl) (pa_cons (pv 0) (pa_cons (pv 1) pa_nil))))
      (pss_one (ps_ret (pe_tup (pa_cons (pcal C_L_is hr (by omega) rfl (takes_of rfl rfl rfl rfl) (pa_cons (pv 3) (pa_cons (pcal C_L_tupled hr (by omega) rfl (takes_of rfl rfl rfl rfl) (pa_cons (pv 2) pa_nil)) pa_nil))) (pa_cons (pcal C_L_tupled hr (by omega) rfl (takes_of rfl rfl rfl rfl) (pa_cons (pv 2) pa_nil)) pa_nil)))))))))
    ((ss_seq (ss_asgG (se_def (sa_cons se_var sa_nil)) sg_name)
      (ss_seq (ss_drop (se_def (sa_cons se_var (sa_cons se_var sa_nil))))
      (ss_seq (ss_asgG (se_def (sa_cons se_var (sa_cons se_var sa_nil))) sg_name)
      (ss_ret (se_tup (sa_cons (se_def (sa_cons se_var (sa_cons (se_def (sa_cons se_var sa_nil)) sa_nil))) (sa_cons (se_def (sa_cons se_var sa_nil)) sa_nil)))))))) h

end
end W3
namespace W3
open PySem PySem.Spec PyProof.Rows L2 M3
section
variable {P : Program} {w : World} {g : G} {mg : Str → Option Value} {base : Heap} {f_eBadForest f_eNoHouse f_eNoShape f_eNoTurn f_iForest f_iStand : Addr}
theorem ok_L_is_turned (D : M3.Def g.K mg "_law_is_turned" s_L_is_turned ["_law_shape_here", "_law_house_here"]) (T : Txt mg) (Z : Fx g w mg f_eBadForest f_eNoHouse f_eNoShape f_eNoTurn f_iForest f_iStand) (C_weights : M3.Cal P w g.K mg base 7 "weights" ["shape"] (spM g.K 1 (mPure (m_weights g)))) (C_L_is : M3.Cal P w g.K mg base 61 "_law_is" ["_law_told_here", "_law_due"] (spM g.K 2 (mPure (m_L_is g 60)))) (C_turned_up : M3.Cal P w g.K mg base 7 "turned_up" ["shape", "house"] (spM g.K 2 (mPure (m_turned_up g)))) (C_L_tupled : M3.Cal P w g.K mg base 1 "_law_tupled" ["_law_shape_here"] (spM g.K 1 (mScope (m_L_tupled g)))) (C_L_turn_up : M3.Cal P w g.K mg base 2 "_law_turn_up" ["_law_shape_here", "_law_house_here"] (spM g.K 2 (mScope (m_L_turn_up g)))) (C_L_listed : M3.Cal P w g.K mg base 1 "_law_listed" ["_law_shape_here"] (spM g.K 1 (m_L_listed g))) : M3.Cal P w g.K mg base 62 "_law_is_turned" ["_law_shape_here", "_law_house_here"] (spM g.K 2 (mPure (m_L_is_turned g))) := by
  refine M3.Cal.imp (D.cal (sp := (spM g.K 2 (m_L_is_turned g))) sc_L_is_turned (spM_len rfl) (fun f cdv A outer s H vs Q E hr h => ?_)) pure_ok
  exact body_all (N := ["_law_shape_here", "_law_house_here", "_law_up", "_law_due", "_law_ahead", "_law_behind", "_law_others", "_law_other"]) (E := E) ((pss_cons (ps_set (i := 2) sc_L_is_turned.nd rfl (Or.inr rfl) (pe_ix (ix_M (K := g.K) rfl) (pe_ix (ix_M (K := g.K) rfl) (pv 0) (pv 1) (fun _ _ => rfl)) pe_int (fun _ _ => rfl)))
      (pss_cons (ps_set (i := 3) sc_L_is_turned.nd rfl (Or.inl rfl) (pcal C_L_listed hr (by omega) rfl (takes_of rfl rfl rfl rfl) (pa_cons (pv 0) pa_nil)))
      (pss_cons (ps_expr (pcal C_L_turn_up hr (by omega) rfl (takes_of rfl rfl rfl rfl) (pa_cons (pv 3) (pa_cons (pv 1) pa_nil))))
      (pss_cons (ps_set (i := 3) sc_L_is_turned.nd rfl (Or.inl rfl) (pcal C_L_tupled hr (by omega) rfl (takes_of rfl rfl rfl rfl) (pa_cons (pv 3) pa_nil)))
      (pss_cons (ps_if (pt_not (pt_val (pcal C_L_is hr (by omega) rfl (takes_of rfl rfl rfl rfl) (pa_cons (pcal C_turned_up hr (by omega) rfl (takes_of rfl rfl rfl rfl) (pa_cons (pv 0) (pa_cons (pv 1) pa_nil))) (pa_cons (pv 3) pa_nil))))) (pss_one (ps_ret (pe_tup (pa_cons pe_bl (pa_cons (pv 3) pa_nil))))) pss_nil)
      (pss_cons (ps_asg (pe_tup (pa_cons (pcal C_weights hr (by omega) rfl (takes_of rfl rfl rfl rfl) (pa_cons (pv 0) pa_nil)) (pa_cons (pcal C_weights hr (by omega) rfl (takes_of rfl rfl rfl rfl) (pa_cons (pv 3) pa_nil)) pa_nil))) (pg_tup rfl (pgs_cons (pg_name (i := 4) sc_L_is_turned.nd rfl (Or.inr rfl)) (pgs_cons (pg_name (i := 5) sc_L_is_turned.nd rfl (Or.inr rfl)) pgs_nil))))
      (pss_cons (ps_setLc (i := 6) (own := [("_law_other", 7)]) (g := (gName 7)) (by rfl) sc_L_is_turned.nd rfl rfl (sw_true rfl rfl rfl (by decide +kernel)) (pi_range1 rfl T.n_range (pa_cons (pe_callB (call_lenM (K := g.K) rfl) (by rfl) T.n_len PySem.boot_len (pa_cons (pv 0) pa_nil)) pa_nil)) (blkOk_by (own := [("_law_other", 7)]) (N := ["_law_shape_here", "_law_house_here", "_law_up", "_law_due", "_law_ahead", "_law_behind", "_law_others", "_law_other"]) (sc := defScope s_L_is_turned) (by decide +kernel)) (fun _ _ _ _ _ => (pg_name (i := 7) sc_L_is_turned.nd rfl (Or.inl rfl))) (fun _ _ _ _ _ => pts_one (PW.pt (pw_and (pt_cmpR (op_notInM (K := g.K) rfl) (pv 7) (pe_tup (pa_cons (pv 1) (pa_cons (pv 2) pa_nil))) (by rfl)) (pw_and1 (pt_cmpR (op_neM (K := g.K) rfl hr.units) (pe_ix (ix_M (K := g.K) rfl) (pv 4) (pv 7) (fun _ _ => rfl)) (pe_ix (ix_M (K := g.K) rfl) (pv 5) (pv 7) (fun _ _ => rfl)) (nomark _)))))) (fun _ _ _ _ _ => (pv 7)))
      (pss_one (ps_ret (pe_tup (pa_cons (pe_and (pe_cmpR (op_eqM (K := g.K) rfl hr.units) (pe_callB (call_lenM (K := g.K) rfl) (by rfl) T.n_len PySem.boot_len (pa_cons (pv 6) pa_nil)) pe_int (nomark _)) (pe_one (pe_cmpR (op_eqM (K := g.K) rfl hr.units) (pe_ix (ix_M (K := g.K) rfl) (pv 5) (pv 1) (fun _ _ => rfl)) (pe_ix (ix_M (K := g.K) rfl) (pv 4) (pv 2) (fun _ _ => rfl)) (nomark _)))) (pa_cons (pv 3) pa_nil)))))))))))))
    ((ss_seq (ss_asgG (se_op ix_ok (se_op ix_ok se_var se_var) se_int) sg_name)
      (ss_seq (ss_asgG (se_def (sa_cons se_var sa_nil)) sg_name)
      (ss_seq (ss_drop (se_def (sa_cons se_var (sa_cons se_var sa_nil))))
      (ss_seq (ss_asgG (se_def (sa_cons se_var sa_nil)) sg_name)
      (ss_seq (ss_ifS (st_not (st_tst (se_def (sa_cons (se_def (sa_cons se_var (sa_cons se_var sa_nil))) (sa_cons se_var sa_nil))))) (ss_ret (se_tup (sa_cons se_bl (sa_cons se_var sa_nil)))) ss_next)
      (ss_seq (ss_asgG (se_tup (sa_cons (se_def (sa_cons se_var sa_nil)) (sa_cons (se_def (sa_cons se_var sa_nil)) sa_nil))) (sg_tup (sgs_cons (fun _ _ => rfl) sg_name (sgs_cons (fun _ _ => rfl) sg_name sgs_nil))))
      (ss_seq (ss_asgG (se_frz (sl_lc (si_rng1 (sa_cons (se_call len_ok (sa_cons se_var sa_nil)) sa_nil)) (sgv_name (by decide)) (st_and (st_test (se_op notIn_ok se_var (se_tup (sa_cons se_var (sa_cons se_var sa_nil))))) (st_test (se_op ne_ok (se_op ix_ok se_var se_var) (se_op ix_ok se_var se_var)))) se_var)) sg_name)
      (ss_ret (se_tup (sa_cons (se_and (se_op eq_ok (se_call len_ok (sa_cons se_var sa_nil)) se_int) (se_op eq_ok (se_op ix_ok se_var se_var) (se_op ix_ok se_var se_var))) (sa_cons se_var sa_nil)))))))))))) h

end
end W3
namespace W3
open PySem PySem.Spec PyProof.Rows L2 M3
section
variable {P : Program} {w : World} {g : G} {mg : Str → Option Value} {base : Heap} {f_eBadForest f_eNoHouse f_eNoShape f_eNoTurn f_iForest f_iStand : Addr}
theorem ok_part_in_order (D : M3.Def g.K mg "_part_in_order" s_part_in_order ["stands", "house", "backwards"]) (T : Txt mg) (Z : Fx g w mg f_eBadForest f_eNoHouse f_eNoShape f_eNoTurn f_iForest f_iStand) : ∀ d : Nat, M3.Cal P w g.K mg base (1 + d) "_part_in_order" ["stands", "house", "backwards"] (spM g.K 3 (mScope (m_part_in_order g d))) := by
  intro d
  induction d with
  | zero =>
    obtain ⟨f, fd, F, hm, b⟩ := D.ex
    exact M3.Cal.imp (sp := (spM g.K 3 (m_part_in_order g 0))) ⟨f, fd, ⟨spM_len rfl, fun A outer s H args us vs Q E _ _ _ _ h => (spM_fail h).elim⟩, hm, F.kp, b⟩ scope_ok
  | succ d C_part_in_order =>
    refine M3.Cal.imp (D.cal (k := 1 + d) (sp := (spM g.K 3 (m_part_in_order g (d + 1)))) sc_part_in_order (spM_len rfl) (fun f cdv A outer s H vs Q E hr h => ?_)) scope_ok
    exact body_all (N := ["stands", "house", "backwards", "stand", "lefts", "rights"]) (E := E) ((pss_cons (ps_if (pt_cmpR op_isN (pv 1) pe_non (nomark _)) (pss_one (ps_ret ((pe_lst pa_nil)))) pss_nil)
      (pss_cons (ps_set (i := 3) sc_part_in_order.nd rfl (Or.inl rfl) (pe_ix (ix_M (K := g.K) rfl) (pv 0) (pv 1) (fun _ _ => rfl)))
      (pss_cons (ps_set (i := 2) sc_part_in_order.nd rfl (Or.inl rfl) (pe_cmpR (op_neM (K := g.K) rfl hr.units) (pv 2) (pe_fldK (K := g.K) rfl (pv 3) rfl) (nomark _)))
      (pss_cons (ps_set (i := 4) sc_part_in_order.nd rfl (Or.inl rfl) (pcal C_part_in_order hr (by omega) rfl (takes_of rfl rfl rfl rfl) (pa_cons (pv 0) (pa_cons (pe_fldK (K := g.K) rfl (pv 3) rfl) (pa_cons (pv 2) pa_nil)))))
      (pss_cons (ps_set (i := 5) sc_part_in_order.nd rfl (Or.inl rfl) (pcal C_part_in_order hr (by omega) rfl (takes_of rfl rfl rfl rfl) (pa_cons (pv 0) (pa_cons (pe_fldK (K := g.K) rfl (pv 3) rfl) (pa_cons (pv 2) pa_nil)))))
      (pss_cons (ps_if (pt_val (pv 2)) (pss_one (ps_ret (pe_op (op_addM (K := g.K) rfl) (pe_op (op_addM (K := g.K) rfl) (pv 5) ((pe_lst (pa_cons (pv 1) pa_nil)))) (pv 4)))) pss_nil)
      (pss_one (ps_ret (pe_op (op_addM (K := g.K) rfl) (pe_op (op_addM (K := g.K) rfl) (pv 4) ((pe_lst (pa_cons (pv 1) pa_nil)))) (pv 5)))))))))))
      ((ss_seq (ss_ifS (st_test (se_op isN_okR se_var se_non)) (ss_ret (se_frz (sl_lst sa_nil))) ss_next)
      (ss_seq (ss_asgG (se_op ix_ok se_var se_var) sg_name)
      (ss_seq (ss_asgG (se_op ne_ok se_var (se_fld Z.FO se_var)) sg_name)
      (ss_seq (ss_asgG (se_def (sa_cons se_var (sa_cons (se_fld Z.FO se_var) (sa_cons se_var sa_nil)))) sg_name)
      (ss_seq (ss_asgG (se_def (sa_cons se_var (sa_cons (se_fld Z.FO se_var) (sa_cons se_var sa_nil)))) sg_name)
      (ss_seq (ss_ifS (st_tst se_var) (ss_ret (se_op add_ok (se_op add_ok se_var (se_frz (sl_lst (sa_cons se_var sa_nil)))) se_var)) ss_next)
      (ss_ret (se_op add_ok (se_op add_ok se_var (se_frz (sl_lst (sa_cons se_var sa_nil)))) se_var))))))))) h

end
end W3
namespace W3
open PySem PySem.Spec PyProof.Rows L2 M3
section
variable {P : Program} {w : World} {g : G} {mg : Str → Option Value} {base : Heap} {f_eBadForest f_eNoHouse f_eNoShape f_eNoTurn f_iForest f_iStand : Addr}
theorem ok_L_order (D : M3.Def g.K mg "_law_order" s_L_order ["_law_shape_here", "_law_house_here"]) (T : Txt mg) (Z : Fx g w mg f_eBadForest f_eNoHouse f_eNoShape f_eNoTurn f_iForest f_iStand) : ∀ d : Nat, M3.Cal P w g.K mg base (1 + d) "_law_order" ["_law_shape_here", "_law_house_here"] (spM g.K 2 (mPure (m_L_order g d))) := by
  intro d
  induction d with
  | zero =>
    obtain ⟨f, fd, F, hm, b⟩ := D.ex
    exact M3.Cal.imp (sp := (spM g.K 2 (m_L_order g 0))) ⟨f, fd, ⟨spM_len rfl, fun A outer s H args us vs Q E _ _ _ _ h => (spM_fail h).elim⟩, hm, F.kp, b⟩ pure_ok
  | succ d C_L_order =>
    refine M3.Cal.imp (D.cal (k := 1 + d) (sp := (spM g.K 2 (m_L_order g (d + 1)))) sc_L_order (spM_len rfl) (fun f cdv A outer s H vs Q E hr h => ?_)) pure_ok
    exact body_all (N := ["_law_shape_here", "_law_house_here", "_law_found"]) (E := E) ((pss_cons (ps_set (i := 2) sc_L_order.nd rfl (Or.inl rfl) ((pe_lst pa_nil)))
      (pss_cons (ps_if (pt_cmpR op_notN (pe_ix (ix_M (K := g.K) rfl) (pe_ix (ix_M (K := g.K) rfl) (pv 0) (pv 1) (fun _ _ => rfl)) pe_int (fun _ _ => rfl)) pe_non (nomark _)) (pss_one (ps_set (i := 2) sc_L_order.nd rfl (Or.inl rfl) (pcal C_L_order hr (by omega) rfl (takes_of rfl rfl rfl rfl) (pa_cons (pv 0) (pa_cons (pe_ix (ix_M (K := g.K) rfl) (pe_ix (ix_M (K := g.K) rfl) (pv 0) (pv 1) (fun _ _ => rfl)) pe_int (fun _ _ => rfl)) pa_nil))))) pss_nil)
      (pss_cons (ps_set (i := 2) sc_L_order.nd rfl (Or.inl rfl) (pe_op (op_addM (K := g.K) rfl) (pv 2) ((pe_lst (pa_cons (pv 1) pa_nil)))))
      (pss_cons (ps_if (pt_cmpR op_notN (pe_ix (ix_M (K := g.K) rfl) (pe_ix (ix_M (K := g.K) rfl) (pv 0) (pv 1) (fun _ _ => rfl)) pe_int (fun _ _ => rfl)) pe_non (nomark _)) (pss_one (ps_set (i := 2) sc_L_order.nd rfl (Or.inl rfl) (pe_op (op_addM (K := g.K) rfl) (pv 2) (pcal C_L_order hr (by omega) rfl (takes_of rfl rfl rfl rfl) (pa_cons (pv 0) (pa_cons (pe_ix (ix_M (K := g.K) rfl) (pe_ix (ix_M (K := g.K) rfl) (pv 0) (pv 1) (fun _ _ => rfl)) pe_int (fun _ _ => rfl)) pa_nil)))))) pss_nil)
      (pss_one (ps_ret (pe_ifExp (pt_val (pe_ix (ix_M (K := g.K) rfl) (pe_ix (ix_M (K := g.K) rfl) (pv 0) (pv 1) (fun _ _ => rfl)) pe_int (fun _ _ => rfl))) (pe_revLK (K := g.K) rfl (pv 2)) (pv 2)))))))))
      ((ss_seq (ss_asgG (se_frz (sl_lst sa_nil)) sg_name)
      (ss_seq (ss_ifS (st_test (se_op notN_okR (se_op ix_ok (se_op ix_ok se_var se_var) se_int) se_non)) (ss_asgG (se_def (sa_cons se_var (sa_cons (se_op ix_ok (se_op ix_ok se_var se_var) se_int) sa_nil))) sg_name) ss_next)
      (ss_seq (ss_asgG (se_op add_ok se_var (se_frz (sl_lst (sa_cons se_var sa_nil)))) sg_name)
      (ss_seq (ss_ifS (st_test (se_op notN_okR (se_op ix_ok (se_op ix_ok se_var se_var) se_int) se_non)) (ss_asgG (se_op add_ok se_var (se_def (sa_cons se_var (sa_cons (se_op ix_ok (se_op ix_ok se_var se_var) se_int) sa_nil)))) sg_name) ss_next)
      (ss_ret (se_if (st_tst (se_op ix_ok (se_op ix_ok se_var se_var) se_int)) (se_rev se_var) se_var))))))) h

end
end W3
namespace W3
open PySem PySem.Spec PyProof.Rows L2 M3
section
variable {P : Program} {w : World} {g : G} {mg : Str → Option Value} {base : Heap} {f_eBadForest f_eNoHouse f_eNoShape f_eNoTurn f_iForest f_iStand : Addr}
theorem ok_row_in_order (D : M3.Def g.K mg "row_in_order" s_row_in_order ["stands", "top"]) (T : Txt mg) (Z : Fx g w mg f_eBadForest f_eNoHouse f_eNoShape f_eNoTurn f_iForest f_iStand) (C_part_in_order : M3.Cal P w g.K mg base 71 "_part_in_order" ["stands", "house", "backwards"] (spM g.K 3 (mScope (m_part_in_order g 70)))) : M3.Cal P w g.K mg base 72 "row_in_order" ["stands", "top"] (spM g.K 2 (mScope (m_row_in_order g))) := by
  refine M3.Cal.imp (D.cal (sp := (spM g.K 2 (m_row_in_order g))) sc_row_in_order (spM_len rfl) (fun f cdv A outer s H vs Q E hr h => ?_)) scope_ok
  exact body_all (N := ["stands", "top"]) (E := E) ((pss_one (ps_ret (pe_callTy (call_tupM (K := g.K) rfl) (by rfl) T.n_tuple (by decide +kernel) (pa_cons (pcal C_part_in_order hr (by omega) rfl (takes_of rfl rfl rfl rfl) (pa_cons (pv 0) (pa_cons (pv 1) (pa_cons pe_bl pa_nil)))) pa_nil)))))
    ((ss_ret (se_call tuple_ok (sa_cons (se_def (sa_cons se_var (sa_cons se_var (sa_cons se_bl sa_nil)))) sa_nil)))) h

end
end W3
namespace W3
open PySem PySem.Spec PyProof.Rows L2 M3
section
variable {P : Program} {w : World} {g : G} {mg : Str → Option Value} {base : Heap} {f_eBadForest f_eNoHouse f_eNoShape f_eNoTurn f_iForest f_iStand : Addr}
theorem ok_L_told (D : M3.Def g.K mg "_law_told" s_L_told ["_law_shape_here"]) (T : Txt mg) (Z : Fx g w mg f_eBadForest f_eNoHouse f_eNoShape f_eNoTurn f_iForest f_iStand) (C_L_is_son : M3.Cal P w g.K mg base 1 "_law_is_son" ["_law_shape_here", "_law_house_here"] (spM g.K 2 (mPure (m_L_is_son g)))) (C_L_tops : M3.Cal P w g.K mg base 2 "_law_tops" ["_law_shape_here"] (spM g.K 1 (mPure (m_L_tops g)))) (C_L_order : M3.Cal P w g.K mg base 71 "_law_order" ["_law_shape_here", "_law_house_here"] (spM g.K 2 (mPure (m_L_order g 70)))) : M3.Cal P w g.K mg base 72 "_law_told" ["_law_shape_here"] (spM g.K 1 (mPure (m_L_told g))) := by
  refine M3.Cal.imp (D.cal (sp := (spM g.K 1 (m_L_told g))) sc_L_told (spM_len rfl) (fun f cdv A outer s H vs Q E hr h => ?_)) pure_ok
  exact body_all (N := ["_law_shape_here", "_law_parents", "_law_top", "_law_ahead", "_law_house_here", "_law_worths", "_law_worth", "_law_here", "_law_turn"]) (E := E) ((pss_cons (ps_set (i := 1) sc_L_told.nd rfl (Or.inl rfl) (pe_op (op_mulM (K := g.K) rfl) ((pe_lst (pa_cons pe_non pa_nil))) (pe_callB (call_lenM (K := g.K) rfl) (by rfl) T.n_len PySem.boot_len (pa_cons (pv 0) pa_nil))))
      (pss_cons (ps_for (passes_of rfl) rfl (pi_M (K := g.K) rfl (pcal C_L_tops hr (by omega) rfl (takes_of rfl rfl rfl rfl) (pa_cons (pv 0) pa_nil))) (pg_name (i := 2) sc_L_told.nd rfl (Or.inl rfl)) (pss_cons (ps_set (i := 3) sc_L_told.nd rfl (Or.inl rfl) (pe_ix (ix_M (K := g.K) rfl) (pe_ix (ix_M (K := g.K) rfl) (pv 0) (pv 2) (fun _ _ => rfl)) pe_int (fun _ _ => rfl)))
      (pss_one (ps_for (passes_of rfl) rfl (pi_M (K := g.K) rfl (pcal C_L_order hr (by omega) rfl (takes_of rfl rfl rfl rfl) (pa_cons (pv 0) (pa_cons (pv 2) pa_nil)))) (pg_name (i := 4) sc_L_told.nd rfl (Or.inl rfl)) (pss_cons (ps_asg (pv 3) (pg_sub (pv 1) (pv 4) set_list))
      (pss_one (ps_set (i := 3) sc_L_told.nd rfl (Or.inl rfl) (pv 4))))))))
      (pss_cons (ps_set (i := 5) sc_L_told.nd rfl (Or.inl rfl) (pe_lst pa_nil))
      (pss_cons (ps_for (passes_of rfl) rfl (pi_range1 rfl T.n_range (pa_cons (pe_callB (call_lenM (K := g.K) rfl) (by rfl) T.n_len PySem.boot_len (pa_cons (pv 0) pa_nil)) pa_nil)) (pg_name (i := 4) sc_L_told.nd rfl (Or.inl rfl)) (pss_cons (ps_set (i := 6) sc_L_told.nd rfl (Or.inl rfl) (pe_ix (ix_M (K := g.K) rfl) (pe_ix (ix_M (K := g.K) rfl) (pv 0) (pv 4) (fun _ _ => rfl)) pe_int (fun _ _ => rfl)))
      (pss_cons (ps_set (i := 7) sc_L_told.nd rfl (Or.inl rfl) (pv 4))
      (pss_cons (ps_for (passes_of rfl) rfl (pi_range1 rfl T.n_range (pa_cons (pe_callB (call_lenM (K := g.K) rfl) (by rfl) T.n_len PySem.boot_len (pa_cons (pv 0) pa_nil)) pa_nil)) (pg_name (i := 8) sc_L_told.nd rfl (Or.inl rfl)) (pss_one (ps_if (pt_val (pcal C_L_is_son hr (by omega) rfl (takes_of rfl rfl rfl rfl) (pa_cons (pv 0) (pa_cons (pv 7) pa_nil)))) (pss_cons (ps_set (i := 7) sc_L_told.nd rfl (Or.inl rfl) (pe_ix (ix_M (K := g.K) rfl) (pe_ix (ix_M (K := g.K) rfl) (pv 0) (pv 7) (fun _ _ => rfl)) pe_int (fun _ _ => rfl)))
      (pss_one (ps_set (i := 6) sc_L_told.nd rfl (Or.inl rfl) (pe_op (op_addM (K := g.K) rfl) (pv 6) (pe_ix (ix_M (K := g.K) rfl) (pe_ix (ix_M (K := g.K) rfl) (pv 0) (pv 7) (fun _ _ => rfl)) pe_int (fun _ _ => rfl)))))) pss_nil)))
      (pss_one (ps_expr (pe_bmK (K := g.K) rfl PySem.F.plainAttrs_list PySem.F.slot_list_append PySem.F.type_list_append mt_append (pv 5) (pa_cons (pv 6) pa_nil))))))))
      (pss_one (ps_ret (pe_tup (pa_cons (pe_callTy (call_tupM (K := g.K) rfl) (by rfl) T.n_tuple (by decide +kernel) (pa_cons (pv 1) pa_nil)) (pa_cons (pe_callTy (call_tupM (K := g.K) rfl) (by rfl) T.n_tuple (by decide +kernel) (pa_cons (pv 5) pa_nil)) pa_nil))))))))))
    ((ss_seq (ss_asgG (se_trk (sl_mulL (se_frz (sl_lst (sa_cons se_non sa_nil))) (se_call len_ok (sa_cons se_var sa_nil)))) sg_name)
      (ss_seq (ss_for (si_walk (se_def (sa_cons se_var sa_nil))) sg_name (ss_seq (ss_asgG (se_op ix_ok (se_op ix_ok se_var se_var) se_int) sg_name)
      (ss_for (si_walk (se_def (sa_cons se_var (sa_cons se_var sa_nil)))) sg_name (ss_seq (ss_asgG se_var (sg_sub se_var se_var))
      (ss_asgG se_var sg_name)))))
      (ss_seq (ss_asgG (se_trk (sl_lst sa_nil)) sg_name)
      (ss_seq (ss_for (si_rng1 (sa_cons (se_call len_ok (sa_cons se_var sa_nil)) sa_nil)) sg_name (ss_seq (ss_asgG (se_op ix_ok (se_op ix_ok se_var se_var) se_int) sg_name)
      (ss_seq (ss_asgG se_var sg_name)
      (ss_seq (ss_for (si_rng1 (sa_cons (se_call len_ok (sa_cons se_var sa_nil)) sa_nil)) sg_name (ss_ifS (st_tst (se_def (sa_cons se_var (sa_cons se_var sa_nil)))) (ss_seq (ss_asgG (se_op ix_ok (se_op ix_ok se_var se_var) se_int) sg_name)
      (ss_asgG (se_op add_ok se_var (se_op ix_ok (se_op ix_ok se_var se_var) se_int)) sg_name)) ss_next))
      (ss_drop (se_bm append_ok se_var (sa_cons se_var sa_nil)))))))
      (ss_ret (se_tup (sa_cons (se_call tuple_ok (sa_cons se_var sa_nil)) (sa_cons (se_call tuple_ok (sa_cons se_var sa_nil)) sa_nil))))))))) h

end
end W3
namespace W3
open PySem PySem.Spec PyProof.Rows L2 M3
section
variable {P : Program} {w : World} {g : G} {mg : Str → Option Value} {base : Heap} {f_eBadForest f_eNoHouse f_eNoShape f_eNoTurn f_iForest f_iStand : Addr}
theorem ok_forest_of (D : M3.Def g.K mg "forest_of" s_forest_of ["stands"]) (T : Txt mg) (Z : Fx g w mg f_eBadForest f_eNoHouse f_eNoShape f_eNoTurn f_iForest f_iStand) {fd_Forest_init : FuncData} (F_Forest_init : FnOk P w g.K mg base (L2.CX P w) 5 f_iForest fd_Forest_init ["self", "parents", "worths"] (spM g.K 3 (m_Forest_init g))) (B_Forest_init : Binds g.K fd_Forest_init ["self", "parents", "worths"] []) (C_told_worths : M3.Cal P w g.K mg base 3 "told_worths" ["stands"] (spM g.K 1 (mScope (m_told_worths g)))) (C_is_top : M3.Cal P w g.K mg base 1 "is_top" ["stands", "house"] (spM g.K 2 (mScope (m_is_top g)))) (C_row_in_order : M3.Cal P w g.K mg base 72 "row_in_order" ["stands", "top"] (spM g.K 2 (mScope (m_row_in_order g)))) : M3.Cal P w g.K mg base 73 "forest_of" ["stands"] (spM g.K 1 (mScope (m_forest_of g))) := by
  refine M3.Cal.imp (D.cal (sp := (spM g.K 1 (m_forest_of g))) sc_forest_of (spM_len rfl) (fun f cdv A outer s H vs Q E hr h => ?_)) scope_ok
  exact body_all (N := ["stands", "parents", "top", "ahead", "house"]) (E := E) ((pss_cons (ps_set (i := 1) sc_forest_of.nd rfl (Or.inl rfl) (pe_op (op_mulM (K := g.K) rfl) ((pe_lst (pa_cons pe_non pa_nil))) (pe_callB (call_lenM (K := g.K) rfl) (by rfl) T.n_len PySem.boot_len (pa_cons (pv 0) pa_nil))))
      (pss_cons (ps_for (passes_of rfl) rfl (pi_range1 rfl T.n_range (pa_cons (pe_callB (call_lenM (K := g.K) rfl) (by rfl) T.n_len PySem.boot_len (pa_cons (pv 0) pa_nil)) pa_nil)) (pg_name (i := 2) sc_forest_of.nd rfl (Or.inl rfl)) (pss_one (ps_if (pt_val (pcal C_is_top hr (by omega) rfl (takes_of rfl rfl rfl rfl) (pa_cons (pv 0) (pa_cons (pv 2) pa_nil)))) (pss_cons (ps_set (i := 3) sc_forest_of.nd rfl (Or.inl rfl) (pe_fldK (K := g.K) rfl (pe_ix (ix_M (K := g.K) rfl) (pv 0) (pv 2) (fun _ _ => rfl)) rfl))
      (pss_one (ps_for (passes_of rfl) rfl (pi_M (K := g.K) rfl (pcal C_row_in_order hr (by omega) rfl (takes_of rfl rfl rfl rfl) (pa_cons (pv 0) (pa_cons (pv 2) pa_nil)))) (pg_name (i := 4) sc_forest_of.nd rfl (Or.inl rfl)) (pss_cons (ps_asg (pv 3) (pg_sub (pv 1) (pv 4) set_list))
      (pss_one (ps_set (i := 3) sc_forest_of.nd rfl (Or.inl rfl) (pv 4))))))) pss_nil)))
      (pss_one (ps_ret (pe_makeS Z.mk_Forest F_Forest_init (hr.mono (by omega)) rfl Z.Forest B_Forest_init (fun σ => passAt (takes_of rfl rfl rfl rfl) σ) (pa_cons (pe_callTy (call_tupM (K := g.K) rfl) (by rfl) T.n_tuple (by decide +kernel) (pa_cons (pv 1) pa_nil)) (pa_cons (pcal C_told_worths hr (by omega) rfl (takes_of rfl rfl rfl rfl) (pa_cons (pv 0) pa_nil)) pa_nil))))))))
    ((ss_seq (ss_asgG (se_trk (sl_mulL (se_frz (sl_lst (sa_cons se_non sa_nil))) (se_call len_ok (sa_cons se_var sa_nil)))) sg_name)
      (ss_seq (ss_for (si_rng1 (sa_cons (se_call len_ok (sa_cons se_var sa_nil)) sa_nil)) sg_name (ss_ifS (st_tst (se_def (sa_cons se_var (sa_cons se_var sa_nil)))) (ss_seq (ss_asgG (se_fld Z.FO (se_op ix_ok se_var se_var)) sg_name)
      (ss_for (si_walk (se_def (sa_cons se_var (sa_cons se_var sa_nil)))) sg_name (ss_seq (ss_asgG se_var (sg_sub se_var se_var))
      (ss_asgG se_var sg_name)))) ss_next))
      (ss_ret (se_new (cr_Forest_ok g) (sa_cons (se_call tuple_ok (sa_cons se_var sa_nil)) (sa_cons (se_def (sa_cons se_var sa_nil)) sa_nil))))))) h

end
end W3
namespace W3
open PySem PySem.Spec PyProof.Rows L2 M3
section
variable {P : Program} {w : World} {g : G} {mg : Str → Option Value} {base : Heap} {f_eBadForest f_eNoHouse f_eNoShape f_eNoTurn f_iForest f_iStand : Addr}
theorem ok_told_forest (D : M3.Def g.K mg "told_forest" s_told_forest ["shape"]) (T : Txt mg) (Z : Fx g w mg f_eBadForest f_eNoHouse f_eNoShape f_eNoTurn f_iForest f_iStand) (C_forest_of : M3.Cal P w g.K mg base 73 "forest_of" ["stands"] (spM g.K 1 (mScope (m_forest_of g)))) (C_stands_of : M3.Cal P w g.K mg base 6 "stands_of" ["shape"] (spM g.K 1 (m_stands_of g))) : M3.Cal P w g.K mg base 74 "told_forest" ["shape"] (spM g.K 1 (mPure (m_told_forest g))) := by
  refine M3.Cal.imp (D.cal (sp := (spM g.K 1 (m_told_forest g))) sc_told_forest (spM_len rfl) (fun f cdv A outer s H vs Q E hr h => ?_)) pure_ok
  exact body_all (N := ["shape"]) (E := E) ((pss_one (ps_ret (pcal C_forest_of hr (by omega) rfl (takes_of rfl rfl rfl rfl) (pa_cons (pcal C_stands_of hr (by omega) rfl (takes_of rfl rfl rfl rfl) (pa_cons (pv 0) pa_nil)) pa_nil)))))
    ((ss_ret (se_def (sa_cons (se_def (sa_cons se_var sa_nil)) sa_nil)))) h

end
end W3
namespace W3
open PySem PySem.Spec PyProof.Rows L2 M3
section
variable {P : Program} {w : World} {g : G} {mg : Str → Option Value} {base : Heap} {f_eBadForest f_eNoHouse f_eNoShape f_eNoTurn f_iForest f_iStand : Addr}
theorem ok_Stand_init {f0 : Addr} {fd0 : FuncData} (F : Fun g.K "__init__" "Stand.__init__" s_Stand_init f0 fd0) (T : Txt mg) (Z : Fx g w mg f_eBadForest f_eNoHouse f_eNoShape f_eNoTurn f_iForest f_iStand) : FnOk P w g.K mg base (L2.CX P w) 1 f0 fd0 ["self", "part"] (spM g.K 2 (m_Stand_init g)) := by
  refine F.okX sc_Stand_init (spM_len rfl) (fun cdv A outer s H vs Q E hr h => ?_)
  exact body_all (N := ["self", "part"]) (E := E) ((pss_one (ps_asg (pv 1) (pg_tup rfl (pgs_cons (pg_fldK (K := g.K) rfl (pv 0)) (pgs_cons (pg_fldK (K := g.K) rfl (pv 0)) (pgs_cons (pg_fldK (K := g.K) rfl (pv 0)) (pgs_cons (pg_fldK (K := g.K) rfl (pv 0)) (pgs_cons (pg_fldK (K := g.K) rfl (pv 0)) (pgs_cons (pg_fldK (K := g.K) rfl (pv 0)) pgs_nil))))))))))
    ((ss_asgG se_var (sg_tup (sgs_cons (fun _ _ => rfl) (sg_fld Z.FO se_var) (sgs_cons (fun _ _ => rfl) (sg_fld Z.FO se_var) (sgs_cons (fun _ _ => rfl) (sg_fld Z.FO se_var) (sgs_cons (fun _ _ => rfl) (sg_fld Z.FO se_var) (sgs_cons (fun _ _ => rfl) (sg_fld Z.FO se_var) (sgs_cons (fun _ _ => rfl) (sg_fld Z.FO se_var) sgs_nil))))))))) h

end
end W3
namespace W3
open PySem PySem.Spec PyProof.Rows L2 M3
section
variable {P : Program} {w : World} {g : G} {mg : Str → Option Value} {base : Heap} {f_eBadForest f_eNoHouse f_eNoShape f_eNoTurn f_iForest f_iStand : Addr}
theorem ok_Forest_init {f0 : Addr} {fd0 : FuncData} (F : Fun g.K "__init__" "Forest.__init__" s_Forest_init f0 fd0) (T : Txt mg) (Z : Fx g w mg f_eBadForest f_eNoHouse f_eNoShape f_eNoTurn f_iForest f_iStand) (C_are_worths : M3.Cal P w g.K mg base 2 "_are_worths" ["thing", "houses"] (spM g.K 2 (mPure (m_are_worths g)))) (C_are_parents : M3.Cal P w g.K mg base 4 "_are_parents" ["thing"] (spM g.K 1 (mPure (m_are_parents g)))) : FnOk P w g.K mg base (L2.CX P w) 5 f0 fd0 ["self", "parents", "worths"] (spM g.K 3 (m_Forest_init g)) := by
  refine F.okX sc_Forest_init (spM_len rfl) (fun cdv A outer s H vs Q E hr h => ?_)
  exact body_all (N := ["self", "parents", "worths"]) (E := E) ((pss_cons (ps_if (pt_not (pt_val (pcal C_are_parents hr (by omega) rfl (takes_of rfl rfl rfl rfl) (pa_cons (pv 1) pa_nil)))) (pss_one (ps_raise_BadForest rfl Z.BadForest hr (takes_of rfl rfl rfl rfl) (pa_cons pe_str pa_nil))) pss_nil)
      (pss_cons (ps_if (pt_not (pt_val (pcal C_are_worths hr (by omega) rfl (takes_of rfl rfl rfl rfl) (pa_cons (pv 2) (pa_cons (pe_callB (call_lenM (K := g.K) rfl) (by rfl) T.n_len PySem.boot_len (pa_cons (pv 1) pa_nil)) pa_nil))))) (pss_one (ps_raise_BadForest rfl Z.BadForest hr (takes_of rfl rfl rfl rfl) (pa_cons pe_str pa_nil))) pss_nil)
      (pss_cons (ps_fld (pv 0) (pv 1) rfl)
      (pss_one (ps_fld (pv 0) (pv 2) rfl))))))
    ((ss_seq (ss_ifS (st_not (st_tst (se_def (sa_cons se_var sa_nil)))) (ss_raise1 (sa_cons se_str sa_nil)) ss_next)
      (ss_seq (ss_ifS (st_not (st_tst (se_def (sa_cons se_var (sa_cons (se_call len_ok (sa_cons se_var sa_nil)) sa_nil))))) (ss_raise1 (sa_cons se_str sa_nil)) ss_next)
      (ss_seq (ss_setF Z.FO se_var se_var)
      (ss_setF Z.FO se_var se_var))))) h

end
end W3
namespace W3
open PySem PySem.Spec PyProof.Rows L2 M3
section
variable {P : Program} {w : World} {g : G} {mg : Str → Option Value} {base : Heap} {f_eBadForest f_eNoHouse f_eNoShape f_eNoTurn f_iForest f_iStand : Addr}
theorem ok_law {f0 : Addr} {fd0 : FuncData} (F : Fun g.K "law" "law" s_law f0 fd0) (T : Txt mg) (Z : Fx g w mg f_eBadForest f_eNoHouse f_eNoShape f_eNoTurn f_iForest f_iStand) (C_L_is : M3.Cal P w g.K mg base 61 "_law_is" ["_law_told_here", "_law_due"] (spM g.K 2 (mPure (m_L_is g 60)))) (C_told_forest : M3.Cal P w g.K mg base 74 "told_forest" ["shape"] (spM g.K 1 (mPure (m_told_forest g)))) (C_L_draw : M3.Cal P w g.K mg base 1 "_law_draw" ["_law_hand_here", "_law_many_here"] (spM g.K 2 (mScope (m_L_draw g)))) (C_L_told : M3.Cal P w g.K mg base 72 "_law_told" ["_law_shape_here"] (spM g.K 1 (mPure (m_L_told g)))) (C_L_is_handed : M3.Cal P w g.K mg base 62 "_law_is_handed" ["_law_shape_here", "_law_house_here"] (spM g.K 2 (mPure (m_L_is_handed g)))) (C_L_is_turned : M3.Cal P w g.K mg base 62 "_law_is_turned" ["_law_shape_here", "_law_house_here"] (spM g.K 2 (mPure (m_L_is_turned g)))) (C_L_is_son : M3.Cal P w g.K mg base 1 "_law_is_son" ["_law_shape_here", "_law_house_here"] (spM g.K 2 (mPure (m_L_is_son g)))) (C_L_shape : M3.Cal P w g.K mg base 3 "_law_shape" ["_law_hand_here", "_law_many_here"] (spM g.K 2 (mScope (m_L_shape g)))) (C_L_many : M3.Cal P w g.K mg base 2 "_law_many" ["_law_hand_here", "_law_most"] (spM g.K 2 (mScope (m_L_many g)))) (C_L_hand : M3.Cal P w g.K mg base 1 "_law_hand" ["_law_script"] (spM g.K 1 (m_L_hand g))) : FnOk P w g.K mg base (L2.CX P w) 75 f0 fd0 ["_law_script"] (spM g.K 1 (m_law g)) := by
  refine F.okX sc_law (spM_len rfl) (fun cdv A outer s H vs Q E hr h => ?_)
  exact body_all (N := ["_law_script", "_law_hand_here", "_law_shape_here", "_law_told_here", "_law_turn", "_law_house_here", "_law_sons", "_law_son", "_law_is_right", "_law_found"]) (E := E) ((pss_cons (ps_set (i := 1) sc_law.nd rfl (Or.inl rfl) (pcal C_L_hand hr (by omega) rfl (takes_of rfl rfl rfl rfl) (pa_cons (pv 0) pa_nil)))
      (pss_cons (ps_set (i := 2) sc_law.nd rfl (Or.inr rfl) (pcal C_L_shape hr (by omega) rfl (takes_of rfl rfl rfl rfl) (pa_cons (pv 1) (pa_cons (pcal C_L_many hr (by omega) rfl (takes_of rfl rfl rfl rfl) (pa_cons (pv 1) (pa_cons pe_int pa_nil))) pa_nil))))
      (pss_cons (ps_set (i := 3) sc_law.nd rfl (Or.inl rfl) (pcal C_L_told hr (by omega) rfl (takes_of rfl rfl rfl rfl) (pa_cons (pv 2) pa_nil)))
      (pss_cons (ps_for (passes_of rfl) rfl (pi_range1 rfl T.n_range (pa_cons (pe_op (op_addM (K := g.K) rfl) pe_int (pcal C_L_draw hr (by omega) rfl (takes_of rfl rfl rfl rfl) (pa_cons (pv 1) (pa_cons pe_int pa_nil)))) pa_nil)) (pg_name (i := 4) sc_law.nd rfl (Or.inl rfl)) (pss_cons (ps_set (i := 5) sc_law.nd rfl (Or.inl rfl) (pcal C_L_draw hr (by omega) rfl (takes_of rfl rfl rfl rfl) (pa_cons (pv 1) (pa_cons (pe_callB (call_lenM (K := g.K) rfl) (by rfl) T.n_len PySem.boot_len (pa_cons (pv 2) pa_nil)) pa_nil))))
      (pss_cons (ps_setLc (i := 6) (own := [("_law_son", 7)]) (g := (gName 7)) (by rfl) sc_law.nd rfl rfl (sw_true rfl rfl rfl (by decide +kernel)) (pi_range1 rfl T.n_range (pa_cons (pe_callB (call_lenM (K := g.K) rfl) (by rfl) T.n_len PySem.boot_len (pa_cons (pv 2) pa_nil)) pa_nil)) (blkOk_by (own := [("_law_son", 7)]) (N := ["_law_script", "_law_hand_here", "_law_shape_here", "_law_told_here", "_law_turn", "_law_house_here", "_law_sons", "_law_son", "_law_is_right", "_law_found"]) (sc := defScope s_law) (by decide +kernel)) (fun _ _ _ _ _ => (pg_name (i := 7) sc_law.nd rfl (Or.inl rfl))) (fun _ _ _ _ _ => pts_one (pt_val (pcalF C_L_is_son hr (by omega) rfl (pa_cons (pv 2) (pa_cons (pv 7) pa_nil))))) (fun _ _ _ _ _ => (pv 7)))
      (pss_cons (ps_if (PW.pt (pw_or (pt_cmpR (op_eqM (K := g.K) rfl hr.units) (pcal C_L_draw hr (by omega) rfl (takes_of rfl rfl rfl rfl) (pa_cons (pv 1) (pa_cons pe_int pa_nil))) pe_int (nomark _)) (pw_or1 (pt_cmpR (op_eqM (K := g.K) rfl hr.units) (pe_callB (call_lenM (K := g.K) rfl) (by rfl) T.n_len PySem.boot_len (pa_cons (pv 6) pa_nil)) pe_int (nomark _))))) (pss_one (ps_asg (pcal C_L_is_handed hr (by omega) rfl (takes_of rfl rfl rfl rfl) (pa_cons (pv 2) (pa_cons (pv 5) pa_nil))) (pg_tup rfl (pgs_cons (pg_name (i := 8) sc_law.nd rfl (Or.inl rfl)) (pgs_cons (pg_name (i := 2) sc_law.nd rfl (Or.inr rfl)) pgs_nil))))) (pss_one (ps_asg (pcal C_L_is_turned hr (by omega) rfl (takes_of rfl rfl rfl rfl) (pa_cons (pv 2) (pa_cons (pe_ix (ix_M (K := g.K) rfl) (pv 6) (pcal C_L_draw hr (by omega) rfl (takes_of rfl rfl rfl rfl) (pa_cons (pv 1) (pa_cons (pe_callB (call_lenM (K := g.K) rfl) (by rfl) T.n_len PySem.boot_len (pa_cons (pv 6) pa_nil)) pa_nil))) (fun _ _ => rfl)) pa_nil))) (pg_tup rfl (pgs_cons (pg_name (i := 8) sc_law.nd rfl (Or.inl rfl)) (pgs_cons (pg_name (i := 2) sc_law.nd rfl (Or.inr rfl)) pgs_nil))))))
      (pss_one (ps_if (PW.pt (pw_or (pt_not (pt_val (pv 8))) (pw_or1 (pt_cmpR (op_neM (K := g.K) rfl hr.units) (pcal C_L_told hr (by omega) rfl (takes_of rfl rfl rfl rfl) (pa_cons (pv 2) pa_nil)) (pv 3) (nomark _))))) (pss_one (ps_ret pe_bl)) pss_nil))))))
      (pss_cons (ps_set (i := 9) sc_law.nd rfl (Or.inl rfl) (pcal C_told_forest hr (by omega) rfl (takes_of rfl rfl rfl rfl) (pa_cons (pv 2) pa_nil)))
      (pss_one (ps_ret (pcal C_L_is hr (by omega) rfl (takes_of rfl rfl rfl rfl) (pa_cons (pe_tup (pa_cons (pe_fldK (K := g.K) rfl (pv 9) rfl) (pa_cons (pe_fldK (K := g.K) rfl (pv 9) rfl) pa_nil))) (pa_cons (pv 3) pa_nil)))))))))))
    ((ss_seq (ss_asgG (se_def (sa_cons se_var sa_nil)) sg_name)
      (ss_seq (ss_asgG (se_def (sa_cons se_var (sa_cons (se_def (sa_cons se_var (sa_cons se_int sa_nil))) sa_nil))) sg_name)
      (ss_seq (ss_asgG (se_def (sa_cons se_var sa_nil)) sg_name)
      (ss_seq (ss_for (si_rng1 (sa_cons (se_op add_ok se_int (se_def (sa_cons se_var (sa_cons se_int sa_nil)))) sa_nil)) sg_name (ss_seq (ss_asgG (se_def (sa_cons se_var (sa_cons (se_call len_ok (sa_cons se_var sa_nil)) sa_nil))) sg_name)
      (ss_seq (ss_asgG (se_frz (sl_lc (si_rng1 (sa_cons (se_call len_ok (sa_cons se_var sa_nil)) sa_nil)) (sgv_name (by decide)) (st_tst (se_defF (sa_cons se_var (sa_cons se_var sa_nil)))) se_var)) sg_name)
      (ss_seq (ss_ifS (st_or (st_test (se_op eq_ok (se_def (sa_cons se_var (sa_cons se_int sa_nil))) se_int)) (st_test (se_op eq_ok (se_call len_ok (sa_cons se_var sa_nil)) se_int))) (ss_asgG (se_def (sa_cons se_var (sa_cons se_var sa_nil))) (sg_tup (sgs_cons (fun _ _ => rfl) sg_name (sgs_cons (fun _ _ => rfl) sg_name sgs_nil)))) (ss_asgG (se_def (sa_cons se_var (sa_cons (se_op ix_ok se_var (se_def (sa_cons se_var (sa_cons (se_call len_ok (sa_cons se_var sa_nil)) sa_nil)))) sa_nil))) (sg_tup (sgs_cons (fun _ _ => rfl) sg_name (sgs_cons (fun _ _ => rfl) sg_name sgs_nil)))))
      (ss_ifS (st_or (st_not (st_tst se_var)) (st_test (se_op ne_ok (se_def (sa_cons se_var sa_nil)) se_var))) (ss_ret se_bl) ss_next)))))
      (ss_seq (ss_asgG (se_def (sa_cons se_var sa_nil)) sg_name)
      (ss_ret (se_def (sa_cons (se_tup (sa_cons (se_fld Z.FO se_var) (sa_cons (se_fld Z.FO se_var) sa_nil))) (sa_cons se_var sa_nil)))))))))) h

end
end W3
namespace W3
open PySem PySem.Spec PyProof.Rows L2 M3
/-! ### small defs -/
theorem is_integer_i (g : G) (i : Int) (S : Store) : mPure (m_is_integer g) [.dat (.int i)] S = .ok (.dat (.bl true)) S := pure_dat rfl (S' := []) (by
  unfold m_is_integer
  dsimp! [])
theorem is_between_i (g : G) (i j k : Int) (S : Store) : mPure (m_is_between g) [.dat (.int i), .dat (.int j), .dat (.int k)] S = .ok (.dat (.bl (decide (i ≤ k) && decide (k ≤ j)))) S := pure_dat rfl (S' := []) (by
  unfold m_is_between
  dsimp! [is_integer_i])
theorem is_house_i (g : G) (n k : Int) (S : Store) : mPure (m_is_house g) [.dat (.int n), .dat (.int k)] S = .ok (.dat (.bl (decide (0 ≤ k) && decide (k ≤ n - 1)))) S := pure_dat rfl (S' := []) (by
  unfold m_is_house
  dsimp! [is_between_i])
theorem is_many_i (g : G) (k : Int) (S : Store) : mPure (m_is_many g) [.dat (.int k)] S = .ok (.dat (.bl (decide (1 ≤ k) && decide (k ≤ 64)))) S := pure_dat rfl (S' := []) (by
  unfold m_is_many
  dsimp! [is_between_i])
/-! ### forests -/
def bls (l : List Bool) : List D := l.map fun b => .dat (.bl b)
theorem tm {δ : DEnv} {S : Store} {J : DEnv → Store → Prop} {Q : Out → Store → Prop} (h : J δ S) : TurnP J Q (.nx δ) S := h
theorem nones (ps : List (Option Nat)) : ((ps.map ov).map D.dat).filterMap (fun d => match d with | .dat .non => some (D.dat (.bl true)) | _ => some (D.dat (.bl false))) = bls (ps.map fun o => o.isNone) := by
  induction ps with
  | nil => rfl
  | cons o ps ih => cases o <;> (simp only [List.map_cons, List.filterMap_cons, ov, ih]; rfl)
theorem come_t (g : G) {ps : List (Option Nat)} (t : W2.Tree ps) (hn : ps.length ≤ 64) (S : Store) : mPure (m_come_to_roots g) [.dat (.tup (ps.map ov))] S = .ok (.dat (.bl true)) S := by
  suffices h : ∃ d S', m_come_to_roots g [.dat (.tup (ps.map ov))] [] = .ok d S' ∧ d = .dat (.bl true) from let ⟨d, S', e, z⟩ := h; pure_dat rfl (z ▸ e)
  unfold m_come_to_roots
  rw [mBody_fin]
  refine fin_ends ?_
  have e1 : ∀ δ S, δ[0]? = some (some (.dat (.tup (ps.map ov)))) → 2 < δ.length → mLc (mWalk (mVar 0)) (gmName 2) mYes (mOp aIsN (mVar 2) (mC .non)) [2] δ S = .ok (bls (ps.map fun o => o.isNone)) S := fun δ S hδ h2 => by
    rw [← nones]
    refine lc_items _ (walk_t (by unfold mVar; rw [hδ])) (by simp; omega) fun d hd => ⟨_, rfl, ?_⟩
    obtain ⟨p, hp, rfl⟩ := List.mem_map.mp hd
    obtain ⟨o, ho, rfl⟩ := List.mem_map.mp hp
    have e : ((wipeD δ [2]).set 2 (some (D.dat (ov o))))[2]? = some (some (.dat (ov o))) := List.getElem?_set_self (by simp [wipeD]; exact h2)
    cases o with
    | none => exact ⟨rfl, by unfold mOp mVar; rw [e]; rfl⟩
    | some q => exact ⟨rfl, by unfold mOp mVar; rw [e]; rfl⟩
  dsimp! [List.length_map]
  rw [e1 _ _ rfl (by simp)]
  dsimp! []
  -- the houses
  refine then_ends (Q1 := fun o S => ∃ δ, o = .nx δ) ?_ (fun o S ⟨δ, e⟩ => by subst e; exact ⟨_, _, rfl, _, rfl, rfl⟩)
  rw [for_items (rng1_ok (n := ps.length) (by dsimp! [List.length_map] <;> rfl) (by omega))]
  refine forL_ends (fun i δ S => ∃ (bs : List Bool) (x2 x3 x4 x5 x6 : Option D), δ = [some (.dat (.tup (ps.map ov))), some (.obj 0), x2, x3, x4, x5, x6] ∧ S[0]? = some (.lst (bls bs)) ∧ bs.length = ps.length ∧ ∀ h : Nat, ps[h]? = some none → bs[h]? = some true) (i := 0)
    ⟨ps.map fun o => o.isNone, none, none, none, none, none, rfl, rfl, by simp, fun h e => by rw [List.getElem?_map, e]; rfl⟩ ?_ (fun δ S _ => ⟨_, rfl⟩)
  rintro i d δ S hd ⟨bs, x2, x3, x4, x5, x6, rfl, hS, hb, hr⟩
  obtain ⟨hi, rfl⟩ := rngD_get hd
  have hS0 := lt_of_get hS
  dsimp! []
  refine then_ends (Q1 := fun o S' => ∃ (a x5 : Option D) (line : List Nat) (bs : List Bool), o = .nx [some (.dat (.tup (ps.map ov))), some (.obj 0), x2, some (.dat (.int (0 + (i : Int)))), some (.obj S.length), x5, x6] ∧ S'[0]? = some (.lst (bls bs)) ∧ bs.length = ps.length ∧ (∀ h : Nat, ps[h]? = some none → bs[h]? = some true) ∧ S'[S.length]? = some (.lst ((line.map nv).map .dat)) ∧ a = x5 ∧ ∀ x ∈ line, x < ps.length) ?_ ?_
  · refine while_ends (m := (W2.up ps i).length) (fun m δ S' => ∃ (line : List Nat) (a : Nat) (r : List Nat) (bs : List Bool), δ = [some (.dat (.tup (ps.map ov))), some (.obj 0), x2, some (.dat (.int (0 + (i : Int)))), some (.obj S.length), some (.dat (nv a)), x6] ∧ S'[0]? = some (.lst (bls bs)) ∧ bs.length = ps.length ∧ (∀ h : Nat, ps[h]? = some none → bs[h]? = some true) ∧ S'[S.length]? = some (.lst ((line.map nv).map .dat)) ∧ W2.Ch ps i (line ++ a :: r) ∧ m = (a :: r).length) (by have := (t i hi).2; omega) ?_ ?_
    · obtain ⟨c, _⟩ := t i hi
      obtain ⟨r, er⟩ := c.head
      refine ⟨[], i, r, bs, by rw [Int.zero_add]; rfl, get_app hS, hb, hr, get_new, er ▸ c, by rw [er]⟩
    · rintro m δ S' ⟨line, a, r, bs, rfl, h0, hb, hr, hL, c, rfl⟩
      have ha : a < ps.length := c.lt a (by simp)
      have eb : bs[a]? = some bs[a] := List.getElem?_eq_getElem (by omega)
      have ec : W2.Ch ps a (a :: r) := W2.Ch.tail c
      have hlen := c.len
      rw [List.length_append, List.length_cons] at hlen
      have eix : aIx S' (.obj 0) (.dat (nv a)) = some (.dat (.bl bs[a])) := ix_o h0 (atN (map_get eb))
      refine ⟨!bs[a], S', by dsimp! [eix], fun hx => ?_, fun hx => ?_⟩
      · have hpa : ps[a]? ≠ some none := fun z => by
          have := hr a z
          rw [eb] at this
          have := Option.some.inj this
          rw [this] at hx; cases hx
        cases ec with
        | root e => exact absurd e hpa
        | @step _ p l e c2 =>
          obtain ⟨r2, e2⟩ := c2.head
          subst e2
          have elen : aLen S' [.obj S.length] = some (.dat (.int (line.length : Nat))) := by
            rw [len_o hL]; simp
          have eap : updL fAppend (.obj S.length) [.dat (nv a)] S' = .ok (.dat .non) (S'.set S.length (.lst ((line.map nv).map .dat ++ [.dat (nv a)]))) := app_o hL (by simp; omega)
          have epx : aIx (S'.set S.length (.lst ((line.map nv).map .dat ++ [.dat (nv a)]))) (.dat (.tup (ps.map ov))) (.dat (nv a)) = some (.dat (ov (some p))) := ix_t (atN (map_get e))
          have ene : decide ((line.length : Int) = (ps.length : Int)) = false := decide_eq_false (by omega)
          unfold mBM
          dsimp! [elen, List.length_map, ene, kind_o hL, eap, epx]
          refine Ends.of (tm ⟨_, Nat.lt_succ_self _, line ++ [a], p, r2, bs, rfl, get_set (by omega) h0, hb, hr, ?_, by simpa using c, rfl⟩)
          rw [get_set_self hL]
          simp
      · exact ⟨_, _, line, bs, rfl, h0, hb, hr, hL, rfl, fun x hx => c.lt x (by simp [hx])⟩
  · rintro o S' ⟨a, x5, line, bs, rfl, h0, hb, hr, hL, _, hx⟩
    dsimp! []
    rw [for_ob (walk_o (o := S.length) (by dsimp! [] <;> rfl) hL) hL]
    refine forO_ends (l := (line.map nv).map .dat) (fun j δ S'' => ∃ (bs : List Bool) (x6 : Option D), δ = [some (.dat (.tup (ps.map ov))), some (.obj 0), x2, some (.dat (.int (0 + (i : Int)))), some (.obj S.length), x5, x6] ∧ S''[0]? = some (.lst (bls bs)) ∧ bs.length = ps.length ∧ (∀ h : Nat, ps[h]? = some none → bs[h]? = some true) ∧ S''[S.length]? = some (.lst ((line.map nv).map .dat))) (fun j δ S'' ⟨_, _, _, _, _, _, h⟩ => h) ?_ ?_ (by simp) ⟨bs, x6, rfl, h0, hb, hr, hL⟩
    · rintro j d δ S'' ej ⟨bs, x6, rfl, h0, hb, hr, hL⟩
      obtain ⟨p, hp, rfl⟩ := List.mem_map.mp (List.mem_of_getElem? ej)
      obtain ⟨h, hh, rfl⟩ := List.mem_map.mp hp
      have es : setD (.obj 0) (.dat (nv h)) (.dat (.bl true)) S'' = some (S''.set 0 (.lst ((bls bs).set h (.dat (.bl true))))) := setD_o h0 (ixN_nat (by unfold bls; rw [List.length_map, hb]; exact hx h hh))
      dsimp! [es]
      refine Ends.of (tm ⟨bs.set h true, _, rfl, ?_, by simp [hb], fun k ek => ?_, get_set (by omega) hL⟩)
      · rw [get_set_self h0]
        unfold bls
        rw [List.map_set]
      · by_cases e : h = k
        · subst e; rw [List.getElem?_set_self (by have := lt_of_get (hr _ ek); exact this)]
        · rw [List.getElem?_set_ne e]; exact hr k ek
    · rintro δ S'' ⟨bs, x6, rfl, h0, hb, hr, hL⟩
      exact ⟨bs, _, _, _, _, _, rfl, h0, hb, hr⟩
end W3
namespace W3
open PySem PySem.Spec PyProof.Rows L2 M3
theorem all_true {α : Type} (xs : List α) : (xs.map fun _ => true).all id = true := by simp
theorem are_parents_t (g : G) {ps : List (Option Nat)} (t : W2.Tree ps) (h1 : 1 ≤ ps.length) (hn : ps.length ≤ 64) (S : Store) : mPure (m_are_parents g) [.dat (.tup (ps.map ov))] S = .ok (.dat (.bl true)) S := by
  refine pure_dat rfl (S' := []) ?_
  unfold m_are_parents
  have e1 : decide ((1 : Int) ≤ (ps.length : Int)) = true := decide_eq_true (by omega)
  have e2 : decide ((ps.length : Int) ≤ 64) = true := decide_eq_true (by omega)
  dsimp! [is_many_i, List.length_map, e1, e2]
  rw [lc_all (xs := ps) (fun o => .dat (ov o)) (fun _ => .bl true) (by rw [walk_t (l := ps.map ov) (by dsimp! [] <;> rfl)]; rw [List.map_map]; rfl) (by omega) fun o ho => ⟨_, rfl, rfl, ?_⟩]
  · dsimp! [e1, e2, come_t g t hn]
    rw [show ps.map (fun _ => P.bl true) = (ps.map fun _ => true).map P.bl by rw [List.map_map]; rfl, all_lst, all_true]
    dsimp! [come_t g t hn]
  · cases o with
    | none => dsimp! [ov]
    | some q =>
      obtain ⟨i, hi, e⟩ := List.getElem_of_mem ho
      have hq : q < ps.length := t.inr i q (List.getElem?_eq_some_iff.mpr ⟨hi, e⟩)
      have e3 : decide ((0 : Int) ≤ (q : Int)) = true := decide_eq_true (by omega)
      have e4 : decide ((q : Int) ≤ (ps.length : Int) - 1) = true := decide_eq_true (by omega)
      dsimp! [ov, is_house_i, List.length_map, e3, e4]
theorem are_worths_t (g : G) (ws : List Int) (hn : ws.length ≤ 64) (S : Store) : mPure (m_are_worths g) [.dat (.tup (ws.map .int)), .dat (.int (ws.length : Int))] S = .ok (.dat (.bl true)) S := by
  refine pure_dat rfl (S' := []) ?_
  unfold m_are_worths
  dsimp! [List.length_map]
  rw [lc_all (xs := ws) (fun o => .dat (.int o)) (fun _ => .bl true) (by rw [walk_t (l := ws.map .int) (by dsimp! [] <;> rfl)]; rw [List.map_map]; rfl) (by omega) fun o ho => ⟨_, rfl, rfl, ?_⟩]
  · dsimp! []
    rw [show ws.map (fun _ => P.bl true) = (ws.map fun _ => true).map P.bl by rw [List.map_map]; rfl, all_lst, all_true]
    dsimp! []
  · dsimp! [is_integer_i]
def forP (g : G) (ps : List (Option Nat)) (ws : List Int) : P := .ins g.Forest [("parents", .tup (ps.map ov)), ("worths", .tup (ws.map .int))]
theorem wp_ : ¬ (("worths" : Str) = "parents") := by decide +kernel
theorem pw_ : ¬ (("parents" : Str) = "worths") := by decide +kernel
theorem fl_p {g : G} (X : Gx g) : (g.Forest, ("parents" : Str)) ∈ g.FL := by rw [X.FL]; simp
theorem fl_w {g : G} (X : Gx g) : (g.Forest, ("worths" : Str)) ∈ g.FL := by rw [X.FL]; simp
theorem fld_parents {g : G} (X : Gx g) {ps : List (Option Nat)} {ws : List Int} {S : Store} : fldD g.FL "parents" S (.dat (forP g ps ws)) = some (.dat (.tup (ps.map ov))) := fld_ins (fl_p X) (if_pos rfl)
theorem fld_worths {g : G} (X : Gx g) {ps : List (Option Nat)} {ws : List Int} {S : Store} : fldD g.FL "worths" S (.dat (forP g ps ws)) = some (.dat (.tup (ws.map .int))) := fld_ins (fl_w X) ((if_neg wp_).trans (if_pos rfl))
theorem made_t (g : G) (X : Gx g) {ps : List (Option Nat)} {ws : List Int} (t : W2.Tree ps) (h1 : 1 ≤ ps.length) (hn : ps.length ≤ 64) (hw : ws.length = ps.length) (S : Store) : mPure (mkC g.Forest (m_Forest_init g)) [.dat (.tup (ps.map ov)), .dat (.tup (ws.map .int))] S = .ok (.dat (forP g ps ws)) S := by
  have e1 : m_Forest_init g [.obj 0, .dat (.tup (ps.map ov)), .dat (.tup (ws.map .int))] [.ins g.Forest []] = .ok (.dat .non) [.ins g.Forest [("parents", .dat (.tup (ps.map ov))), ("worths", .dat (.tup (ws.map .int)))]] := by
    have q1 : setF g.FL "parents" (.obj 0) (.dat (.tup (ps.map ov))) [.ins g.Forest []] = some [.ins g.Forest [("parents", .dat (.tup (ps.map ov)))]] := setF_o (l := []) (S := [.ins g.Forest []]) rfl (fl_p X) (by decide)
    have q2 : setF g.FL "worths" (.obj 0) (.dat (.tup (ws.map .int))) [.ins g.Forest [("parents", .dat (.tup (ps.map ov)))]] = some [.ins g.Forest [("parents", .dat (.tup (ps.map ov))), ("worths", .dat (.tup (ws.map .int)))]] := by
      rw [setF_o (S := [.ins g.Forest [("parents", .dat (.tup (ps.map ov)))]]) rfl (fl_w X) (by simp)]
      have : putD "worths" (D.dat (.tup (ws.map .int))) [(("parents" : Str), D.dat (.tup (ps.map ov)))] = [(("parents" : Str), D.dat (.tup (ps.map ov))), (("worths" : Str), D.dat (.tup (ws.map .int)))] := by
        unfold putD; rw [if_neg pw_]; rfl
      rw [this]; rfl
    have e3 : (ps.length : Int) = (ws.length : Int) := by omega
    unfold m_Forest_init mSetF
    dsimp! [are_parents_t g t h1 hn, List.length_map, e3, are_worths_t g ws (by omega), q1, q2]
  refine pure_obj rfl (i := 0) (S' := [.ins g.Forest [("parents", .dat (.tup (ps.map ov))), ("worths", .dat (.tup (ws.map .int)))]]) ?_ rfl
  unfold mkC
  rw [show ([] : Store) ++ [.ins g.Forest []] = [.ins g.Forest []] from rfl]
  show (m_Forest_init g [.obj 0, _, _] _).bind _ = _
  rw [e1]; rfl
theorem up_len {ps : List (Option Nat)} (t : W2.Tree ps) {h : Nat} (hh : h < ps.length) : (W2.up ps h).length ≤ ps.length ∧ 0 < (W2.up ps h).length := by
  obtain ⟨c, l⟩ := t h hh
  obtain ⟨r, e⟩ := c.head
  exact ⟨l, by rw [e]; simp⟩
noncomputable def rt (ps : List (Option Nat)) (h : Nat) : Nat := (W2.up ps h).getLast?.getD 0
theorem last_rt {ps : List (Option Nat)} (t : W2.Tree ps) {h : Nat} (hh : h < ps.length) : (W2.up ps h).getLast? = some (rt ps h) := by
  have := (up_len t hh).2
  unfold rt
  cases q : (W2.up ps h).getLast? with
  | none => rw [List.getLast?_eq_none_iff] at q; rw [q] at this; simp at this
  | some r => rfl
noncomputable def bel (ps : List (Option Nat)) (h : Nat) : List Nat := (List.range ps.length).filter fun k => decide (h ∈ W2.up ps k)
theorem fm_if {l : List Nat} {p : Nat → Bool} : l.filterMap (fun k => if p k = true then some (nv k) else none) = (l.filter p).map nv := by
  induction l with
  | nil => rfl
  | cons a l ih =>
    rw [List.filterMap_cons, List.filter_cons, ih]
    cases p a <;> rfl
end W3
namespace W3
/-! ### shapes -/
structure Hs where
  up : Option Nat
  left : Option Nat
  right : Option Nat
  turned : Bool
  added : Int
  value : Int
abbrev Shp := List Hs
def ups (s : Shp) : List (Option Nat) := s.map Hs.up
def SonOf (s : Shp) (u h : Nat) : Prop := ∃ y, s[u]? = some y ∧ (y.left = some h ∨ y.right = some h)
def Son (s : Shp) (h : Nat) : Prop := ∃ u, SonOf s u h
structure RS (s : Shp) : Prop where
  n1 : 1 ≤ s.length
  n64 : s.length ≤ 64
  son : ∀ (u h : Nat), SonOf s u h → ∃ x, s[h]? = some x ∧ x.up = some u
  ne : ∀ (u c : Nat) (y : Hs), s[u]? = some y → y.left = some c → y.right ≠ some c
  tree : W2.Tree (ups s)
theorem ups_len {s : Shp} : (ups s).length = s.length := List.length_map ..
theorem ups_at {s : Shp} {h : Nat} {x : Hs} (e : s[h]? = some x) : (ups s)[h]? = some x.up := by unfold ups; rw [List.getElem?_map, e]; rfl
theorem at_of {s : Shp} {h : Nat} (hh : h < s.length) : ∃ x, s[h]? = some x := ⟨_, List.getElem?_eq_getElem hh⟩
theorem lt_at {α : Type} {s : List α} {h : Nat} {x : α} (e : s[h]? = some x) : h < s.length := (List.getElem?_eq_some_iff.mp e).1
section
variable {s : Shp} (R : RS s)
include R
theorem RS.up_lt {h u : Nat} {x : Hs} (e : s[h]? = some x) (q : x.up = some u) : u < s.length := by
  have := R.tree.inr h u (by rw [ups_at e, q])
  rwa [ups_len] at this
theorem RS.upc {u h : Nat} (so : SonOf s u h) : W2.up (ups s) h = h :: W2.up (ups s) u := by
  obtain ⟨x, e, q⟩ := R.son u h so
  have hu := R.up_lt e q
  exact W2.up_of (W2.Ch.step (by rw [ups_at e, q]) (R.tree u (by rw [ups_len]; exact hu)).1)
theorem RS.chain {h : Nat} (hh : h < s.length) : W2.Ch (ups s) h (W2.up (ups s) h) ∧ (W2.up (ups s) h).length ≤ s.length ∧ 1 ≤ (W2.up (ups s) h).length := by
  obtain ⟨c, l⟩ := R.tree h (by rw [ups_len]; exact hh)
  obtain ⟨r, e⟩ := c.head
  exact ⟨c, by rwa [ups_len] at l, by rw [e]; simp⟩
theorem RS.sonof_inj {u v h : Nat} (a : SonOf s u h) (b : SonOf s v h) : u = v := by
  obtain ⟨x, e, q⟩ := R.son u h a
  obtain ⟨y, e', q'⟩ := R.son v h b
  rw [e] at e'
  cases e'
  rw [q] at q'
  exact Option.some.inj q'
end
/-- the part of a house, in order, with values as told -/
inductive Pt (s : Shp) : Nat → Option Nat → Bool → Int → List (Nat × Int) → Prop
  | nil {d : Nat} {b : Bool} {acc : Int} : Pt s (d + 1) none b acc []
  | node {d h : Nat} {x : Hs} {b : Bool} {acc : Int} {l r : List (Nat × Int)} (e : s[h]? = some x) (pl : Pt s d x.left (xor b x.turned) (acc + x.added) l) (pr : Pt s d x.right (xor b x.turned) (acc + x.added) r) :
      Pt s (d + 1) (some h) b acc (if xor b x.turned = true then r ++ (h, x.value + acc) :: l else l ++ (h, x.value + acc) :: r)
theorem Pt.det {s : Shp} {d : Nat} {o : Option Nat} {b : Bool} {acc : Int} {l : List (Nat × Int)} (p : Pt s d o b acc l) : ∀ {d' : Nat} {l' : List (Nat × Int)}, Pt s d' o b acc l' → l = l' := by
  induction p with
  | nil => intro d' l' q; cases q; rfl
  | node e _ _ ih1 ih2 =>
    intro d' l' q
    cases q with
    | node e' q1 q2 =>
      rw [e] at e'
      cases e'
      rw [ih1 q1, ih2 q2]
theorem Pt.mono {s : Shp} {d : Nat} {o : Option Nat} {b : Bool} {acc : Int} {l : List (Nat × Int)} (p : Pt s d o b acc l) : ∀ {d' : Nat}, d ≤ d' → Pt s d' o b acc l := by
  induction p with
  | nil => intro d' h; cases d' with
    | zero => omega
    | succ d' => exact .nil
  | node e _ _ ih1 ih2 => intro d' h; cases d' with
    | zero => omega
    | succ d' => exact .node e (ih1 (by omega)) (ih2 (by omega))
section
variable {s : Shp} (R : RS s)
include R
theorem RS.pt_ex : ∀ (k : Nat) {h : Nat} (b : Bool) (acc : Int), h < s.length → (W2.up (ups s) h).length + k = s.length + 1 → ∃ l, Pt s (k + 1) (some h) b acc l
  | 0, h, b, acc, hh, e => by have := (R.chain hh).2.1; omega
  | k + 1, h, b, acc, hh, e => by
    obtain ⟨x, ex⟩ := at_of hh
    have sub : ∀ o : Option Nat, (o = x.left ∨ o = x.right) → ∃ l, Pt s (k + 1) o (xor b x.turned) (acc + x.added) l := fun o ho => by
      cases o with
      | none => exact ⟨[], .nil⟩
      | some c =>
        have so : SonOf s h c := ⟨x, ex, ho.imp Eq.symm Eq.symm⟩
        obtain ⟨y, ey, _⟩ := R.son h c so
        refine RS.pt_ex k _ _ (lt_at ey) ?_
        rw [R.upc so, List.length_cons]
        omega
    obtain ⟨l, pl⟩ := sub _ (.inl rfl)
    obtain ⟨r, pr⟩ := sub _ (.inr rfl)
    exact ⟨_, .node ex pl pr⟩
theorem RS.pt {h : Nat} (b : Bool) (acc : Int) (hh : h < s.length) : ∃ l, Pt s 66 (some h) b acc l := by
  have c := R.chain hh
  have n := R.n64
  obtain ⟨l, p⟩ := R.pt_ex (s.length + 1 - (W2.up (ups s) h).length) b acc hh (by omega)
  exact ⟨l, p.mono (by omega)⟩
end
/-- climbing from a house to x by sons: the sum of what waits on the way -/
inductive Cx (s : Shp) (x : Nat) : Nat → Int → Prop
  | here : Cx s x x 0
  | step {h u : Nat} {y : Hs} {w : Int} (e : s[u]? = some y) (so : y.left = some h ∨ y.right = some h) (c : Cx s x u w) : Cx s x h (w + y.added)
theorem Cx.trans {s : Shp} {x y h : Nat} {v w : Int} (c : Cx s x h v) (k : Cx s y x w) : Cx s y h (w + v) := by
  induction c with
  | here => rw [Int.add_zero]; exact k
  | step e so _ ih => rw [← Int.add_assoc]; exact .step e so ih
theorem Pt.climb {s : Shp} {d : Nat} {o : Option Nat} {b : Bool} {acc : Int} {l : List (Nat × Int)} (p : Pt s d o b acc l) : ∀ {x : Nat}, o = some x → ∀ z ∈ l, ∃ (c : Int) (y : Hs), Cx s x z.1 c ∧ s[z.1]? = some y ∧ z.2 = y.value + acc + c := by
  induction p with
  | nil => intro x e; cases e
  | @node d h x b acc l r e pl pr ih1 ih2 =>
    intro x' ex z m
    cases ex
    have go : ∀ (o : Option Nat) (l : List (Nat × Int)), (o = x.left ∨ o = x.right) → (∀ {x' : Nat}, o = some x' → ∀ z ∈ l, ∃ (c : Int) (y : Hs), Cx s x' z.1 c ∧ s[z.1]? = some y ∧ z.2 = y.value + (acc + x.added) + c) → (o = none → l = []) → z ∈ l → ∃ (c : Int) (y : Hs), Cx s h z.1 c ∧ s[z.1]? = some y ∧ z.2 = y.value + acc + c := fun o l ho ih n m => by
      cases o with
      | none => rw [n rfl] at m; cases m
      | some k =>
        obtain ⟨c, y, cx, ey, ez⟩ := ih rfl z m
        have k1 : Cx s h k (0 + x.added) := .step e (ho.imp Eq.symm Eq.symm) .here
        refine ⟨_, y, cx.trans k1, ey, ?_⟩
        rw [ez]; omega
    have nl : x.left = none → l = [] := fun q => by rw [q] at pl; cases pl; rfl
    have nr : x.right = none → r = [] := fun q => by rw [q] at pr; cases pr; rfl
    have me : z = (h, x.value + acc) → ∃ (c : Int) (y : Hs), Cx s h z.1 c ∧ s[z.1]? = some y ∧ z.2 = y.value + acc + c := fun q => by
      subst q; exact ⟨0, x, .here, e, by simp⟩
    split at m
    · rcases List.mem_append.mp m with m | m
      · exact go _ r (.inr rfl) ih2 nr m
      · rcases List.mem_cons.mp m with m | m
        · exact me m
        · exact go _ l (.inl rfl) ih1 nl m
    · rcases List.mem_append.mp m with m | m
      · exact go _ l (.inl rfl) ih1 nl m
      · rcases List.mem_cons.mp m with m | m
        · exact me m
        · exact go _ r (.inr rfl) ih2 nr m
theorem Pt.head {s : Shp} {d h : Nat} {b : Bool} {acc : Int} {l : List (Nat × Int)} (p : Pt s d (some h) b acc l) : h ∈ l.map Prod.fst := by
  cases p with
  | node e pl pr => split <;> simp
theorem Pt.down {s : Shp} {d : Nat} {o : Option Nat} {b : Bool} {acc : Int} {l : List (Nat × Int)} (p : Pt s d o b acc l) : ∀ {u h : Nat}, u ∈ l.map Prod.fst → SonOf s u h → h ∈ l.map Prod.fst := by
  induction p with
  | nil => intro u h m; cases m
  | @node d k x b acc l r e pl pr ih1 ih2 =>
    intro u h m so
    have me : u = k → h ∈ l.map Prod.fst ∨ h ∈ r.map Prod.fst := fun q => by
      subst q
      obtain ⟨y, ey, hy⟩ := so
      rw [e] at ey
      cases ey
      rcases hy with hy | hy
      · rw [hy] at pl; exact .inl pl.head
      · rw [hy] at pr; exact .inr pr.head
    have key : h ∈ l.map Prod.fst ∨ h ∈ r.map Prod.fst := by
      split at m
      · simp only [List.map_append, List.map_cons, List.mem_append, List.mem_cons] at m
        rcases m with m | m | m
        · exact .inr (ih2 m so)
        · exact me m
        · exact .inl (ih1 m so)
      · simp only [List.map_append, List.map_cons, List.mem_append, List.mem_cons] at m
        rcases m with m | m | m
        · exact .inl (ih1 m so)
        · exact me m
        · exact .inr (ih2 m so)
    split <;> (simp only [List.map_append, List.map_cons, List.mem_append, List.mem_cons]; rcases key with q | q <;> simp [q])
theorem Pt.cover {s : Shp} {d x : Nat} {b : Bool} {acc : Int} {l : List (Nat × Int)} (p : Pt s d (some x) b acc l) {h : Nat} {w : Int} (c : Cx s x h w) : h ∈ l.map Prod.fst := by
  induction c with
  | here => exact p.head
  | step e so _ ih => exact p.down ih ⟨_, e, so⟩
section
variable {s : Shp} (R : RS s)
include R
theorem RS.cx_up {x h : Nat} {w : Int} (hx : x < s.length) (c : Cx s x h w) : ∃ pre, W2.up (ups s) h = pre ++ W2.up (ups s) x ∧ (∀ y ∈ pre, Son s y) ∧ h < s.length := by
  induction c with
  | here => exact ⟨[], rfl, fun y m => (nomatch m), hx⟩
  | @step h u y w e so _ ih =>
    obtain ⟨pre, e1, hs, _⟩ := ih
    have sof : SonOf s u h := ⟨y, e, so⟩
    obtain ⟨z, ez, _⟩ := R.son u h sof
    refine ⟨h :: pre, by rw [R.upc sof, e1]; rfl, fun z m => ?_, lt_at ez⟩
    rcases List.mem_cons.mp m with rfl | m
    · exact ⟨u, sof⟩
    · exact hs z m
theorem RS.up_head {x : Nat} (hx : x < s.length) : ∃ r, W2.up (ups s) x = x :: r := (R.chain hx).1.head
/-- the first on the way up that is no son -/
theorem first_split {P : Nat → Prop} : ∀ {p q : List Nat} {a b : Nat} {r t : List Nat}, p ++ a :: r = q ++ b :: t → (∀ y ∈ p, P y) → (∀ y ∈ q, P y) → ¬ P a → ¬ P b → a = b
  | [], [], a, b, r, t, e, _, _, _, _ => (List.cons.inj e).1
  | [], y :: q, a, b, r, t, e, _, hq, na, _ => by
    have := (List.cons.inj e).1
    subst this
    exact absurd (hq _ (by simp)) na
  | y :: p, [], a, b, r, t, e, hp, _, _, nb => by
    have := (List.cons.inj e).1
    subst this
    exact absurd (hp _ (by simp)) nb
  | y :: p, z :: q, a, b, r, t, e, hp, hq, na, nb => first_split (List.cons.inj e).2 (fun y m => hp y (List.mem_cons_of_mem _ m)) (fun y m => hq y (List.mem_cons_of_mem _ m)) na nb
theorem RS.top_inj {t u h : Nat} {v w : Int} (ht : t < s.length) (hu : u < s.length) (nt : ¬ Son s t) (nu : ¬ Son s u) (c : Cx s t h v) (k : Cx s u h w) : t = u := by
  obtain ⟨p, e1, hp, _⟩ := R.cx_up ht c
  obtain ⟨q, e2, hq, _⟩ := R.cx_up hu k
  obtain ⟨r, er⟩ := R.up_head ht
  obtain ⟨r', er'⟩ := R.up_head hu
  rw [er] at e1
  rw [er'] at e2
  exact first_split R (e1.symm.trans e2) hp hq nt nu
theorem RS.top_ex : ∀ (k : Nat) {h : Nat}, h < s.length → (W2.up (ups s) h).length ≤ k → ∃ (t : Nat) (w : Int), t < s.length ∧ ¬ Son s t ∧ Cx s t h w
  | 0, h, hh, e => by have := (R.chain hh).2.2; omega
  | k + 1, h, hh, e => by
    by_cases c : Son s h
    · obtain ⟨u, so⟩ := c
      have q := R.upc so
      rw [q, List.length_cons] at e
      obtain ⟨y, ey, hy⟩ := id so
      obtain ⟨t, w, ht, nt, cx⟩ := RS.top_ex k (h := u) (lt_at ey) (by omega)
      exact ⟨t, _, ht, nt, .step ey hy cx⟩
    · exact ⟨h, 0, hh, c, .here⟩
theorem RS.top {h : Nat} (hh : h < s.length) : ∃ (t : Nat) (w : Int), t < s.length ∧ ¬ Son s t ∧ Cx s t h w := R.top_ex _ hh (Nat.le_refl _)
theorem RS.cx_inj {x h : Nat} {v w : Int} (hx : x < s.length) (c : Cx s x h v) (k : Cx s x h w) : v = w := by
  have key : ∀ {h : Nat} {v : Int}, Cx s x h v → ∀ {w : Int}, Cx s x h w → v = w := by
    intro h v c
    induction c with
    | here =>
      intro w k
      cases k with
      | here => rfl
      | @step _ u y w e so k =>
        obtain ⟨p, e1, _, _⟩ := R.cx_up hx k
        have := R.upc ⟨y, e, so⟩
        rw [e1] at this
        have := congrArg List.length this
        simp at this
        omega
    | @step h u y v e so c ih =>
      intro w k
      cases k with
      | here =>
        obtain ⟨p, e1, _, _⟩ := R.cx_up hx c
        have := R.upc ⟨y, e, so⟩
        rw [e1] at this
        have := congrArg List.length this
        simp at this
        omega
      | @step _ u' y' w e' so' k =>
        have := R.sonof_inj ⟨y, e, so⟩ ⟨y', e', so'⟩
        subst this
        rw [e] at e'
        cases e'
        rw [ih k]
  exact key c k
theorem RS.nodup {d : Nat} {o : Option Nat} {b : Bool} {acc : Int} {l : List (Nat × Int)} (p : Pt s d o b acc l) (ho : ∀ x, o = some x → x < s.length) : (l.map Prod.fst).Nodup := by
  induction p with
  | nil => exact List.nodup_nil
  | @node d h x b acc l r e pl pr ih1 ih2 =>
    have hh := lt_at e
    have lt : ∀ {c : Nat}, (x.left = some c ∨ x.right = some c) → c < s.length := fun {c} q => by
      obtain ⟨y, ey, _⟩ := R.son h c ⟨x, e, q⟩
      exact lt_at ey
    have nl := ih1 fun c q => lt (.inl q)
    have nr := ih2 fun c q => lt (.inr q)
    -- a house of the left's part goes up by way of the left
    have by_ : ∀ {o : Option Nat} {m : List (Nat × Int)} {acc : Int} {b : Bool}, (o = x.left ∨ o = x.right) → Pt s d o b acc m → ∀ k ∈ m.map Prod.fst, ∃ c pre, o = some c ∧ W2.up (ups s) k = pre ++ c :: W2.up (ups s) h := fun {o m acc b} q p k hk => by
      cases o with
      | none => cases p; cases hk
      | some c =>
        obtain ⟨z, mz, rfl⟩ := List.mem_map.mp hk
        obtain ⟨v, y, cx, _⟩ := p.climb rfl z mz
        have sof : SonOf s h c := ⟨x, e, q.imp Eq.symm Eq.symm⟩
        obtain ⟨pre, e1, _⟩ := R.cx_up (lt (q.imp Eq.symm Eq.symm)) cx
        exact ⟨c, pre, rfl, by rw [e1, R.upc sof]⟩
    have len : ∀ {o : Option Nat} {m : List (Nat × Int)} {acc : Int} {b : Bool}, (o = x.left ∨ o = x.right) → Pt s d o b acc m → h ∉ m.map Prod.fst := fun {o m acc b} q p hk => by
      obtain ⟨c, pre, _, e1⟩ := by_ q p h hk
      have := congrArg List.length e1
      simp at this
      omega
    have dis : ∀ k ∈ l.map Prod.fst, k ∉ r.map Prod.fst := fun k k1 k2 => by
      obtain ⟨c1, p1, q1, e1⟩ := by_ (.inl rfl) pl k k1
      obtain ⟨c2, p2, q2, e2⟩ := by_ (.inr rfl) pr k k2
      have e3 : (p1 ++ [c1]) ++ W2.up (ups s) h = (p2 ++ [c2]) ++ W2.up (ups s) h := by rw [List.append_assoc, List.append_assoc]; exact e1.symm.trans e2
      have e4 := List.append_cancel_right e3
      have e5 : c1 = c2 := by
        have := congrArg List.getLast? e4
        simpa using this
      subst e5
      exact R.ne h c1 x e q1 q2
    split
    · simp only [List.map_append, List.map_cons]
      exact List.nodup_append.mpr ⟨nr, List.nodup_cons.mpr ⟨len (.inl rfl) pl, nl⟩, fun a m1 b m2 q => by
        subst q
        rcases List.mem_cons.mp m2 with q | q
        · subst q; exact len (.inr rfl) pr m1
        · exact dis a q m1⟩
    · simp only [List.map_append, List.map_cons]
      exact List.nodup_append.mpr ⟨nl, List.nodup_cons.mpr ⟨len (.inr rfl) pr, nr⟩, fun a m1 b m2 q => by
        subst q
        rcases List.mem_cons.mp m2 with q | q
        · subst q; exact len (.inl rfl) pl m1
        · exact dis a m1 q⟩
end
/-- the row of a top -/
def Row (s : Shp) (t : Nat) (l : List (Nat × Int)) : Prop := t < s.length ∧ ¬ Son s t ∧ Pt s 66 (some t) false 0 l
/-- what is told -/
structure Told (s : Shp) (ps : List (Option Nat)) (ws : List Int) : Prop where
  lp : ps.length = s.length
  lw : ws.length = s.length
  par : ∀ (t : Nat) (l : List (Nat × Int)) (x : Hs), Row s t l → s[t]? = some x → ∀ (i h : Nat) (w : Int), l[i]? = some (h, w) → ps[h]? = some (if i = 0 then x.up else (l[i - 1]?).map Prod.fst)
  wor : ∀ (t : Nat) (l : List (Nat × Int)), Row s t l → ∀ (h : Nat) (w : Int), (h, w) ∈ l → ws[h]? = some w
section
variable {s : Shp} (R : RS s)
include R
theorem RS.row_ex {t : Nat} (ht : t < s.length) (nt : ¬ Son s t) : ∃ l, Row s t l := let ⟨l, p⟩ := R.pt false 0 ht; ⟨l, ht, nt, p⟩
theorem RS.in_row {h : Nat} (hh : h < s.length) : ∃ (t : Nat) (l : List (Nat × Int)) (w : Int), Row s t l ∧ (h, w) ∈ l := by
  obtain ⟨t, v, ht, nt, c⟩ := R.top hh
  obtain ⟨l, r⟩ := R.row_ex ht nt
  have m := r.2.2.cover c
  obtain ⟨z, mz, rfl⟩ := List.mem_map.mp m
  exact ⟨t, l, z.2, r, mz⟩
theorem RS.row_inj {t u : Nat} {l m : List (Nat × Int)} {h : Nat} {v w : Int} (r : Row s t l) (q : Row s u m) (a : (h, v) ∈ l) (b : (h, w) ∈ m) : t = u ∧ l = m ∧ v = w := by
  obtain ⟨c, x, cx, _, e⟩ := r.2.2.climb rfl _ a
  obtain ⟨c', x', cx', _, e'⟩ := q.2.2.climb rfl _ b
  have := R.top_inj r.1 q.1 r.2.1 q.2.1 cx cx'
  subst this
  have := r.2.2.det q.2.2
  subst this
  refine ⟨rfl, rfl, ?_⟩
  have nd := R.nodup r.2.2 fun x e => by cases e; exact r.1
  obtain ⟨i, hi⟩ := List.getElem?_of_mem a
  obtain ⟨j, hj⟩ := List.getElem?_of_mem b
  have i1 : (l.map Prod.fst)[i]? = some h := by rw [List.getElem?_map, hi]; rfl
  have j1 : (l.map Prod.fst)[j]? = some h := by rw [List.getElem?_map, hj]; rfl
  have := M3.nd_inj nd i1 j1
  subst this
  rw [hi] at hj
  exact (Prod.mk.inj (Option.some.inj hj)).2
theorem RS.told_inj {ps qs : List (Option Nat)} {ws vs : List Int} (a : Told s ps ws) (b : Told s qs vs) : ps = qs ∧ ws = vs := by
  constructor
  · refine List.ext_getElem? fun h => ?_
    by_cases hh : h < s.length
    · obtain ⟨t, l, w, r, m⟩ := R.in_row hh
      obtain ⟨x, ex⟩ := at_of r.1
      obtain ⟨i, hi⟩ := List.getElem?_of_mem m
      rw [a.par t l x r ex i h w hi, b.par t l x r ex i h w hi]
    · rw [List.getElem?_eq_none (by rw [a.lp]; omega), List.getElem?_eq_none (by rw [b.lp]; omega)]
  · refine List.ext_getElem? fun h => ?_
    by_cases hh : h < s.length
    · obtain ⟨t, l, w, r, m⟩ := R.in_row hh
      rw [a.wor t l r h w m, b.wor t l r h w m]
    · rw [List.getElem?_eq_none (by rw [a.lw]; omega), List.getElem?_eq_none (by rw [b.lw]; omega)]
end
end W3
namespace W3
open PySem PySem.Spec PyProof.Rows L2 M3
/-! ### stands in a store -/
def hsP (x : Hs) : P := .tup [ov x.up, ov x.left, ov x.right, .bl x.turned, .int x.added, .int x.value]
def shP (s : Shp) : P := .tup (s.map hsP)
def stR (g : G) (u l r t a v : D) : O := .ins g.Stand [("up", u), ("left", l), ("right", r), ("turned", t), ("added", a), ("value", v)]
def stO (g : G) (x : Hs) : O := stR g (.dat (ov x.up)) (.dat (ov x.left)) (.dat (ov x.right)) (.dat (.bl x.turned)) (.dat (.int x.added)) (.dat (.int x.value))
theorem n_up_left : (("up" : Str) = "left") = False := eq_false (by decide +kernel)
theorem n_up_right : (("up" : Str) = "right") = False := eq_false (by decide +kernel)
theorem n_up_turned : (("up" : Str) = "turned") = False := eq_false (by decide +kernel)
theorem n_up_added : (("up" : Str) = "added") = False := eq_false (by decide +kernel)
theorem n_up_value : (("up" : Str) = "value") = False := eq_false (by decide +kernel)
theorem n_left_up : (("left" : Str) = "up") = False := eq_false (by decide +kernel)
theorem n_left_right : (("left" : Str) = "right") = False := eq_false (by decide +kernel)
theorem n_left_turned : (("left" : Str) = "turned") = False := eq_false (by decide +kernel)
theorem n_left_added : (("left" : Str) = "added") = False := eq_false (by decide +kernel)
theorem n_left_value : (("left" : Str) = "value") = False := eq_false (by decide +kernel)
theorem n_right_up : (("right" : Str) = "up") = False := eq_false (by decide +kernel)
theorem n_right_left : (("right" : Str) = "left") = False := eq_false (by decide +kernel)
theorem n_right_turned : (("right" : Str) = "turned") = False := eq_false (by decide +kernel)
theorem n_right_added : (("right" : Str) = "added") = False := eq_false (by decide +kernel)
theorem n_right_value : (("right" : Str) = "value") = False := eq_false (by decide +kernel)
theorem n_turned_up : (("turned" : Str) = "up") = False := eq_false (by decide +kernel)
theorem n_turned_left : (("turned" : Str) = "left") = False := eq_false (by decide +kernel)
theorem n_turned_right : (("turned" : Str) = "right") = False := eq_false (by decide +kernel)
theorem n_turned_added : (("turned" : Str) = "added") = False := eq_false (by decide +kernel)
theorem n_turned_value : (("turned" : Str) = "value") = False := eq_false (by decide +kernel)
theorem n_added_up : (("added" : Str) = "up") = False := eq_false (by decide +kernel)
theorem n_added_left : (("added" : Str) = "left") = False := eq_false (by decide +kernel)
theorem n_added_right : (("added" : Str) = "right") = False := eq_false (by decide +kernel)
theorem n_added_turned : (("added" : Str) = "turned") = False := eq_false (by decide +kernel)
theorem n_added_value : (("added" : Str) = "value") = False := eq_false (by decide +kernel)
theorem n_value_up : (("value" : Str) = "up") = False := eq_false (by decide +kernel)
theorem n_value_left : (("value" : Str) = "left") = False := eq_false (by decide +kernel)
theorem n_value_right : (("value" : Str) = "right") = False := eq_false (by decide +kernel)
theorem n_value_turned : (("value" : Str) = "turned") = False := eq_false (by decide +kernel)
theorem n_value_added : (("value" : Str) = "added") = False := eq_false (by decide +kernel)
section
variable {g : G} (X : Gx g) {S : Store} {i : Nat} {u l r t a v d : D}
include X
theorem FL_up : (g.Stand, ("up" : Str)) ∈ g.FL := by rw [X.FL]; simp
theorem FL_left : (g.Stand, ("left" : Str)) ∈ g.FL := by rw [X.FL]; simp
theorem FL_right : (g.Stand, ("right" : Str)) ∈ g.FL := by rw [X.FL]; simp
theorem FL_turned : (g.Stand, ("turned" : Str)) ∈ g.FL := by rw [X.FL]; simp
theorem FL_added : (g.Stand, ("added" : Str)) ∈ g.FL := by rw [X.FL]; simp
theorem FL_value : (g.Stand, ("value" : Str)) ∈ g.FL := by rw [X.FL]; simp
theorem fR_up (h : S[i]? = some (stR g u l r t a v)) : fldD g.FL "up" S (.obj i) = some u := by
  show (match S[i]? with | some (.ins C l) => if (C, ("up" : Str)) ∈ g.FL then lookD "up" l else none | _ => none) = _
  rw [h]
  show (if (g.Stand, ("up" : Str)) ∈ g.FL then lookD "up" _ else none) = _
  rw [if_pos (FL_up X)]
  simp only [lookD, if_false, if_true]
theorem sR_up (h : S[i]? = some (stR g u l r t a v)) : setF g.FL "up" (.obj i) d S = some (S.set i (stR g d l r t a v)) := by
  rw [setF_o (l := [("up", u), ("left", l), ("right", r), ("turned", t), ("added", a), ("value", v)]) h (FL_up X) (by simp)]
  have : putD "up" d [("up", u), ("left", l), ("right", r), ("turned", t), ("added", a), ("value", v)] = ([("up", d), ("left", l), ("right", r), ("turned", t), ("added", a), ("value", v)] : List (Str × D)) := by
    simp only [putD, if_false, if_true]
  rw [this]; rfl
theorem fR_left (h : S[i]? = some (stR g u l r t a v)) : fldD g.FL "left" S (.obj i) = some l := by
  show (match S[i]? with | some (.ins C l) => if (C, ("left" : Str)) ∈ g.FL then lookD "left" l else none | _ => none) = _
  rw [h]
  show (if (g.Stand, ("left" : Str)) ∈ g.FL then lookD "left" _ else none) = _
  rw [if_pos (FL_left X)]
  simp only [lookD, n_left_up, if_false, if_true]
theorem sR_left (h : S[i]? = some (stR g u l r t a v)) : setF g.FL "left" (.obj i) d S = some (S.set i (stR g u d r t a v)) := by
  rw [setF_o (l := [("up", u), ("left", l), ("right", r), ("turned", t), ("added", a), ("value", v)]) h (FL_left X) (by simp)]
  have : putD "left" d [("up", u), ("left", l), ("right", r), ("turned", t), ("added", a), ("value", v)] = ([("up", u), ("left", d), ("right", r), ("turned", t), ("added", a), ("value", v)] : List (Str × D)) := by
    simp only [putD, n_up_left, if_false, if_true]
  rw [this]; rfl
theorem fR_right (h : S[i]? = some (stR g u l r t a v)) : fldD g.FL "right" S (.obj i) = some r := by
  show (match S[i]? with | some (.ins C l) => if (C, ("right" : Str)) ∈ g.FL then lookD "right" l else none | _ => none) = _
  rw [h]
  show (if (g.Stand, ("right" : Str)) ∈ g.FL then lookD "right" _ else none) = _
  rw [if_pos (FL_right X)]
  simp only [lookD, n_right_up, n_right_left, if_false, if_true]
theorem sR_right (h : S[i]? = some (stR g u l r t a v)) : setF g.FL "right" (.obj i) d S = some (S.set i (stR g u l d t a v)) := by
  rw [setF_o (l := [("up", u), ("left", l), ("right", r), ("turned", t), ("added", a), ("value", v)]) h (FL_right X) (by simp)]
  have : putD "right" d [("up", u), ("left", l), ("right", r), ("turned", t), ("added", a), ("value", v)] = ([("up", u), ("left", l), ("right", d), ("turned", t), ("added", a), ("value", v)] : List (Str × D)) := by
    simp only [putD, n_up_right, n_left_right, if_false, if_true]
  rw [this]; rfl
theorem fR_turned (h : S[i]? = some (stR g u l r t a v)) : fldD g.FL "turned" S (.obj i) = some t := by
  show (match S[i]? with | some (.ins C l) => if (C, ("turned" : Str)) ∈ g.FL then lookD "turned" l else none | _ => none) = _
  rw [h]
  show (if (g.Stand, ("turned" : Str)) ∈ g.FL then lookD "turned" _ else none) = _
  rw [if_pos (FL_turned X)]
  simp only [lookD, n_turned_up, n_turned_left, n_turned_right, if_false, if_true]
theorem sR_turned (h : S[i]? = some (stR g u l r t a v)) : setF g.FL "turned" (.obj i) d S = some (S.set i (stR g u l r d a v)) := by
  rw [setF_o (l := [("up", u), ("left", l), ("right", r), ("turned", t), ("added", a), ("value", v)]) h (FL_turned X) (by simp)]
  have : putD "turned" d [("up", u), ("left", l), ("right", r), ("turned", t), ("added", a), ("value", v)] = ([("up", u), ("left", l), ("right", r), ("turned", d), ("added", a), ("value", v)] : List (Str × D)) := by
    simp only [putD, n_up_turned, n_left_turned, n_right_turned, if_false, if_true]
  rw [this]; rfl
theorem fR_added (h : S[i]? = some (stR g u l r t a v)) : fldD g.FL "added" S (.obj i) = some a := by
  show (match S[i]? with | some (.ins C l) => if (C, ("added" : Str)) ∈ g.FL then lookD "added" l else none | _ => none) = _
  rw [h]
  show (if (g.Stand, ("added" : Str)) ∈ g.FL then lookD "added" _ else none) = _
  rw [if_pos (FL_added X)]
  simp only [lookD, n_added_up, n_added_left, n_added_right, n_added_turned, if_false, if_true]
theorem sR_added (h : S[i]? = some (stR g u l r t a v)) : setF g.FL "added" (.obj i) d S = some (S.set i (stR g u l r t d v)) := by
  rw [setF_o (l := [("up", u), ("left", l), ("right", r), ("turned", t), ("added", a), ("value", v)]) h (FL_added X) (by simp)]
  have : putD "added" d [("up", u), ("left", l), ("right", r), ("turned", t), ("added", a), ("value", v)] = ([("up", u), ("left", l), ("right", r), ("turned", t), ("added", d), ("value", v)] : List (Str × D)) := by
    simp only [putD, n_up_added, n_left_added, n_right_added, n_turned_added, if_false, if_true]
  rw [this]; rfl
theorem fR_value (h : S[i]? = some (stR g u l r t a v)) : fldD g.FL "value" S (.obj i) = some v := by
  show (match S[i]? with | some (.ins C l) => if (C, ("value" : Str)) ∈ g.FL then lookD "value" l else none | _ => none) = _
  rw [h]
  show (if (g.Stand, ("value" : Str)) ∈ g.FL then lookD "value" _ else none) = _
  rw [if_pos (FL_value X)]
  simp only [lookD, n_value_up, n_value_left, n_value_right, n_value_turned, n_value_added, if_false, if_true]
theorem sR_value (h : S[i]? = some (stR g u l r t a v)) : setF g.FL "value" (.obj i) d S = some (S.set i (stR g u l r t a d)) := by
  rw [setF_o (l := [("up", u), ("left", l), ("right", r), ("turned", t), ("added", a), ("value", v)]) h (FL_value X) (by simp)]
  have : putD "value" d [("up", u), ("left", l), ("right", r), ("turned", t), ("added", a), ("value", v)] = ([("up", u), ("left", l), ("right", r), ("turned", t), ("added", a), ("value", d)] : List (Str × D)) := by
    simp only [putD, n_up_value, n_left_value, n_right_value, n_turned_value, n_added_value, if_false, if_true]
  rw [this]; rfl
end
/-- the stands of s lie from b on, their list at o; all is closed -/
structure St (g : G) (S : Store) (b o : Nat) (s : Shp) : Prop where
  at_ : ∀ (k : Nat) (x : Hs), s[k]? = some x → S[b + k]? = some (stO g x)
  lst : S[o]? = some (.lst ((List.range s.length).map fun k => .obj (b + k)))
  out : ∀ k, k < s.length → o ≠ b + k
  cl : ∀ (j : Nat) (w : O), S[j]? = some w → O.lt S.length w = true
/-- nothing else changed -/
structure Fr (S S' : Store) (b n : Nat) : Prop where
  len : S'.length = S.length
  out : ∀ j : Nat, (∀ k, k < n → j ≠ b + k) → S'[j]? = S[j]?
theorem Fr.refl {S : Store} {b n : Nat} : Fr S S b n := ⟨rfl, fun _ _ => rfl⟩
theorem Fr.trans {S S' S'' : Store} {b n : Nat} (x : Fr S S' b n) (y : Fr S' S'' b n) : Fr S S'' b n := ⟨y.len.trans x.len, fun j h => (y.out j h).trans (x.out j h)⟩
theorem all_of {S : Store} {n : Nat} (h : ∀ (j : Nat) (w : O), S[j]? = some w → O.lt n w = true) : S.all (O.lt n) = true := List.all_eq_true.mpr fun w m => by
  obtain ⟨j, hj⟩ := List.getElem?_of_mem m
  exact h j w hj
theorem stO_lt {g : G} {x : Hs} {n : Nat} : O.lt n (stO g x) = true := by
  show List.all _ _ = true
  simp [D.lt]
theorem O.lt_mono {n m : Nat} (h : n ≤ m) {w : O} (q : O.lt n w = true) : O.lt m w = true := by
  have dl : ∀ d : D, D.lt n d = true → D.lt m d = true := fun d e => by
    cases d with
    | dat _ => rfl
    | obj i =>
      have e : decide (i < n) = true := e
      rw [decide_eq_true_eq] at e
      show decide (i < m) = true
      exact decide_eq_true (by omega)
  cases w with
  | lst l => exact List.all_eq_true.mpr fun d m => dl d (List.all_eq_true.mp q d m)
  | ins C l => exact List.all_eq_true.mpr fun d m => dl d.2 (List.all_eq_true.mp q d m)
  | dic l => exact List.all_eq_true.mpr fun d m => dl d.2 (List.all_eq_true.mp q d m)
/-- a def that may write stands: its own objects go -/
theorem scope_u {f : List D → Store → R D} {ds : List D} {S S' t : Store} {p : P} (e : f ds S = .ok (.dat p) (S' ++ t)) (hl : S'.length = S.length) (hc : ∀ (j : Nat) (w : O), S'[j]? = some w → O.lt S'.length w = true) : mScope f ds S = .ok (.dat p) S' := by
  have e1 : (S' ++ t).take S.length = S' := by rw [← hl, List.take_left]
  unfold mScope
  rw [e]
  simp only []
  rw [e1, if_pos (by rw [← hl]; exact all_of hc)]
theorem scope_uo {f : List D → Store → R D} {ds : List D} {S S' t : Store} {p : P} {i : Nat} (e : f ds S = .ok (.obj i) (S' ++ t)) (hl : S'.length = S.length) (hi : S.length ≤ i) (hc : ∀ (j : Nat) (w : O), S'[j]? = some w → O.lt S'.length w = true) (z : frz1 (S' ++ t) i = some p) : mScope f ds S = .ok (.dat p) S' := by
  have e1 : (S' ++ t).take S.length = S' := by rw [← hl, List.take_left]
  unfold mScope
  rw [e]
  simp only []
  rw [e1, if_pos (by rw [← hl]; exact all_of hc), if_neg (by omega), z]
section
variable {g : G} {S : Store} {b o : Nat} {s : Shp} (T : St g S b o s)
include T
theorem St.ix {k : Nat} (h : k < s.length) : aIx S (.obj o) (.dat (nv k)) = some (.obj (b + k)) := ix_o T.lst (atN (by rw [List.getElem?_map, List.getElem?_range h]; rfl))
theorem St.len : aLen S [.obj o] = some (.dat (.int (s.length : Nat))) := by rw [len_o T.lst]; simp
theorem St.app {t : Store} {k : Nat} {x : Hs} (e : s[k]? = some x) : (S ++ t)[b + k]? = some (stO g x) := get_app (T.at_ k x e)
theorem St.ixt {t : Store} {k : Nat} (h : k < s.length) : aIx (S ++ t) (.obj o) (.dat (nv k)) = some (.obj (b + k)) := ix_o (get_app T.lst) (atN (by rw [List.getElem?_map, List.getElem?_range h]; rfl))
end
end W3
namespace W3
/-! ### a shape tells something, one thing, and that is a forest -/
theorem list_ex {α : Type} {n : Nat} {P : Nat → α → Prop} (h : ∀ k, k < n → ∃ a, P k a) : ∃ l : List α, l.length = n ∧ ∀ (k : Nat) (a : α), l[k]? = some a → P k a := by
  induction n with
  | zero => exact ⟨[], rfl, fun k a e => by simp at e⟩
  | succ n ih =>
    obtain ⟨l, hl, hp⟩ := ih fun k hk => h k (by omega)
    obtain ⟨a, ha⟩ := h n (by omega)
    refine ⟨l ++ [a], by simp [hl], fun k b e => ?_⟩
    by_cases c : k < n
    · rw [List.getElem?_append_left (by omega)] at e
      exact hp k b e
    · rw [List.getElem?_append_right (by omega)] at e
      have : k = n := by
        have := lt_at e
        simp at this
        omega
      subst this
      rw [hl, Nat.sub_self] at e
      cases e
      exact ha
def sonB (s : Shp) (h : Nat) : Bool := match s[h]? with
  | some x => (match x.up with
    | some u => (match s[u]? with
      | some y => decide (y.left = some h) || decide (y.right = some h)
      | none => false)
    | none => false)
  | none => false
section
variable {s : Shp} (R : RS s)
include R
theorem RS.sonB {h : Nat} : sonB s h = true ↔ Son s h := by
  unfold W3.sonB
  constructor
  · intro e
    cases ex : s[h]? with
    | none => rw [ex] at e; cases e
    | some x =>
      rw [ex] at e
      simp only at e
      cases eu : x.up with
      | none => rw [eu] at e; cases e
      | some u =>
        rw [eu] at e
        simp only at e
        cases ey : s[u]? with
        | none => rw [ey] at e; cases e
        | some y =>
          rw [ey] at e
          simp only [Bool.or_eq_true, decide_eq_true_eq] at e
          exact ⟨u, y, ey, e⟩
  · rintro ⟨u, so⟩
    obtain ⟨x, ex, eu⟩ := R.son u h so
    obtain ⟨y, ey, hy⟩ := so
    rw [ex]
    simp only [eu, ey]
    simpa using hy
theorem RS.told_ex : ∃ ps ws, Told s ps ws := by
  have key : ∀ k, k < s.length → ∃ a : Option Nat × Int, (∀ (t : Nat) (l : List (Nat × Int)) (x : Hs), Row s t l → s[t]? = some x → ∀ (i : Nat) (w : Int), l[i]? = some (k, w) → a.1 = (if i = 0 then x.up else (l[i - 1]?).map Prod.fst)) ∧ (∀ (t : Nat) (l : List (Nat × Int)), Row s t l → ∀ (w : Int), (k, w) ∈ l → a.2 = w) := fun k hk => by
    obtain ⟨t, l, w, r, m⟩ := R.in_row hk
    obtain ⟨x, ex⟩ := at_of r.1
    obtain ⟨i, hi⟩ := List.getElem?_of_mem m
    refine ⟨(if i = 0 then x.up else (l[i - 1]?).map Prod.fst, w), fun t' l' x' r' ex' i' w' hi' => ?_, fun t' l' r' w' m' => (R.row_inj r r' m m').2.2⟩
    obtain ⟨e1, e2, e3⟩ := R.row_inj r r' m (List.mem_of_getElem? hi')
    subst e1; subst e2; subst e3
    rw [ex] at ex'
    cases ex'
    have nd := R.nodup r.2.2 fun x e => by cases e; exact r.1
    have i1 : (l.map Prod.fst)[i]? = some k := by rw [List.getElem?_map, hi]; rfl
    have j1 : (l.map Prod.fst)[i']? = some k := by rw [List.getElem?_map, hi']; rfl
    have := M3.nd_inj nd i1 j1
    subst this; rfl
  obtain ⟨l, hl, hp⟩ := list_ex key
  have at1 : ∀ h, h < s.length → ∃ a, l[h]? = some a := fun h hh => ⟨_, List.getElem?_eq_getElem (by omega)⟩
  have inr : ∀ {t : Nat} {m : List (Nat × Int)}, Row s t m → ∀ {h : Nat} {w : Int}, (h, w) ∈ m → h < s.length := fun {t m} r {h w} q => by
    obtain ⟨c, y, cx, ey, _⟩ := r.2.2.climb rfl _ q
    exact lt_at ey
  refine ⟨l.map Prod.fst, l.map Prod.snd, by simp [hl], by simp [hl], fun t m x r ex i h w hi => ?_, fun t m r h w q => ?_⟩
  · obtain ⟨a, ea⟩ := at1 h (inr r (List.mem_of_getElem? hi))
    rw [List.getElem?_map, ea, ← (hp h a ea).1 t m x r ex i w hi]; rfl
  · obtain ⟨a, ea⟩ := at1 h (inr r q)
    rw [List.getElem?_map, ea, ← (hp h a ea).2 t m r w q]; rfl
theorem RS.told_tree {ps : List (Option Nat)} {ws : List Int} (T : Told s ps ws) : W2.Tree ps := by
  refine W2.tree_iff.mpr fun h hh => ?_
  rw [T.lp] at hh
  -- by the length of the way up of the row's top, then by the place in the row
  have key : ∀ (k : Nat) {t i h : Nat} {l : List (Nat × Int)} {w : Int}, Row s t l → l[i]? = some (h, w) → (W2.up (ups s) t).length * 100 + i < k → ∃ m, W2.Ch ps h m := by
    intro k
    induction k with
    | zero => intro t i h l w _ _ q; omega
    | succ k ih =>
      intro t i h l w r hi q
      obtain ⟨x, ex⟩ := at_of r.1
      have ep := T.par t l x r ex i h w hi
      by_cases c : i = 0
      · rw [if_pos c] at ep
        cases eu : x.up with
        | none => rw [eu] at ep; exact ⟨_, .root ep⟩
        | some u =>
          rw [eu] at ep
          have hu := R.up_lt ex eu
          obtain ⟨t2, l2, w2, r2, m2⟩ := R.in_row hu
          obtain ⟨i2, hi2⟩ := List.getElem?_of_mem m2
          obtain ⟨c2, y2, cx2, _⟩ := r2.2.2.climb rfl _ m2
          obtain ⟨pre, e1, _⟩ := R.cx_up r2.1 cx2
          have e2 : W2.up (ups s) t = t :: W2.up (ups s) u := W2.up_of (.step (by rw [ups_at ex, eu]) (R.chain hu).1)
          have l3 : i2 < l2.length := lt_at hi2
          have l4 : l2.length ≤ 64 := by
            have nd := R.nodup r2.2.2 fun x e => by cases e; exact r2.1
            have := W2.nodup_len (n := s.length) nd fun y m => by
              obtain ⟨z, mz, rfl⟩ := List.mem_map.mp m
              obtain ⟨_, y, _, ey, _⟩ := r2.2.2.climb rfl z mz
              exact lt_at ey
            rw [List.length_map] at this
            have := R.n64
            omega
          have e3 : (W2.up (ups s) t2).length + 1 ≤ (W2.up (ups s) t).length := by
            have e1 : W2.up (ups s) u = pre ++ W2.up (ups s) t2 := e1
            rw [e2, e1]; simp
          obtain ⟨m, ch⟩ := ih r2 hi2 (by omega)
          exact ⟨_, .step ep ch⟩
      · rw [if_neg c] at ep
        have hl := lt_at hi
        obtain ⟨z, ez⟩ : ∃ z, l[i - 1]? = some z := ⟨_, List.getElem?_eq_getElem (by omega)⟩
        rw [ez] at ep
        obtain ⟨m, ch⟩ := ih (i := i - 1) (h := z.1) (w := z.2) r ez (by omega)
        exact ⟨_, .step ep ch⟩
  obtain ⟨t, l, w, r, m⟩ := R.in_row hh
  obtain ⟨i, hi⟩ := List.getElem?_of_mem m
  exact key _ r hi (Nat.lt_succ_self _)
end
end W3
namespace W3
open PySem PySem.Spec PyProof.Rows L2 M3
/-! ### the program's readings of stands -/
theorem eqF_ov {o : Option Nat} {h : Nat} : eqF (ov o) (nv h) = decide (o = some h) := by
  cases o with
  | none => rfl
  | some q =>
    show ((q : Int) == (h : Int)) = _
    by_cases c : q = h
    · subst c; simp
    · rw [decide_eq_false (by simpa using c)]; simpa using fun z : (q : Int) = h => c (by omega)
theorem flat_ov (o : Option Nat) : flatP (ov o) = true := by cases o <;> rfl
theorem in_two {S : Store} {h : Nat} {l r : Option Nat} : aIn S (.dat (nv h)) (.dat (.tup [ov l, ov r])) = some (.dat (.bl (decide (l = some h) || decide (r = some h)))) := by
  show (match seqP S (.dat (.tup [ov l, ov r])) with | some l => if flatP (nv h) = true ∧ l.all flatP = true then some (inP (nv h) l) else none | none => none : Option Bool).map dBl = _
  rw [seqP_t]
  simp only []
  rw [if_pos ⟨rfl, by simp [flat_ov]⟩]
  show some (D.dat (.bl (eqF (ov l) (nv h) || (eqF (ov r) (nv h) || false)))) = _
  rw [eqF_ov, eqF_ov, Bool.or_false]
theorem notIn_two {S : Store} {h : Nat} {l r : Option Nat} : aNotIn S (.dat (nv h)) (.dat (.tup [ov l, ov r])) = some (.dat (.bl (!(decide (l = some h) || decide (r = some h))))) := by
  show (match seqP S (.dat (.tup [ov l, ov r])) with | some l => if flatP (nv h) = true ∧ l.all flatP = true then some (inP (nv h) l) else none | none => none : Option Bool).map (fun b => dBl (!b)) = _
  rw [seqP_t]
  simp only []
  rw [if_pos ⟨rfl, by simp [flat_ov]⟩]
  show some (D.dat (.bl (!(eqF (ov l) (nv h) || (eqF (ov r) (nv h) || false))))) = _
  rw [eqF_ov, eqF_ov, Bool.or_false]
theorem St.push {g : G} {S t : Store} {b o : Nat} {s : Shp} (T : St g S b o s) (ht : ∀ w ∈ t, O.lt (S ++ t).length w = true) : St g (S ++ t) b o s where
  at_ := fun k x e => get_app (T.at_ k x e)
  lst := get_app T.lst
  out := T.out
  cl := fun j w e => by
    by_cases c : j < S.length
    · rw [List.getElem?_append_left c] at e
      exact O.lt_mono (by simp) (T.cl j w e)
    · rw [List.getElem?_append_right (by omega)] at e
      exact ht w (List.mem_of_getElem? e)
theorem lt_lst {l : List P} {n : Nat} : O.lt n (.lst (l.map .dat)) = true := by
  show List.all _ _ = true
  rw [List.all_map]
  exact List.all_eq_true.mpr fun _ _ => rfl
theorem push1 {g : G} {S : Store} {b o : Nat} {s : Shp} (T : St g S b o s) (l : List P) : St g (S ++ [.lst (l.map .dat)]) b o s := T.push fun w m => by
  rw [List.mem_singleton.mp m]; exact lt_lst
section
variable {g : G} (X : Gx g) {S : Store} {b o : Nat} {s : Shp} (T : St g S b o s) (R : RS s)
include X T R
theorem is_top_t {h : Nat} (hh : h < s.length) : mScope (m_is_top g) [.obj o, .dat (nv h)] S = .ok (.dat (.bl (!sonB s h))) S := by
  refine scope_u (t := []) ?_ rfl T.cl
  rw [List.append_nil]
  obtain ⟨x, ex⟩ := at_of hh
  have e1 := T.ix hh
  have f1 := fR_up X (T.at_ h x ex)
  unfold m_is_top mFld
  cases eu : x.up with
  | none =>
    have sb : sonB s h = false := by unfold sonB; rw [ex]; simp only [eu]
    rw [eu] at f1
    dsimp! [e1, f1, ov, sb]
  | some u =>
    have hu := R.up_lt ex eu
    obtain ⟨y, ey⟩ := at_of hu
    have sb : sonB s h = (decide (y.left = some h) || decide (y.right = some h)) := by unfold sonB; rw [ex]; simp only [eu, ey]
    rw [eu] at f1
    have f1' : fldD g.FL "up" S (.obj (b + h)) = some (.dat (nv u)) := f1
    have nn : aIsN S (.dat (nv u)) (.dat .non) = some (.dat (.bl false)) := rfl
    have l2 : (2 : Nat) ≤ 100000 := by decide
    dsimp! [e1, f1', nn, T.ix hu, fR_left X (T.at_ u y ey), fR_right X (T.at_ u y ey), l2, notIn_two, sb]
theorem line_up_t {h : Nat} (hh : h < s.length) : mScope (m_line_up g) [.obj o, .dat (nv h)] S = .ok (.dat (.lst ((W2.up (ups s) h).map nv))) S := by
  have n64 := R.n64
  suffices z : ∃ d S', m_line_up g [.obj o, .dat (nv h)] S = .ok d S' ∧ d = .obj S.length ∧ S' = S ++ [.lst (((W2.up (ups s) h).map nv).map .dat)] by
    obtain ⟨d, S', e, rfl, rfl⟩ := z
    exact scope_uo (t := [.lst (((W2.up (ups s) h).map nv).map .dat)]) e rfl (Nat.le_refl _) T.cl (frz_o get_new)
  unfold m_line_up
  rw [mBody_fin]
  refine fin_ends ?_
  have l1 : (1 : Nat) ≤ 100000 := by decide
  dsimp! [l1]
  refine then_ends (Q1 := fun o' S' => o' = .nx [some (.obj o), some (.dat (nv h)), some (.obj S.length)] ∧ S' = S ++ [.lst (((W2.up (ups s) h).map nv).map .dat)]) ?_ (fun o S' ⟨e, z⟩ => by subst e; dsimp! []; exact .of ⟨_, rfl, rfl, z⟩)
  refine while_ends (m := (W2.up (ups s) h).length) (fun m δ S' => ∃ (line : List Nat) (a : Nat) (r : List Nat), δ = [some (.obj o), some (.dat (nv h)), some (.obj S.length)] ∧ S' = S ++ [.lst (((line ++ [a]).map nv).map .dat)] ∧ W2.Ch (ups s) h (line ++ a :: r) ∧ m = (a :: r).length) (by have := (R.chain hh).2.1; omega) ?_ ?_
  · obtain ⟨r, er⟩ := R.up_head hh
    exact ⟨[], h, r, rfl, rfl, er ▸ (R.chain hh).1, by rw [er]⟩
  · rintro m δ S' ⟨line, a, r, rfl, rfl, c, rfl⟩
    have ha : a < s.length := by have := c.lt a (by simp); rwa [ups_len] at this
    obtain ⟨x, ex⟩ := at_of ha
    have ec : W2.Ch (ups s) a (a :: r) := W2.Ch.tail c
    have hlen := c.len
    rw [List.length_append, List.length_cons, ups_len] at hlen
    have T' := push1 T ((line ++ [a]).map nv)
    have el : aIx (S ++ [.lst (((line ++ [a]).map nv).map .dat)]) (.obj S.length) (.dat (.int (-1))) = some (.dat (nv a)) := ix_o get_new (atI_last (by simp))
    have f1 := fR_up X (T'.at_ a x ex)
    cases ec with
    | root e =>
      rw [ups_at ex] at e
      rw [Option.some.inj e] at f1
      refine ⟨false, _, by unfold mFld; dsimp! [el, T'.ix ha, f1, ov] <;> rfl, fun z => (nomatch z), fun _ => ⟨rfl, ?_⟩⟩
      rw [W2.up_of c]
    | @step _ p l e c2 =>
      obtain ⟨r2, e2⟩ := c2.head
      subst e2
      rw [ups_at ex] at e
      rw [Option.some.inj e] at f1
      refine ⟨true, _, by unfold mFld; dsimp! [el, T'.ix ha, f1, ov] <;> rfl, fun _ => ?_, fun z => (nomatch z)⟩
      have f2 : fldD g.FL "up" (S ++ [.lst (((line ++ [a]).map nv).map .dat)]) (.obj (b + a)) = some (.dat (.int (p : Int))) := f1
      have eap : updL fAppend (.obj S.length) [.dat (.int (p : Int))] (S ++ [.lst (((line ++ [a]).map nv).map .dat)]) = M3.R.ok (D.dat P.non) ((S ++ [O.lst (((line ++ [a]).map nv).map D.dat)]).set S.length (O.lst (((line ++ [a]).map nv).map D.dat ++ [D.dat (P.int (p : Int))]))) := app_o get_new (by rw [List.length_map, List.length_map, List.length_append, List.length_singleton]; omega)
      unfold mBM mFld
      dsimp! [kind_o get_new, el, T'.ix ha, f2, eap]
      refine Ends.of (tm ⟨_, Nat.lt_succ_self _, line ++ [a], p, r2, rfl, ?_, by simpa using c, rfl⟩)
      rw [List.set_append_right _ _ (Nat.le_refl _), Nat.sub_self]
      simp [nv]
theorem told_worth_t {h t : Nat} {c : Int} {x : Hs} (hx : s[h]? = some x) (ht : t < s.length) (nt : ¬ Son s t) (cx : Cx s t h c) : mScope (m_told_worth g) [.obj o, .dat (nv h)] S = .ok (.dat (.int (x.value + c))) S := by
  have n64 := R.n64
  suffices z : ∃ d S', m_told_worth g [.obj o, .dat (nv h)] S = .ok d S' ∧ d = .dat (.int (x.value + c)) ∧ S' = S by
    obtain ⟨d, S', e, rfl, rfl⟩ := z
    exact scope_u (t := []) (by rw [List.append_nil]; exact e) rfl T.cl
  unfold m_told_worth
  rw [mBody_fin]
  refine fin_ends ?_
  have f0 := fR_value X (T.at_ h x hx)
  have ih := T.ix (lt_at hx)
  have chg : ∀ i j : Int, mAug 2 aAddI = mAug 2 aAddI := fun _ _ => rfl
  unfold mFld
  dsimp! [ih, f0]
  refine then_ends (Q1 := fun o' S' => ∃ a : Nat, o' = .nx [some (.obj o), some (.dat (nv a)), some (.dat (.int (x.value + c)))] ∧ S' = S) ?_ (fun o S' ⟨a, e, z⟩ => by subst e; dsimp! []; exact .of ⟨_, rfl, rfl, z⟩)
  refine while_ends (m := (W2.up (ups s) h).length) (fun m δ S' => ∃ (a : Nat) (c' : Int), δ = [some (.obj o), some (.dat (nv a)), some (.dat (.int (x.value + c - c')))] ∧ S' = S ∧ a < s.length ∧ Cx s t a c' ∧ m = (W2.up (ups s) a).length) (by have := (R.chain (lt_at hx)).2.1; omega) ⟨h, c, by simp, rfl, lt_at hx, cx, rfl⟩ ?_
  rintro m δ S' ⟨a, c', rfl, rfl, ha, cx', rfl⟩
  have it := is_top_t X T R ha
  refine ⟨sonB s a, S', by dsimp! [it, Bool.not_not], fun q => ?_, fun q => ?_⟩
  · have so := R.sonB.mp q
    cases cx' with
    | here => exact absurd so nt
    | @step _ u y w e hy cx2 =>
      have sof : SonOf s u a := ⟨y, e, hy⟩
      obtain ⟨z, ez, eu⟩ := R.son u a sof
      have f1 := fR_up X (T.at_ a z ez)
      rw [eu] at f1
      have f1' : fldD g.FL "up" S' (.obj (b + a)) = some (.dat (nv u)) := f1
      have f2 := fR_added X (T.at_ u y e)
      have ad : ∀ i j : Int, aAddI S' (.dat (.int i)) (.dat (.int j)) = some (.dat (.int (i + j))) := fun _ _ => rfl
      unfold mAug
      dsimp! [T.ix ha, f1', T.ix (lt_at e), f2, ad]
      refine Ends.of (tm ⟨_, ?_, u, w, ?_, rfl, lt_at e, cx2, rfl⟩)
      · rw [R.upc sof, List.length_cons]; omega
      · rw [show x.value + c - (w + y.added) + y.added = x.value + c - w by omega]
  · have ns : ¬ Son s a := fun z => by rw [R.sonB.mpr z] at q; cases q
    have : c' = 0 := by
      cases cx' with
      | here => rfl
      | step e hy _ => exact absurd ⟨_, _, e, hy⟩ ns
    subst this
    exact ⟨a, by simp, rfl⟩
end
end W3
namespace W3
open PySem PySem.Spec PyProof.Rows L2 M3
/-! ### rows, what is told: by the program -/
def hsL (l : List (Nat × Int)) : List P := (l.map Prod.fst).map nv
theorem hsL_len {l : List (Nat × Int)} : (hsL l).length = l.length := by unfold hsL; rw [List.length_map, List.length_map]
section
variable {g : G} (X : Gx g) {S : Store} {b o : Nat} {s : Shp} (T : St g S b o s) (R : RS s)
include X T R
theorem Pt.len {d : Nat} {oh : Option Nat} {k : Bool} {acc : Int} {l : List (Nat × Int)} (p : Pt s d oh k acc l) (ho : ∀ x, oh = some x → x < s.length) : l.length ≤ 64 := by
  have nd := R.nodup p ho
  have := W2.nodup_len (n := s.length) nd fun y m => by
    obtain ⟨z, mz, rfl⟩ := List.mem_map.mp m
    cases oh with
    | none => cases p; cases mz
    | some x =>
      obtain ⟨_, y, _, ey, _⟩ := p.climb rfl z mz
      exact lt_at ey
  rw [List.length_map] at this
  have := R.n64
  omega
theorem part_t {d : Nat} {oh : Option Nat} {k : Bool} {acc : Int} {l : List (Nat × Int)} (p : Pt s d oh k acc l) : mScope (m_part_in_order g d) [.obj o, .dat (ov oh), .dat (.bl k)] S = .ok (.dat (.lst (hsL l))) S := by
  induction p with
  | nil =>
    refine scope_u (t := []) ?_ rfl T.cl
    unfold m_part_in_order
    dsimp! [ov, List.append_nil, Nat.zero_le]
    rfl
  | @node d h x k acc l r e pl pr ih1 ih2 =>
    have hh := lt_at e
    have lt : ∀ {c : Nat}, (x.left = some c ∨ x.right = some c) → c < s.length := fun {c} q => by
      obtain ⟨y, ey, _⟩ := R.son h c ⟨x, e, q⟩
      exact lt_at ey
    have l1 := Pt.len X T R pl fun c q => lt (.inl q)
    have l2 := Pt.len X T R pr fun c q => lt (.inr q)
    have nn : aIsN S (.dat (ov (some h))) (.dat .non) = some (.dat (.bl false)) := rfl
    have ix : aIx S (.obj o) (.dat (ov (some h))) = some (.obj (b + h)) := T.ix hh
    have e0 := T.at_ h x e
    have nx : (!decide (k = x.turned)) = xor k x.turned := by cases k <;> cases x.turned <;> rfl
    have o1 : (1 : Nat) ≤ 100000 := by decide
    refine scope_u (t := []) ?_ rfl T.cl
    rw [List.append_nil]
    unfold m_part_in_order mFld
    dsimp! [nn, ix, fR_turned X e0, nx]
    dsimp! [fR_left X e0, ih1, fR_right X e0, ih2]
    cases c : xor k x.turned with
    | true =>
      dsimp! [o1]
      rw [add_ll (by rw [hsL_len]; simp; omega)]
      dsimp! []
      rw [add_ll (by rw [List.length_append, hsL_len, hsL_len]; simp; omega)]
      dsimp! []
      unfold hsL
      simp [ov, nv]
    | false =>
      dsimp! [o1]
      rw [add_ll (by rw [hsL_len]; simp; omega)]
      dsimp! []
      rw [add_ll (by rw [List.length_append, hsL_len, hsL_len]; simp; omega)]
      dsimp! []
      unfold hsL
      simp [ov, nv]
theorem row_t {t : Nat} {l : List (Nat × Int)} (r : Row s t l) : mScope (m_row_in_order g) [.obj o, .dat (nv t)] S = .ok (.dat (.tup (hsL l))) S := by
  refine scope_u (t := []) ?_ rfl T.cl
  rw [List.append_nil]
  have e := part_t X T R (r.2.2.mono (d' := 70) (by omega))
  have e' : mScope (m_part_in_order g 70) [.obj o, .dat (nv t), .dat (.bl false)] S = .ok (.dat (.lst (hsL l))) S := e
  unfold m_row_in_order
  dsimp! [e']
theorem worths_t {ps : List (Option Nat)} {ws : List Int} (W : Told s ps ws) : mScope (m_told_worths g) [.obj o] S = .ok (.dat (.tup (ws.map .int))) S := by
  have n64 := R.n64
  refine scope_u (t := []) ?_ rfl T.cl
  rw [List.append_nil]
  unfold m_told_worths
  dsimp! []
  rw [lc_all (xs := List.range s.length) (fun k => .dat (nv k)) (fun k => .int (ws.getD k 0)) (rng0_ok (n := s.length) (by dsimp! [T.len] <;> rfl) (by omega)) (by rw [List.length_range]; omega) fun k hk => ⟨_, rfl, rfl, ?_⟩]
  · dsimp! []
    congr 3
    refine List.ext_getElem? fun k => ?_
    rw [List.getElem?_map, List.getElem?_map]
    by_cases c : k < s.length
    · have hw : k < ws.length := by rw [W.lw]; exact c
      rw [List.getElem?_range c, List.getElem?_eq_getElem hw]
      show some (P.int (ws.getD k 0)) = some (P.int ws[k])
      rw [List.getD_eq_getElem?_getD, List.getElem?_eq_getElem hw]; rfl
    · rw [List.getElem?_eq_none (by simpa using c), List.getElem?_eq_none (by rw [W.lw]; omega)]; rfl
  · have hk := List.mem_range.mp hk
    obtain ⟨t, l, w, r, m⟩ := R.in_row hk
    obtain ⟨c, y, cx, ey, ew⟩ := r.2.2.climb rfl _ m
    have ew : w = y.value + 0 + c := ew
    have e := told_worth_t X T R ey r.1 r.2.1 cx
    have eg : ws.getD k 0 = y.value + c := by
      rw [List.getD_eq_getElem?_getD, W.wor t l r k w m, ew]; simp
    dsimp! [e, eg]
theorem fill_t {ps : List (Option Nat)} {ws : List Int} (W : Told s ps ws) : ∃ S', mScope (m_forest_of g) [.obj o] S = .ok (.dat (forP g ps ws)) S' ∧ S' = S := by
  have n64 := R.n64
  suffices z : ∃ d S', m_forest_of g [.obj o] S = .ok d S' ∧ d = .dat (forP g ps ws) ∧ ∃ t, S' = S ++ t by
    obtain ⟨d, S', e, rfl, t, rfl⟩ := z
    exact ⟨S, scope_u e rfl T.cl, rfl⟩
  have em : (s.length : Int) ≤ 1000000 ∧ (0 : Int) ≤ (s.length : Int) ∧ 1 * s.length ≤ 100000 := by omega
  have el : ∀ S : Store, listD S (.dat (.lst [.non])) = some [.dat .non] := fun _ => rfl
  have o1 : (1 : Nat) ≤ 100000 := by decide
  have ro : repD s.length [.dat .non] = ((List.replicate s.length none).map ov).map .dat := by
    unfold repD
    rw [List.map_replicate, List.map_replicate]
    generalize s.length = n
    induction n with
    | zero => rfl
    | succ n ih => rw [List.replicate_succ, List.flatten_cons, ih]; rfl
  unfold m_forest_of
  rw [mBody_fin]
  refine fin_ends ?_
  unfold mMulL mFld
  dsimp! [o1, el, T.len, if_pos em, Int.toNat_natCast, ro]
  have T' : ∀ fs : List (Option Nat), St g (S ++ [.lst ((fs.map ov).map .dat)]) b o s := fun fs => push1 T _
  rw [for_items (rng0_ok (n := s.length) (by dsimp! [(T' _).len] <;> rfl) (by omega))]
  refine then_ends (Q1 := fun o' S' => ∃ x2 x3 x4, o' = .nx [some (.obj o), some (.obj S.length), x2, x3, x4] ∧ S' = S ++ [.lst ((ps.map ov).map .dat)]) ?_ ?_
  · refine forL_ends (fun i δ S' => ∃ (x2 x3 x4 : Option D) (fs : List (Option Nat)), δ = [some (.obj o), some (.obj S.length), x2, x3, x4] ∧ S' = S ++ [.lst ((fs.map ov).map .dat)] ∧ fs.length = s.length ∧ ∀ (t : Nat) (l : List (Nat × Int)), t < i → Row s t l → ∀ z ∈ l, fs[z.1]? = ps[z.1]?) (i := 0) ⟨_, _, _, List.replicate s.length none, rfl, rfl, by simp, fun t l q => (nomatch q)⟩ ?_ ?_
    · rintro i d δ S' hd ⟨x2, x3, x4, fs, rfl, rfl, lf, hf⟩
      rw [Nat.zero_add] at hf
      rw [List.getElem?_map] at hd
      by_cases ci : i < s.length
      · rw [List.getElem?_range ci] at hd
        cases hd
        cases ct : sonB s i with
        | true =>
          dsimp! [is_top_t X (T' fs) R ci, ct]
          refine .of (tm ⟨_, _, _, fs, rfl, rfl, lf, fun t l q r => ?_⟩)
          by_cases c : t < i
          · exact hf t l c r
          · have : t = i := by omega
            subst this
            exact absurd (R.sonB.mp ct) r.2.1
        | false =>
          have nt : ¬ Son s i := fun z => by rw [R.sonB.mpr z] at ct; cases ct
          obtain ⟨l, r⟩ := R.row_ex ci nt
          obtain ⟨x, ex⟩ := at_of ci
          have lt : ∀ z ∈ l, z.1 < s.length := fun z m => by
            obtain ⟨_, y, _, ey, _⟩ := r.2.2.climb rfl z m
            exact lt_at ey
          dsimp! [is_top_t X (T' fs) R ci, ct, (T' fs).ix ci, fR_up X ((T' fs).at_ i x ex)]
          rw [for_items (walk_t (l := hsL l) (by dsimp! [row_t X (T' fs) R r] <;> rfl))]
          refine forL_ends (fun j δ S' => ∃ (x4 : Option D) (fs' : List (Option Nat)), δ = [some (.obj o), some (.obj S.length), some (.dat (nv i)), some (.dat (ov (if j = 0 then x.up else (l[j - 1]?).map Prod.fst))), x4] ∧ S' = S ++ [.lst ((fs'.map ov).map .dat)] ∧ fs'.length = s.length ∧ (∀ (t : Nat) (l : List (Nat × Int)), t < i → Row s t l → ∀ z ∈ l, fs'[z.1]? = ps[z.1]?) ∧ ∀ (m : Nat) (z : Nat × Int), m < j → l[m]? = some z → fs'[z.1]? = ps[z.1]?) (i := 0) ⟨_, fs, rfl, rfl, lf, hf, fun m z q => (nomatch q)⟩ ?_ ?_
          · rintro j d δ S' hd ⟨x4, fs', rfl, rfl, lf', hf', hm⟩
            rw [Nat.zero_add] at hm
            rw [Nat.zero_add]
            unfold hsL at hd
            rw [List.getElem?_map, List.getElem?_map, List.getElem?_map] at hd
            cases ez : l[j]? with
            | none => rw [ez] at hd; cases hd
            | some z =>
              rw [ez] at hd
              cases hd
              have hz := lt z (List.mem_of_getElem? ez)
              have ep := W.par i l x r ex j z.1 z.2 ez
              have es : setD (.obj S.length) (.dat (nv z.1)) (.dat (ov (if j = 0 then x.up else (l[j - 1]?).map Prod.fst))) (S ++ [O.lst ((fs'.map ov).map .dat)]) = some (S ++ [O.lst (((fs'.set z.1 (if j = 0 then x.up else (l[j - 1]?).map Prod.fst)).map ov).map .dat)]) := by
                show setD (.obj S.length) (.dat (.int (z.1 : Int))) _ _ = _
                rw [setD_o get_new (ixN_nat (by rw [List.length_map, List.length_map]; omega))]
                rw [List.set_append_right _ _ (Nat.le_refl _), Nat.sub_self, List.map_set, List.map_set]; rfl
              dsimp! [es]
              have keep : ∀ y : Nat, fs'[y]? = ps[y]? → (fs'.set z.1 (if j = 0 then x.up else (l[j - 1]?).map Prod.fst))[y]? = ps[y]? := fun y q => by
                by_cases c : z.1 = y
                · subst c; rw [List.getElem?_set_self (by omega), ep]
                · rw [List.getElem?_set_ne c]; exact q
              refine .of (tm ⟨some (.dat (nv z.1)), _, ?_, rfl, by rw [List.length_set]; exact lf', fun t l q r z m => keep _ (hf' t l q r z m), fun m y q e => ?_⟩)
              · rw [Nat.add_sub_cancel, ez]; rfl
              · by_cases c : m < j
                · exact keep _ (hm m y c e)
                · have : m = j := by omega
                  subst this
                  rw [ez] at e
                  cases e
                  rw [List.getElem?_set_self (by omega), ep]
          · rintro δ S' ⟨x4, fs', rfl, rfl, lf', hf', hm⟩
            refine tm ⟨_, _, _, fs', rfl, rfl, lf', fun t l' q r' z m => ?_⟩
            by_cases c : t < i
            · exact hf' t l' c r' z m
            · have : t = i := by omega
              subst this
              have := r.2.2.det r'.2.2
              subst this
              obtain ⟨k, hk⟩ := List.getElem?_of_mem m
              exact hm k z (by have := lt_at hk; rw [List.length_map, hsL_len]; omega) hk
      · rw [List.getElem?_eq_none (by simpa using ci)] at hd; cases hd
    · rintro δ S' ⟨x2, x3, x4, fs, rfl, rfl, lf, hf⟩
      refine ⟨_, _, _, rfl, ?_⟩
      have : fs = ps := List.ext_getElem? fun h => by
        by_cases hh : h < s.length
        · obtain ⟨t, l, w, r, m⟩ := R.in_row hh
          exact hf t l (by simp; exact r.1) r _ m
        · rw [List.getElem?_eq_none (by omega), List.getElem?_eq_none (by rw [W.lp]; omega)]
      rw [this]
  · rintro o' S' ⟨x2, x3, x4, rfl, rfl⟩
    have tr := R.told_tree W
    dsimp! [tuple_o get_new, worths_t X (T' ps) R W, made_t g X tr (by rw [W.lp]; exact R.n1) (by rw [W.lp]; exact R.n64) (by rw [W.lw, W.lp])]
    exact .of ⟨_, rfl, rfl, _, rfl⟩
end
end W3
namespace W3
/-! ### handing on -/
def flp (x y : Hs) : Hs := { y with turned := xor y.turned x.turned, added := y.added + x.added, value := y.value + x.added }
def hnd (x : Hs) : Hs := { x with left := if x.turned = true then x.right else x.left, right := if x.turned = true then x.left else x.right, turned := false, added := 0 }
def handOn (s : Shp) (h : Nat) : Shp := match s[h]? with
  | none => s
  | some x => s.mapIdx fun k y => if k = h then hnd x else if x.left = some k ∨ x.right = some k then flp x y else y
section
variable {s : Shp} {h : Nat} {x : Hs} (e : s[h]? = some x)
include e
theorem handOn_eq : handOn s h = s.mapIdx fun k y => if k = h then hnd x else if x.left = some k ∨ x.right = some k then flp x y else y := by
  unfold handOn; rw [e]
theorem handOn_len : (handOn s h).length = s.length := by rw [handOn_eq e, List.length_mapIdx]
theorem handOn_at (k : Nat) : (handOn s h)[k]? = (s[k]?).map fun y => if k = h then hnd x else if x.left = some k ∨ x.right = some k then flp x y else y := by
  rw [handOn_eq e, List.getElem?_mapIdx]
theorem handOn_h : (handOn s h)[h]? = some (hnd x) := by rw [handOn_at e, e]; simp
theorem handOn_son {k : Nat} {y : Hs} (ey : s[k]? = some y) (n : k ≠ h) (so : x.left = some k ∨ x.right = some k) : (handOn s h)[k]? = some (flp x y) := by
  rw [handOn_at e, ey]; simp [n, so]
theorem handOn_no {k : Nat} (n : k ≠ h) (so : ¬ (x.left = some k ∨ x.right = some k)) : (handOn s h)[k]? = s[k]? := by
  rw [handOn_at e]
  cases s[k]? with
  | none => rfl
  | some y => simp [n, so]
theorem handOn_ups : ups (handOn s h) = ups s := by
  refine List.ext_getElem? fun k => ?_
  unfold ups
  rw [List.getElem?_map, List.getElem?_map, handOn_at e]
  cases q : s[k]? with
  | none => rfl
  | some y =>
    simp only [Option.map_some]
    by_cases c : k = h
    · subst c
      rw [e] at q
      cases q
      rw [if_pos rfl]; rfl
    · rw [if_neg c]; split <;> rfl
theorem handOn_sonOf {u c : Nat} : SonOf (handOn s h) u c ↔ SonOf s u c := by
  have key : ∀ y : Hs, s[u]? = some y → ∃ z, (handOn s h)[u]? = some z ∧ ((z.left = some c ∨ z.right = some c) ↔ (y.left = some c ∨ y.right = some c)) := fun y ey => by
    by_cases q : u = h
    · subst q
      rw [e] at ey
      cases ey
      refine ⟨_, handOn_h e, ?_⟩
      unfold hnd
      cases x.turned <;> simp [or_comm]
    · by_cases so : x.left = some u ∨ x.right = some u
      · exact ⟨_, handOn_son e ey q so, Iff.rfl⟩
      · exact ⟨y, by rw [handOn_no e q so, ey], Iff.rfl⟩
  constructor
  · rintro ⟨z, ez, hz⟩
    have hu : u < s.length := by have := lt_at ez; rwa [handOn_len e] at this
    obtain ⟨y, ey⟩ := at_of hu
    obtain ⟨z', ez', iff⟩ := key y ey
    rw [ez] at ez'
    cases ez'
    exact ⟨y, ey, iff.mp hz⟩
  · rintro ⟨y, ey, hy⟩
    obtain ⟨z, ez, iff⟩ := key y ey
    exact ⟨z, ez, iff.mpr hy⟩
theorem handOn_rs (R : RS s) : RS (handOn s h) where
  n1 := by rw [handOn_len e]; exact R.n1
  n64 := by rw [handOn_len e]; exact R.n64
  son := fun u c so => by
    obtain ⟨y, ey, hy⟩ := R.son u c ((handOn_sonOf e).mp so)
    have : (ups (handOn s h))[c]? = some y.up := by rw [handOn_ups e, ups_at ey]
    unfold ups at this
    rw [List.getElem?_map] at this
    cases q : (handOn s h)[c]? with
    | none => rw [q] at this; cases this
    | some z =>
      rw [q] at this
      exact ⟨z, rfl, (Option.some.inj this).trans hy⟩
  ne := fun u c z ez hl => by
    have hu : u < s.length := by have := lt_at ez; rwa [handOn_len e] at this
    obtain ⟨y, ey⟩ := at_of hu
    by_cases q : u = h
    · subst q
      rw [handOn_h e] at ez
      cases ez
      unfold hnd at hl ⊢
      cases ht : x.turned with
      | true => rw [ht] at hl; simp only [if_true] at hl ⊢; exact fun q => R.ne u c x e q hl
      | false => rw [ht] at hl; simp only [Bool.false_eq_true, if_false] at hl ⊢; exact R.ne u c x e hl
    · by_cases so : x.left = some u ∨ x.right = some u
      · rw [handOn_son e ey q so] at ez
        cases ez
        exact R.ne u c y ey hl
      · rw [handOn_no e q so] at ez
        exact R.ne u c z ez hl
  tree := by rw [handOn_ups e]; exact R.tree
/-- the part of a house stays; of a son it is read as if it had been handed on -/
theorem handOn_pt (R : RS s) {d : Nat} {o : Option Nat} {b : Bool} {acc : Int} {l : List (Nat × Int)} (p : Pt s d o b acc l) : (∀ k, o = some k → k < s.length) →
    ((∀ k, o = some k → ¬ SonOf s h k) → Pt (handOn s h) d o b acc l) ∧ (∀ k, o = some k → SonOf s h k → ∀ (b' : Bool) (acc' : Int), b = xor b' x.turned → acc = acc' + x.added → Pt (handOn s h) d o b' acc' l) := by
  have hh := lt_at e
  have nh : ∀ {c : Nat}, SonOf s h c → c ≠ h := fun {c} so q => by
    have := R.upc so
    rw [q] at this
    have := congrArg List.length this
    simp at this
  induction p with
  | nil => exact fun _ => ⟨fun _ => .nil, fun k q => nomatch q⟩
  | @node d k y b acc l r ey pl pr ih1 ih2 =>
    intro _
    have lt : ∀ {c : Nat}, (y.left = some c ∨ y.right = some c) → c < s.length := fun {c} q => by
      obtain ⟨z, ez, _⟩ := R.son k c ⟨y, ey, q⟩
      exact lt_at ez
    obtain ⟨a1, a2⟩ := ih1 fun c q => lt (.inl q)
    obtain ⟨b1, b2⟩ := ih2 fun c q => lt (.inr q)
    -- sons of another house are no sons of h
    have other : k ≠ h → ∀ {c : Nat}, (y.left = some c ∨ y.right = some c) → ¬ SonOf s h c := fun n c q so => n (R.sonof_inj ⟨y, ey, q⟩ so)
    constructor
    · intro ns
      by_cases q : k = h
      · subst q
        rw [e] at ey
        cases ey
        have hl : ∀ {oo : Option Nat} {m : List (Nat × Int)}, (oo = x.left ∨ oo = x.right) → (∀ c, oo = some c → SonOf s k c → ∀ (b' : Bool) (acc' : Int), (xor b x.turned) = xor b' x.turned → acc + x.added = acc' + x.added → Pt (handOn s k) d oo b' acc' m) → Pt s d oo (xor b x.turned) (acc + x.added) m → Pt (handOn s k) d oo b acc m := fun {oo m} ho f p => by
          cases oo with
          | none =>
            cases p with
            | nil => exact .nil
          | some c => exact f c rfl ⟨x, e, ho.imp Eq.symm Eq.symm⟩ b acc rfl rfl
        have pl' := hl (.inl rfl) a2 pl
        have pr' := hl (.inr rfl) b2 pr
        have hx := handOn_h e
        have ct : xor b (hnd x).turned = b := by show xor b false = b; simp
        have ca : acc + (hnd x).added = acc := by show acc + 0 = acc; omega
        have cv : (hnd x).value = x.value := rfl
        cases ht : x.turned with
        | false =>
          have hL : (hnd x).left = x.left := by simp [hnd, ht]
          have hR : (hnd x).right = x.right := by simp [hnd, ht]
          have := Pt.node (d := d) (b := b) (acc := acc) hx (l := l) (r := r) (by rw [ct, ca, hL]; exact pl') (by rw [ct, ca, hR]; exact pr')
          rw [ct, cv] at this
          simpa using this
        | true =>
          have hL : (hnd x).left = x.right := by simp [hnd, ht]
          have hR : (hnd x).right = x.left := by simp [hnd, ht]
          have := Pt.node (d := d) (b := b) (acc := acc) hx (l := r) (r := l) (by rw [ct, ca, hL]; exact pr') (by rw [ct, ca, hR]; exact pl')
          rw [ct, cv] at this
          cases b <;> simpa using this
      · have ek : (handOn s h)[k]? = some y := by
          rw [handOn_no e q fun so => ns k rfl ⟨x, e, so⟩]; exact ey
        exact .node ek (a1 fun c hc => other q (.inl hc)) (b1 fun c hc => other q (.inr hc))
    · rintro k' ⟨rfl⟩ so b' acc' eb ea
      have q := nh so
      obtain ⟨x', ex', hx'⟩ := so
      rw [e] at ex'
      cases ex'
      have ek := handOn_son e ey q hx'
      subst eb ea
      have e1 : xor (xor b' x.turned) y.turned = xor b' (flp x y).turned := by
        show _ = xor b' (xor y.turned x.turned)
        cases b' <;> cases x.turned <;> cases y.turned <;> rfl
      have e2 : acc' + x.added + y.added = acc' + (flp x y).added := by show _ = acc' + (y.added + x.added); omega
      have e3 : y.value + (acc' + x.added) = (flp x y).value + acc' := by show _ = y.value + x.added + acc'; omega
      have pl' := a1 fun c hc => other q (.inl hc)
      have pr' := b1 fun c hc => other q (.inr hc)
      rw [e1, e2] at pl' pr'
      rw [e1, e3]
      exact .node ek pl' pr'
theorem handOn_row (R : RS s) {t : Nat} {l : List (Nat × Int)} (r : Row s t l) : Row (handOn s h) t l := by
  refine ⟨by rw [handOn_len e]; exact r.1, fun ⟨u, so⟩ => r.2.1 ⟨u, (handOn_sonOf e).mp so⟩, ?_⟩
  exact (handOn_pt e R r.2.2 fun k q => by cases q; exact r.1).1 fun k q so => by
    cases q
    exact r.2.1 ⟨h, so⟩
theorem handOn_told (R : RS s) {ps : List (Option Nat)} {ws : List Int} (W : Told s ps ws) : Told (handOn s h) ps ws := by
  have back : ∀ {t : Nat} {l : List (Nat × Int)}, Row (handOn s h) t l → Row s t l := fun {t l} r => by
    have ht : t < s.length := by have := r.1; rwa [handOn_len e] at this
    obtain ⟨m, q⟩ := R.row_ex ht fun ⟨u, so⟩ => r.2.1 ⟨u, (handOn_sonOf e).mpr so⟩
    have := (handOn_row e R q).2.2.det r.2.2
    subst this
    exact q
  refine ⟨by rw [W.lp, handOn_len e], by rw [W.lw, handOn_len e], fun t l z r ez i h' w hi => ?_, fun t l r h' w m => W.wor t l (back r) h' w m⟩
  obtain ⟨y, ey⟩ := at_of (back r).1
  have : z.up = y.up := by
    have h1 : (ups (handOn s h))[t]? = some z.up := ups_at ez
    rw [handOn_ups e, ups_at ey] at h1
    exact (Option.some.inj h1).symm
  rw [this]
  exact W.par t l y (back r) ey i h' w hi
end
end W3
namespace W3
open PySem PySem.Spec PyProof.Rows L2 M3
/-! ### stands that change -/
theorem St.set {g : G} {S : Store} {b o : Nat} {s : Shp} (T : St g S b o s) {k : Nat} (hk : k < s.length) (y : Hs) : St g (S.set (b + k) (stO g y)) b o (s.set k y) where
  at_ := fun j x e => by
    have hl : b + k < S.length := by obtain ⟨x, ex⟩ := at_of hk; exact lt_of_get (T.at_ k x ex)
    by_cases c : k = j
    · subst c
      rw [List.getElem?_set_self hk] at e
      cases e
      exact List.getElem?_set_self hl
    · rw [List.getElem?_set_ne c] at e
      rw [List.getElem?_set_ne (by omega)]
      exact T.at_ j x e
  lst := by
    rw [List.length_set, List.getElem?_set_ne (fun q => T.out k hk q.symm)]
    exact T.lst
  out := fun j hj => T.out j (by rwa [List.length_set] at hj)
  cl := fun j w e => by
    rw [List.length_set]
    by_cases c : b + k = j
    · subst c
      have hl : b + k < S.length := by obtain ⟨x, ex⟩ := at_of hk; exact lt_of_get (T.at_ k x ex)
      rw [List.getElem?_set_self hl] at e
      cases e
      exact stO_lt
    · rw [List.getElem?_set_ne c] at e
      exact T.cl j w e
theorem Fr.set {S : Store} {b n k : Nat} {z : O} (hk : k < n) : Fr S (S.set (b + k) z) b n := ⟨List.length_set, fun j h => List.getElem?_set_ne fun q => h k hk q.symm⟩
def modAt (s : Shp) (c : Nat) (f : Hs → Hs) : Shp := match s[c]? with
  | some y => s.set c (f y)
  | none => s
theorem modAt_eq {s : Shp} {c : Nat} {y : Hs} (e : s[c]? = some y) (f : Hs → Hs) : modAt s c f = s.set c (f y) := by unfold modAt; rw [e]
theorem modAt_len (s : Shp) (c : Nat) (f : Hs → Hs) : (modAt s c f).length = s.length := by
  unfold modAt
  split
  · exact List.length_set
  · rfl
theorem modAt_at (s : Shp) (c : Nat) (f : Hs → Hs) (k : Nat) : (modAt s c f)[k]? = if k = c then (s[k]?).map f else s[k]? := by
  unfold modAt
  cases e : s[c]? with
  | none =>
    simp only
    by_cases q : k = c
    · subst q; rw [if_pos rfl, e]; rfl
    · rw [if_neg q]
  | some y =>
    simp only
    by_cases q : k = c
    · subst q; rw [if_pos rfl, List.getElem?_set_self (lt_at e), e]; rfl
    · rw [if_neg q, List.getElem?_set_ne (fun z => q z.symm)]
theorem foldM_at (f : Hs → Hs) (k : Nat) : ∀ {cs : List Nat} {s : Shp}, cs.Nodup → (cs.foldl (fun s c => modAt s c f) s)[k]? = if k ∈ cs then (s[k]?).map f else s[k]?
  | [], s, _ => by simp
  | c :: cs, s, nd => by
    rw [List.foldl_cons, foldM_at f k (List.nodup_cons.mp nd).2, modAt_at]
    by_cases q : k = c
    · subst q
      have := (List.nodup_cons.mp nd).1
      simp [this]
    · simp [q]
theorem foldM_len (f : Hs → Hs) : ∀ {cs : List Nat} {s : Shp}, (cs.foldl (fun s c => modAt s c f) s).length = s.length
  | [], s => rfl
  | c :: cs, s => by rw [List.foldl_cons, foldM_len f, modAt_len]
def sonsL (x : Hs) : List Nat := [x.left, x.right].filterMap id
theorem sonsL_mem {x : Hs} {c : Nat} : c ∈ sonsL x ↔ (x.left = some c ∨ x.right = some c) := by
  unfold sonsL
  simp [List.mem_filterMap, eq_comm]
/-- handing on, step by step -/
def hSteps (s : Shp) (h : Nat) (x : Hs) : Shp :=
  let s1 := if x.turned = true then (sonsL x).foldl (fun s c => modAt s c fun y => { y with turned := !y.turned }) (modAt s h fun z => { z with left := x.right, right := x.left, turned := false }) else s
  modAt ((sonsL x).foldl (fun s c => modAt s c fun y => { y with added := y.added + x.added, value := y.value + x.added }) s1) h fun z => { z with added := 0 }
theorem sons_nd {s : Shp} (R : RS s) {h : Nat} {x : Hs} (e : s[h]? = some x) : (sonsL x).Nodup ∧ h ∉ sonsL x := by
  constructor
  · unfold sonsL
    cases cl : x.left with
    | none => cases cr : x.right <;> simp
    | some l =>
      cases cr : x.right with
      | none => simp
      | some r =>
        have : l ≠ r := fun q => R.ne h l x e cl (by rw [cr, q])
        simp [this]
  · intro m
    have so : SonOf s h h := ⟨x, e, sonsL_mem.mp m⟩
    have := congrArg List.length (R.upc so)
    simp at this
theorem hSteps_eq {s : Shp} (R : RS s) {h : Nat} {x : Hs} (e : s[h]? = some x) : hSteps s h x = handOn s h := by
  obtain ⟨nd, nh⟩ := sons_nd R e
  refine List.ext_getElem? fun k => ?_
  rw [handOn_at e]
  unfold hSteps
  rw [modAt_at]
  by_cases kh : k = h
  · subst kh
    rw [if_pos rfl, foldM_at _ _ nd, if_neg nh, e]
    cases ht : x.turned with
    | true =>
      simp only [if_true]
      rw [foldM_at _ _ nd, if_neg nh, modAt_at, if_pos rfl, e]
      simp [hnd, ht]
    | false =>
      simp only [Bool.false_eq_true, if_false]
      rw [e]
      simp [hnd, ht]
  · rw [if_neg kh, foldM_at _ _ nd]
    cases ht : x.turned with
    | true =>
      simp only [if_true]
      rw [foldM_at _ _ nd, modAt_at, if_neg kh]
      by_cases m : k ∈ sonsL x
      · rw [if_pos m, if_pos m]
        cases s[k]? with
        | none => rfl
        | some y => simp [kh, sonsL_mem.mp m, flp, ht]
      · have nm : ¬ (x.left = some k ∨ x.right = some k) := fun q => m (sonsL_mem.mpr q)
        rw [if_neg m, if_neg m]
        cases s[k]? with
        | none => rfl
        | some y => simp only [Option.map_some, if_neg kh, if_neg nm]
    | false =>
      simp only [Bool.false_eq_true, if_false]
      by_cases m : k ∈ sonsL x
      · rw [if_pos m]
        cases s[k]? with
        | none => rfl
        | some y => simp [kh, sonsL_mem.mp m, flp, ht]
      · have nm : ¬ (x.left = some k ∨ x.right = some k) := fun q => m (sonsL_mem.mpr q)
        rw [if_neg m]
        cases s[k]? with
        | none => rfl
        | some y => simp only [Option.map_some, if_neg kh, if_neg nm]
section
variable {g : G} (X : Gx g) {Y t : Store} {b o : Nat} {s : Shp} (T : St g Y b o s) {k : Nat} {x : Hs} (e : s[k]? = some x)
include X T e
theorem st_up {v : Option Nat} : setF g.FL "up" (.obj (b + k)) (.dat (ov v)) (Y ++ t) = some (Y.set (b + k) (stO g { x with up := v }) ++ t) := by
  have q := sR_up X (T.app (t := t) e) (d := .dat (ov v))
  rw [List.set_append_left _ _ (lt_of_get (T.at_ k x e))] at q
  exact q
theorem st_left {v : Option Nat} : setF g.FL "left" (.obj (b + k)) (.dat (ov v)) (Y ++ t) = some (Y.set (b + k) (stO g { x with left := v }) ++ t) := by
  have q := sR_left X (T.app (t := t) e) (d := .dat (ov v))
  rw [List.set_append_left _ _ (lt_of_get (T.at_ k x e))] at q
  exact q
theorem st_right {v : Option Nat} : setF g.FL "right" (.obj (b + k)) (.dat (ov v)) (Y ++ t) = some (Y.set (b + k) (stO g { x with right := v }) ++ t) := by
  have q := sR_right X (T.app (t := t) e) (d := .dat (ov v))
  rw [List.set_append_left _ _ (lt_of_get (T.at_ k x e))] at q
  exact q
theorem st_turned {v : Bool} : setF g.FL "turned" (.obj (b + k)) (.dat (.bl v)) (Y ++ t) = some (Y.set (b + k) (stO g { x with turned := v }) ++ t) := by
  have q := sR_turned X (T.app (t := t) e) (d := .dat (.bl v))
  rw [List.set_append_left _ _ (lt_of_get (T.at_ k x e))] at q
  exact q
theorem st_added {v : Int} : setF g.FL "added" (.obj (b + k)) (.dat (.int v)) (Y ++ t) = some (Y.set (b + k) (stO g { x with added := v }) ++ t) := by
  have q := sR_added X (T.app (t := t) e) (d := .dat (.int v))
  rw [List.set_append_left _ _ (lt_of_get (T.at_ k x e))] at q
  exact q
theorem st_value {v : Int} : setF g.FL "value" (.obj (b + k)) (.dat (.int v)) (Y ++ t) = some (Y.set (b + k) (stO g { x with value := v }) ++ t) := by
  have q := sR_value X (T.app (t := t) e) (d := .dat (.int v))
  rw [List.set_append_left _ _ (lt_of_get (T.at_ k x e))] at q
  exact q
end
end W3
namespace W3
open PySem PySem.Spec PyProof.Rows L2 M3
/-! ### handing on: by the program -/
theorem fieldAt_old {Y t : Store} {b o : Nat} {s : Shp} {g : G} (T : St g Y b o s) {k : Nat} {x : Hs} (e : s[k]? = some x) : (Y ++ t)[b + k]? = some (stO g x) := T.app e
theorem modN {s : Shp} {c : Nat} {f : Hs → Hs} {y : Hs} (e : s[c]? = some y) : (modAt s c f)[c]? = some (f y) := by rw [modAt_at, if_pos rfl, e]; rfl
theorem fin_nx_ends {r : R Out} {Q : Store → Prop} (h : Ends r fun o S => ∃ δ, o = .nx δ ∧ Q S) : ∃ (d : D) (S : Store), fin r = .ok d S ∧ (d = .dat .non ∧ Q S) := by
  obtain ⟨o, S, rfl, δ, rfl, q⟩ := h
  exact ⟨_, S, rfl, rfl, q⟩
section
variable {g : G} (X : Gx g) {S : Store} {b o : Nat} {s : Shp} (T : St g S b o s) (R : RS s)
include X T R
theorem hand_on_t {h : Nat} (hh : h < s.length) : ∃ S', mScope (m_hand_on g) [.obj o, .dat (nv h)] S = .ok (.dat .non) S' ∧ St g S' b o (handOn s h) ∧ Fr S S' b s.length := by
  obtain ⟨x, e⟩ := at_of hh
  obtain ⟨nd, nh⟩ := sons_nd R e
  have n64 := R.n64
  have lt : ∀ c ∈ sonsL x, c < s.length := fun c m => by
    obtain ⟨y, ey, _⟩ := R.son h c ⟨x, e, sonsL_mem.mp m⟩
    exact lt_at ey
  suffices z : ∃ d S', m_hand_on g [.obj o, .dat (nv h)] S = .ok d S' ∧ d = .dat .non ∧ ∃ Y t, S' = Y ++ t ∧ St g Y b o (hSteps s h x) ∧ Fr S Y b s.length by
    obtain ⟨d, S', e1, rfl, Y, t, rfl, T', F'⟩ := z
    rw [hSteps_eq R e] at T'
    exact ⟨Y, scope_u e1 F'.len T'.cl, T', F'⟩
  have sl : ∃ k : Nat, (sonsL x).length = k ∧ k ≤ 2 := ⟨_, rfl, by unfold sonsL; cases x.left <;> cases x.right <;> simp⟩
  have l2 : (2 : Nat) ≤ 100000 := by decide
  -- the list of the sons
  have lc : mLc (mWalk (mTup (mCons (mFld g.FL "left" (mVar 2)) (mCons (mFld g.FL "right" (mVar 2)) mNil)))) (gmName 4) (mTst (mOp aNotN (mVar 4) (mC .non))) (mOp aIx (mVar 0) (mVar 4)) [4] [some (.obj o), some (.dat (nv h)), some (.obj (b + h)), none, none] S = .ok ((sonsL x).map fun c => .obj (b + c)) S := by
    have w : mWalk (mTup (mCons (mFld g.FL "left" (mVar 2)) (mCons (mFld g.FL "right" (mVar 2)) mNil))) [some (.obj o), some (.dat (nv h)), some (.obj (b + h)), none, none] S = .ok (.items (([x.left, x.right].map ov).map .dat)) S := walk_t (l := [x.left, x.right].map ov) (by
      unfold mFld
      dsimp! [fR_left X (T.at_ h x e), fR_right X (T.at_ h x e), l2])
    rw [List.map_map] at w
    have ee := lc_items (w := mWalk (mTup (mCons (mFld g.FL "left" (mVar 2)) (mCons (mFld g.FL "right" (mVar 2)) mNil)))) (g := gmName 4) (t := mTst (mOp aNotN (mVar 4) (mC .non))) (e := mOp aIx (mVar 0) (mVar 4)) (vs := [4]) (δ := [some (.obj o), some (.dat (nv h)), some (.obj (b + h)), none, none]) (S := S) (S1 := S) (fun d => match d with
      | .dat (.int c) => some (.obj (b + c.toNat))
      | _ => none) w (by simp) fun d m => ⟨_, rfl, ?_⟩
    · rw [ee]
      unfold sonsL
      cases x.left <;> cases x.right <;> simp [ov]
    · obtain ⟨oo, mo, rfl⟩ := List.mem_map.mp m
      cases oo with
      | none => show mTst _ _ _ = _; dsimp! [Function.comp, ov]
      | some c =>
        have hc : c < s.length := lt c (by
          rw [sonsL_mem]
          simp only [List.mem_cons, List.mem_nil_iff, or_false] at mo
          exact mo.imp Eq.symm Eq.symm)
        have ix : aIx S (.obj o) (.dat (ov (some c))) = some (.obj (b + c)) := T.ix hc
        refine ⟨by dsimp! [Function.comp, ov], ?_⟩
        show mOp aIx (mVar 0) (mVar 4) _ _ = _
        dsimp! [Function.comp, ix]
        rfl
  -- a walk over the sons
  have walk : ∀ (bd : DS) (f : Hs → Hs) (x4 : Option D) (Y : Store) (s0 : Shp), St g Y b o s0 → Fr S Y b s.length → s0.length = s.length → (∀ (c : Nat) (y : Hs) (Y : Store) (s1 : Shp), c ∈ sonsL x → St g Y b o s1 → s1.length = s.length → s1[h]? = s0[h]? → s1[c]? = some y →
        bd [some (.obj o), some (.dat (nv h)), some (.obj (b + h)), some (.obj S.length), some (.obj (b + c))] (Y ++ [.lst ((sonsL x).map fun c => .obj (b + c))]) = .ok (.nx [some (.obj o), some (.dat (nv h)), some (.obj (b + h)), some (.obj S.length), some (.obj (b + c))]) (Y.set (b + c) (stO g (f y)) ++ [.lst ((sonsL x).map fun c => .obj (b + c))])) →
      Ends (mFor (mWalk (mVar 3)) (gmName 4) bd [some (.obj o), some (.dat (nv h)), some (.obj (b + h)), some (.obj S.length), x4] (Y ++ [.lst ((sonsL x).map fun c => .obj (b + c))])) fun o' S' => ∃ (x4 : Option D) (Y : Store), o' = .nx [some (.obj o), some (.dat (nv h)), some (.obj (b + h)), some (.obj S.length), x4] ∧ S' = Y ++ [.lst ((sonsL x).map fun c => .obj (b + c))] ∧ St g Y b o ((sonsL x).foldl (fun s c => modAt s c f) s0) ∧ Fr S Y b s.length := by
    intro bd f x4 Y s0 T0 F0 l0 hb
    have hS : ∀ Y : Store, Y.length = S.length → (Y ++ [O.lst ((sonsL x).map fun c => .obj (b + c))])[S.length]? = some (.lst ((sonsL x).map fun c => .obj (b + c))) := fun Y ly => by
      rw [← ly]; exact get_new
    rw [for_ob (walk_o (o := S.length) rfl (hS Y F0.len)) (hS Y F0.len)]
    refine forO_ends (l := (sonsL x).map fun c => .obj (b + c)) (fun i δ S' => ∃ (x4 : Option D) (Y : Store), δ = [some (.obj o), some (.dat (nv h)), some (.obj (b + h)), some (.obj S.length), x4] ∧ S' = Y ++ [.lst ((sonsL x).map fun c => .obj (b + c))] ∧ St g Y b o (((sonsL x).take i).foldl (fun s c => modAt s c f) s0) ∧ Fr S Y b s.length) (fun i δ S' ⟨x4, Y, _, e2, _, F⟩ => by rw [e2]; exact hS Y F.len) ?_ (fun δ S' ⟨x4, Y, e1, e2, T1, F⟩ => ⟨x4, Y, by rw [e1], e2, by rwa [List.take_of_length_le (by simp)] at T1, F⟩) (by simp) ⟨x4, Y, rfl, rfl, by simpa using T0, F0⟩
    rintro i d δ S' ed ⟨x4, Y, rfl, rfl, T1, F1⟩
    rw [List.getElem?_map] at ed
    cases ec : (sonsL x)[i]? with
    | none => rw [ec] at ed; cases ed
    | some c =>
      rw [ec] at ed
      cases ed
      have mc := List.mem_of_getElem? ec
      have hc := lt c mc
      have ln : (((sonsL x).take i).foldl (fun s c => modAt s c f) s0).length = s.length := by rw [foldM_len, l0]
      obtain ⟨y, ey⟩ := at_of (s := ((sonsL x).take i).foldl (fun s c => modAt s c f) s0) (h := c) (by rw [ln]; exact hc)
      have ndt : ((sonsL x).take i).Nodup := nd.sublist (List.take_sublist _ _)
      have e0 : (((sonsL x).take i).foldl (fun s c => modAt s c f) s0)[h]? = s0[h]? := by
        rw [foldM_at f h ndt, if_neg fun m => nh (List.mem_of_mem_take m)]
      have q := hb c y Y _ mc T1 ln e0 ey
      refine Ends.eq (.of (tm ⟨_, _, rfl, rfl, ?_, F1.trans (Fr.set hc)⟩)) q
      rw [List.take_add_one, ec]
      show St g _ b o (List.foldl _ s0 (List.take i (sonsL x) ++ [c]))
      rw [List.foldl_append, List.foldl_cons, List.foldl_nil, modAt_eq ey]
      exact T1.set (by rw [ln]; exact hc) _
  unfold m_hand_on
  rw [mBody_fin]
  refine Exists.imp (fun d h => Exists.imp (fun S' h => ⟨h.1, h.2⟩) h) (fin_nx_ends ?_)
  unfold mSetF
  dsimp! [T.ix hh, lc]
  have sx : ∀ (Y : Store) (s1 : Shp), St g Y b o s1 → s1.length = s.length → ∃ z, s1[h]? = some z := fun Y s1 T1 l1 => at_of (by rw [l1]; exact hh)
  have T0 := T
  have L : O.lst ((sonsL x).map fun c => .obj (b + c)) = O.lst ((sonsL x).map fun c => .obj (b + c)) := rfl
  -- the flags
  refine then_ends (Q1 := fun o' S' => ∃ (x4 : Option D) (Y : Store), o' = .nx [some (.obj o), some (.dat (nv h)), some (.obj (b + h)), some (.obj S.length), x4] ∧ S' = Y ++ [.lst ((sonsL x).map fun c => .obj (b + c))] ∧ St g Y b o (if x.turned = true then (sonsL x).foldl (fun s c => modAt s c fun y => { y with turned := !y.turned }) (modAt s h fun z => { z with left := x.right, right := x.left, turned := false }) else s) ∧ Fr S Y b s.length) ?_ ?_
  · cases ht : x.turned with
    | false =>
      have f0 := fR_turned X (T.app (t := [.lst ((sonsL x).map fun c => .obj (b + c))]) e)
      rw [ht] at f0
      unfold mFld
      dsimp! [f0]
      exact .of ⟨_, S, rfl, rfl, by simpa using T, Fr.refl⟩
    | true =>
      have f0 := fR_turned X (T.app (t := [.lst ((sonsL x).map fun c => .obj (b + c))]) e)
      have fl := fR_left X (T.app (t := [.lst ((sonsL x).map fun c => .obj (b + c))]) e)
      have fr := fR_right X (T.app (t := [.lst ((sonsL x).map fun c => .obj (b + c))]) e)
      have g1 := st_left X T (t := [.lst ((sonsL x).map fun c => .obj (b + c))]) e (v := x.right)
      have T1 := T.set hh { x with left := x.right }
      have e1 : (s.set h { x with left := x.right })[h]? = some { x with left := x.right } := List.getElem?_set_self hh
      have g2 := st_right X T1 (t := [.lst ((sonsL x).map fun c => .obj (b + c))]) e1 (v := x.left)
      have T2 := T1.set (by rw [List.length_set]; exact hh) { x with left := x.right, right := x.left }
      have e2 : ((s.set h { x with left := x.right }).set h { x with left := x.right, right := x.left })[h]? = some { x with left := x.right, right := x.left } := List.getElem?_set_self (by rw [List.length_set]; exact hh)
      have g3 := st_turned X T2 (t := [.lst ((sonsL x).map fun c => .obj (b + c))]) e2 (v := false)
      have T3 := T2.set (by rw [List.length_set, List.length_set]; exact hh) { x with left := x.right, right := x.left, turned := false }
      have F3 : Fr S (((S.set (b + h) (stO g { x with left := x.right })).set (b + h) (stO g { x with left := x.right, right := x.left })).set (b + h) (stO g { x with left := x.right, right := x.left, turned := false })) b s.length := ((Fr.set hh).trans (Fr.set hh)).trans (Fr.set hh)
      have es : ((s.set h { x with left := x.right }).set h { x with left := x.right, right := x.left }).set h { x with left := x.right, right := x.left, turned := false } = s.set h { x with left := x.right, right := x.left, turned := false } := by rw [List.set_set, List.set_set]
      rw [es] at T3
      have em := modAt_eq e fun z => { z with left := x.right, right := x.left, turned := false }
      have em : modAt s h (fun z => { z with left := x.right, right := x.left, turned := false }) = s.set h { x with left := x.right, right := x.left, turned := false } := em
      have two : ([ov x.right, ov x.left] : List P).length = 2 := rfl
      rw [ht] at f0
      unfold mFld gmFld
      dsimp! [f0, fl, fr, l2, two, g1, g2, g3]
      refine (walk _ (fun y => { y with turned := !y.turned }) _ _ _ T3 F3 List.length_set (fun c y Y s1 mc T4 l4 _ ey => ?_)).mono fun o' S' ⟨x4, Y, q1, q2, q3, q4⟩ => ⟨x4, Y, q1, q2, by rw [em]; exact q3, q4⟩
      have fy := fR_turned X (T4.app (t := [.lst ((sonsL x).map fun c => .obj (b + c))]) ey)
      have gy := st_turned X T4 (t := [.lst ((sonsL x).map fun c => .obj (b + c))]) ey (v := !y.turned)
      dsimp! [fy, gy]
  · rintro o' S' ⟨x4, Y, rfl, rfl, T1, F1⟩
    obtain ⟨s1, hs1⟩ : ∃ s1, s1 = (if x.turned = true then (sonsL x).foldl (fun s c => modAt s c fun y => { y with turned := !y.turned }) (modAt s h fun z => { z with left := x.right, right := x.left, turned := false }) else s) := ⟨_, rfl⟩
    rw [← hs1] at T1
    have l1 : s1.length = s.length := by
      rw [hs1]
      split
      · rw [foldM_len, modAt_len]
      · rfl
    obtain ⟨z, ez, az⟩ : ∃ z : Hs, s1[h]? = some z ∧ z.added = x.added := by
      rw [hs1]
      split
      · rw [foldM_at _ _ nd, if_neg nh, modN e]; exact ⟨_, rfl, rfl⟩
      · exact ⟨x, e, rfl⟩
    dsimp! []
    refine then_ends (walk _ (fun y => { y with added := y.added + x.added, value := y.value + x.added }) _ _ _ T1 F1 l1 (fun c y Y s2 mc T4 l4 e0 ey => ?_)) ?_
    · have hc := lt c mc
      have hch : h ≠ c := fun q => nh (q ▸ mc)
      rw [ez] at e0
      have fa := fR_added X (T4.app (t := [.lst ((sonsL x).map fun c => .obj (b + c))]) e0)
      rw [az] at fa
      have fv := fR_value X (T4.app (t := [.lst ((sonsL x).map fun c => .obj (b + c))]) ey)
      have g1 := st_value X T4 (t := [.lst ((sonsL x).map fun c => .obj (b + c))]) ey (v := y.value + x.added)
      have T5 := T4.set (by rw [l4]; exact hc) { y with value := y.value + x.added }
      have ey5 : (s2.set c { y with value := y.value + x.added })[c]? = some { y with value := y.value + x.added } := List.getElem?_set_self (by rw [l4]; exact hc)
      have ez5 : (s2.set c { y with value := y.value + x.added })[h]? = some z := by rw [List.getElem?_set_ne (fun q => hch q.symm)]; exact e0
      have fa5 := fR_added X (T5.app (t := [.lst ((sonsL x).map fun c => .obj (b + c))]) ez5)
      rw [az] at fa5
      have fy5 := fR_added X (T5.app (t := [.lst ((sonsL x).map fun c => .obj (b + c))]) ey5)
      have g2 := st_added X T5 (t := [.lst ((sonsL x).map fun c => .obj (b + c))]) ey5 (v := y.added + x.added)
      have ad : ∀ (S : Store) (i j : Int), aAddI S (.dat (.int i)) (.dat (.int j)) = some (.dat (.int (i + j))) := fun _ _ _ => rfl
      unfold mAugF mFld
      dsimp! [fa, fv, ad, g1, fa5, fy5, g2]
      rw [List.set_set]
    · rintro o' S' ⟨x4, Y, rfl, rfl, T6, F6⟩
      have l6 : ((sonsL x).foldl (fun s c => modAt s c fun y => { y with added := y.added + x.added, value := y.value + x.added }) s1).length = s.length := by rw [foldM_len, l1]
      obtain ⟨w, ew⟩ := at_of (s := (sonsL x).foldl (fun s c => modAt s c fun y => { y with added := y.added + x.added, value := y.value + x.added }) s1) (h := h) (by rw [l6]; exact hh)
      have g0 := st_added X T6 (t := [.lst ((sonsL x).map fun c => .obj (b + c))]) ew (v := 0)
      have T7 := T6.set (by rw [l6]; exact hh) { w with added := 0 }
      dsimp! [g0]
      refine .of ⟨_, rfl, _, _, rfl, ?_, F6.trans (Fr.set hh)⟩
      unfold hSteps
      rw [← hs1, modAt_eq ew]
      exact T7
end
end W3
namespace W3
/-! ### a turn -/
def ren (a h : Nat) (o : Option Nat) : Option Nat := if o = some a then some h else o
/-- what lies between, behind a turn -/
def mid (x y : Hs) (h : Nat) : Option Nat := if y.right = some h then x.left else x.right
def rotF (a h : Nat) (x y : Hs) (k : Nat) (z : Hs) : Hs :=
  if k = h then { x with up := y.up, left := if y.right = some h then some a else x.left, right := if y.right = some h then x.right else some a }
  else if k = a then { y with up := some h, left := if y.right = some h then y.left else x.right, right := if y.right = some h then x.left else y.right }
  else { z with up := if mid x y h = some k then some a else z.up, left := ren a h z.left, right := ren a h z.right }
def rot (s : Shp) (a h : Nat) : Shp := match s[a]?, s[h]? with
  | some y, some x => s.mapIdx (rotF a h x y)
  | _, _ => s
/-- before a turn: h is a son of a; both have handed on -/
structure Pre (s : Shp) (a h : Nat) (x y : Hs) : Prop where
  R : RS s
  ea : s[a]? = some y
  eh : s[h]? = some x
  so : y.left = some h ∨ y.right = some h
  tx : x.turned = false
  ty : y.turned = false
  ax : x.added = 0
  ay : y.added = 0
section
variable {s : Shp} {a h : Nat} {x y : Hs} (p : Pre s a h x y)
include p
theorem Pre.sof : SonOf s a h := ⟨y, p.ea, p.so⟩
theorem Pre.xu : x.up = some a := by
  obtain ⟨z, ez, q⟩ := p.R.son a h p.sof
  rw [p.eh] at ez
  cases ez
  exact q
theorem Pre.upc : W2.up (ups s) h = h :: W2.up (ups s) a := p.R.upc p.sof
theorem Pre.ah : a ≠ h := fun q => by
  have := congrArg List.length p.upc
  rw [q] at this
  simp at this
theorem Pre.no_self {u : Nat} : ¬ SonOf s u u := fun so => by
  have := congrArg List.length (p.R.upc so)
  simp at this
theorem Pre.no_back : ¬ SonOf s h a := fun so => by
  have := congrArg List.length (p.R.upc so)
  rw [p.upc] at this
  simp at this
  omega
theorem rot_eq : rot s a h = s.mapIdx (rotF a h x y) := by unfold rot; rw [p.ea, p.eh]
theorem rot_len : (rot s a h).length = s.length := by rw [rot_eq p, List.length_mapIdx]
theorem rot_at (k : Nat) : (rot s a h)[k]? = (s[k]?).map (rotF a h x y k) := by rw [rot_eq p, List.getElem?_mapIdx]
theorem rot_h : (rot s a h)[h]? = some { x with up := y.up, left := if y.right = some h then some a else x.left, right := if y.right = some h then x.right else some a } := by
  rw [rot_at p, p.eh]; simp [rotF]
theorem rot_a : (rot s a h)[a]? = some { y with up := some h, left := if y.right = some h then y.left else x.right, right := if y.right = some h then x.left else y.right } := by
  rw [rot_at p, p.ea]; simp [rotF, p.ah]
theorem rot_o {k : Nat} {z : Hs} (e : s[k]? = some z) (n1 : k ≠ h) (n2 : k ≠ a) : (rot s a h)[k]? = some { z with up := if mid x y h = some k then some a else z.up, left := ren a h z.left, right := ren a h z.right } := by
  rw [rot_at p, e]; simp [rotF, n1, n2]
theorem Pre.mid_son {k : Nat} (e : mid x y h = some k) : SonOf s h k := by
  unfold mid at e
  split at e
  · exact ⟨x, p.eh, .inl e⟩
  · exact ⟨x, p.eh, .inr e⟩
theorem Pre.left_of (q : y.right ≠ some h) : y.left = some h := p.so.resolve_right q
theorem ren_ne {u : Nat} {o : Option Nat} (hu : ∀ c, o = some c → SonOf s u c) (n : ¬ SonOf s u a) : ren a h o = o := by
  unfold ren
  split
  · rename_i q; exact absurd (hu a q) n
  · rfl
theorem rot_son {u c : Nat} (so : SonOf (rot s a h) u c) : ∃ z, (rot s a h)[c]? = some z ∧ z.up = some u := by
  have ah := p.ah
  obtain ⟨z, ez, hz⟩ := so
  by_cases uh : u = h
  · subst uh
    rw [rot_h p] at ez
    cases ez
    by_cases r : y.right = some u
    · simp only [r, if_true] at hz
      rcases hz with hz | hz
      · cases hz; exact ⟨_, rot_a p, rfl⟩
      · have sc : SonOf s u c := ⟨x, p.eh, .inr hz⟩
        obtain ⟨w, ew, hw⟩ := p.R.son u c sc
        have n1 : c ≠ u := fun q => by subst q; exact p.no_self sc
        have n2 : c ≠ a := fun q => by subst q; exact p.no_back sc
        refine ⟨_, rot_o p ew n1 n2, ?_⟩
        simp only [mid, r, if_true]
        rw [if_neg fun q => p.R.ne u c x p.eh q hz]; exact hw
    · simp only [r, if_false] at hz
      rcases hz with hz | hz
      · have sc : SonOf s u c := ⟨x, p.eh, .inl hz⟩
        obtain ⟨w, ew, hw⟩ := p.R.son u c sc
        have n1 : c ≠ u := fun q => by subst q; exact p.no_self sc
        have n2 : c ≠ a := fun q => by subst q; exact p.no_back sc
        refine ⟨_, rot_o p ew n1 n2, ?_⟩
        simp only [mid, r, if_false]
        rw [if_neg fun q => p.R.ne u c x p.eh hz q]; exact hw
      · cases hz; exact ⟨_, rot_a p, rfl⟩
  · by_cases ua : u = a
    · subst ua
      rw [rot_a p] at ez
      cases ez
      have stay : ∀ c, SonOf s u c → c ≠ h → ∃ z, (rot s u h)[c]? = some z ∧ z.up = some u := fun c sc n1 => by
        obtain ⟨w, ew, hw⟩ := p.R.son u c sc
        have n2 : c ≠ u := fun q => by subst q; exact p.no_self sc
        refine ⟨_, rot_o p ew n1 n2, ?_⟩
        show (if mid x y h = some c then some u else w.up) = some u
        split
        · rfl
        · exact hw
      have moved : ∀ c, mid x y h = some c → ∃ z, (rot s u h)[c]? = some z ∧ z.up = some u := fun c q => by
        have sc := p.mid_son q
        obtain ⟨w, ew, hw⟩ := p.R.son h c sc
        have n1 : c ≠ h := fun q => by subst q; exact p.no_self sc
        have n2 : c ≠ u := fun q => by subst q; exact p.no_back sc
        exact ⟨_, rot_o p ew n1 n2, if_pos q⟩
      by_cases r : y.right = some h
      · simp only [r, if_true] at hz
        rcases hz with hz | hz
        · exact stay c ⟨y, p.ea, .inl hz⟩ fun q => p.R.ne u h y p.ea (q ▸ hz) r
        · exact moved c (by simp only [mid, r, if_true]; exact hz)
      · simp only [r, if_false] at hz
        rcases hz with hz | hz
        · exact moved c (by simp only [mid, r, if_false]; exact hz)
        · exact stay c ⟨y, p.ea, .inr hz⟩ fun q => r (q ▸ hz)
    · have hu : u < s.length := by have := lt_at ez; rwa [rot_len p] at this
      obtain ⟨w, ew⟩ := at_of hu
      rw [rot_o p ew uh ua] at ez
      cases ez
      have key : ∀ o : Option Nat, (o = w.left ∨ o = w.right) → ren a h o = some c → ∃ z, (rot s a h)[c]? = some z ∧ z.up = some u := fun o ho e => by
        unfold ren at e
        split at e
        · rename_i q
          cases e
          have sc : SonOf s u a := ⟨w, ew, by rw [q] at ho; exact ho.imp Eq.symm Eq.symm⟩
          obtain ⟨v, ev, hv⟩ := p.R.son u a sc
          rw [p.ea] at ev
          cases ev
          exact ⟨_, rot_h p, hv⟩
        · rename_i q
          have sc : SonOf s u c := ⟨w, ew, by rw [e] at ho; exact ho.imp Eq.symm Eq.symm⟩
          obtain ⟨v, ev, hv⟩ := p.R.son u c sc
          have n1 : c ≠ h := fun z => by subst z; exact ua (p.R.sonof_inj sc p.sof)
          have n2 : c ≠ a := fun z => q (by rw [e, z])
          refine ⟨_, rot_o p ev n1 n2, ?_⟩
          show (if mid x y h = some c then some a else v.up) = some u
          rw [if_neg fun z => uh (p.R.sonof_inj sc (p.mid_son z))]; exact hv
      rcases hz with hz | hz
      · exact key _ (.inl rfl) hz
      · exact key _ (.inr rfl) hz
theorem rot_ne {u c : Nat} {z : Hs} (ez : (rot s a h)[u]? = some z) (hl : z.left = some c) : z.right ≠ some c := by
  have ah := p.ah
  by_cases uh : u = h
  · subst uh
    rw [rot_h p] at ez
    cases ez
    by_cases r : y.right = some u
    · simp only [r, if_true] at hl ⊢
      cases hl
      exact fun q => p.no_back ⟨x, p.eh, .inr q⟩
    · simp only [r, if_false] at hl ⊢
      intro q
      cases q
      exact p.no_back ⟨x, p.eh, .inl hl⟩
  · by_cases ua : u = a
    · subst ua
      rw [rot_a p] at ez
      cases ez
      by_cases r : y.right = some h
      · simp only [r, if_true] at hl ⊢
        exact fun q => ah (p.R.sonof_inj ⟨y, p.ea, .inl hl⟩ ⟨x, p.eh, .inl q⟩)
      · simp only [r, if_false] at hl ⊢
        exact fun q => ah (p.R.sonof_inj ⟨y, p.ea, .inr q⟩ ⟨x, p.eh, .inr hl⟩)
    · have hu : u < s.length := by have := lt_at ez; rwa [rot_len p] at this
      obtain ⟨w, ew⟩ := at_of hu
      rw [rot_o p ew uh ua] at ez
      cases ez
      have hl : ren a h w.left = some c := hl
      show ren a h w.right ≠ some c
      intro q
      unfold ren at hl q
      by_cases e1 : w.left = some a
      · by_cases e2 : w.right = some a
        · exact p.R.ne u a w ew e1 e2
        · rw [if_pos e1] at hl
          rw [if_neg e2] at q
          cases hl
          exact ua (p.R.sonof_inj ⟨w, ew, .inr q⟩ p.sof)
      · rw [if_neg e1] at hl
        by_cases e2 : w.right = some a
        · rw [if_pos e2] at q
          cases q
          exact ua (p.R.sonof_inj ⟨w, ew, .inl hl⟩ p.sof)
        · rw [if_neg e2] at q
          exact p.R.ne u c w ew hl q
theorem rup_h : (ups (rot s a h))[h]? = some y.up := (ups_at (rot_h p)).trans rfl
theorem rup_a : (ups (rot s a h))[a]? = some (some h) := (ups_at (rot_a p)).trans rfl
theorem rup_o {k : Nat} {o : Option Nat} (e : (ups s)[k]? = some o) (n1 : k ≠ h) (n2 : k ≠ a) : (ups (rot s a h))[k]? = some (if mid x y h = some k then some a else o) := by
  have hk : k < s.length := by have := lt_at e; rwa [ups_len] at this
  obtain ⟨z, ez⟩ := at_of hk
  rw [ups_at ez] at e
  cases e
  exact ups_at (rot_o p ez n1 n2)
/-- the ways up, behind a turn -/
theorem rot_chain {k : Nat} {l : List Nat} (c : W2.Ch (ups s) k l) : ∃ l', W2.Ch (ups (rot s a h)) k l' ∧ (∀ j, j ≠ a → j ≠ h → (j ∈ l' ↔ j ∈ l)) ∧ (h ∈ l' ↔ a ∈ l) := by
  have ah := p.ah
  have ux : (ups s)[h]? = some (some a) := by rw [ups_at p.eh, p.xu]
  have uy : (ups s)[a]? = some y.up := ups_at p.ea
  induction c with
  | @root k e =>
    by_cases kh : k = h
    · subst kh; rw [ux] at e; cases e
    · by_cases ka : k = a
      · subst ka
        rw [uy] at e
        have e := Option.some.inj e
        refine ⟨[k, h], .step (rup_a p) (.root (by rw [rup_h p, e])), fun j n1 n2 => ?_, by simp⟩
        simp [n1, n2]
      · have nm : mid x y h ≠ some k := fun q => by
          obtain ⟨w, ew, hw⟩ := p.R.son h k (p.mid_son q)
          rw [ups_at ew, hw] at e
          cases e
        refine ⟨[k], .root (by rw [rup_o p e kh ka, if_neg nm]), fun j _ _ => Iff.rfl, ?_⟩
        simp [Ne.symm kh, Ne.symm ka]
  | @step k q l e c ih =>
    obtain ⟨l', c', m1, m2⟩ := ih
    by_cases kh : k = h
    · subst kh
      rw [ux] at e
      have : a = q := by simpa using e
      subst this
      -- the way of a now goes by h
      cases c' with
      | root e2 => rw [rup_a p] at e2; cases e2
      | @step _ q2 l2 e2 c2 =>
        rw [rup_a p] at e2
        have : k = q2 := by simpa using e2
        subst this
        obtain ⟨r2, er2⟩ := c2.head
        refine ⟨l2, c2, fun j n1 n2 => ?_, ?_⟩
        · have := m1 j n1 n2
          rw [List.mem_cons] at this ⊢
          constructor
          · exact fun z => .inr (this.mp (.inr z))
          · rintro (z | z)
            · exact absurd z n2
            · exact (this.mpr z).resolve_left n1
        · have ha : a ∈ l := by obtain ⟨r, er⟩ := c.head; rw [er]; simp
          constructor
          · exact fun _ => List.mem_cons_of_mem _ ha
          · intro _; rw [er2]; simp
    · by_cases ka : k = a
      · subst ka
        rw [uy] at e
        have e := Option.some.inj e
        refine ⟨k :: h :: l', .step (rup_a p) (.step (by rw [rup_h p, e]) c'), fun j n1 n2 => ?_, by simp⟩
        have := m1 j n1 n2
        simp [n1, n2, this]
      · by_cases nm : mid x y h = some k
        · have sc := p.mid_son nm
          obtain ⟨w, ew, hw⟩ := p.R.son h k sc
          rw [ups_at ew, hw] at e
          have : h = q := by simpa using e
          subst this
          have ek : (ups (rot s a h))[k]? = some (some a) := by
            rw [rup_o p (o := some h) (by rw [ups_at ew, hw]) kh ka, if_pos nm]
          refine ⟨k :: a :: l', .step ek (.step (rup_a p) c'), fun j n1 n2 => ?_, ?_⟩
          · have := m1 j n1 n2
            simp [n1, this]
          · have hl : h ∈ l' := by obtain ⟨r, er⟩ := c'.head; rw [er]; simp
            have al : a ∈ l := m2.mp hl
            simp [hl, al]
        · refine ⟨k :: l', .step (by rw [rup_o p e kh ka, if_neg nm]) c', fun j n1 n2 => ?_, ?_⟩
          · have := m1 j n1 n2
            simp [this]
          · simp [Ne.symm kh, Ne.symm ka, m2]
theorem rot_rs : RS (rot s a h) where
  n1 := by rw [rot_len p]; exact p.R.n1
  n64 := by rw [rot_len p]; exact p.R.n64
  son := fun u c so => rot_son p so
  ne := fun u c z ez hl => rot_ne p ez hl
  tree := W2.tree_iff.mpr fun k hk => by
    rw [ups_len, rot_len p] at hk
    obtain ⟨l', c', _⟩ := rot_chain p (p.R.chain hk).1
    exact ⟨l', c'⟩
theorem rot_up {k : Nat} (hk : k < s.length) : (∀ j, j ≠ a → j ≠ h → (j ∈ W2.up (ups (rot s a h)) k ↔ j ∈ W2.up (ups s) k)) ∧ (h ∈ W2.up (ups (rot s a h)) k ↔ a ∈ W2.up (ups s) k) := by
  obtain ⟨l', c', m1, m2⟩ := rot_chain p (p.R.chain hk).1
  rw [W2.up_of c']
  exact ⟨m1, m2⟩
/-- rows stay -/
theorem rot_pt : ∀ (d : Nat) {o : Option Nat} {b : Bool} {acc : Int} {l : List (Nat × Int)}, Pt s d o b acc l → o ≠ some h → ∃ d', Pt (rot s a h) d' (ren a h o) b acc l := by
  intro d
  induction d using Nat.strongRecOn with
  | ind d ih =>
    intro o b acc l pt no
    cases pt with
    | nil => exact ⟨1, .nil⟩
    | @node d k z b acc l r ez pl pr =>
      have kh : k ≠ h := fun q => no (by rw [q])
      by_cases ka : k = a
      · subst ka
        rw [p.ea] at ez
        cases ez
        have rk : ren k h (some k) = some h := if_pos rfl
        rw [p.ty, p.ay, Bool.xor_false, Int.add_zero] at pl pr
        rw [p.ty, Bool.xor_false, rk]
        -- sons of a, of h, are none of both
        have na : ∀ {u c : Nat}, SonOf s u c → (u = k ∨ u = h) → c ≠ k := fun {u c} sc q z => by
          subst z
          rcases q with q | q
          · subst q; exact p.no_self sc
          · subst q; exact p.no_back sc
        have rn : ∀ {u : Nat} {o : Option Nat}, (u = k ∨ u = h) → (∀ c, o = some c → SonOf s u c) → ren k h o = o := fun {u o} q ho => ren_ne p ho fun sc => na sc q rfl
        have nh : ∀ {o : Option Nat}, (∀ c, o = some c → SonOf s h c) → o ≠ some h := fun ho q => p.no_self (ho h q)
        by_cases rr : y.right = some h
        · rw [rr] at pr
          cases pr with
          | @node d2 _ x' _ _ lx rx ex qx wx =>
            rw [p.eh] at ex
            cases ex
            rw [p.tx, p.ax, Bool.xor_false, Int.add_zero] at qx wx
            rw [p.tx, Bool.xor_false]
            have lyh : y.left ≠ some h := fun q => p.R.ne k h y p.ea q rr
            obtain ⟨d3, p3⟩ := ih _ (by omega) pl lyh
            obtain ⟨d4, p4⟩ := ih _ (by omega) qx (nh fun c q => ⟨x, p.eh, .inl q⟩)
            obtain ⟨d5, p5⟩ := ih _ (by omega) wx (nh fun c q => ⟨x, p.eh, .inr q⟩)
            rw [rn (.inl rfl) fun c q => ⟨y, p.ea, .inl q⟩] at p3
            rw [rn (.inr rfl) fun c q => ⟨x, p.eh, .inl q⟩] at p4
            rw [rn (.inr rfl) fun c q => ⟨x, p.eh, .inr q⟩] at p5
            have pa : Pt (rot s k h) (d3 + d4 + 1) (some k) b acc (if b = true then lx ++ (k, y.value + acc) :: l else l ++ (k, y.value + acc) :: lx) := by
              have := Pt.node (d := d3 + d4) (b := b) (acc := acc) (rot_a p) (l := l) (r := lx) (by simp only [rr, if_true, p.ty, p.ay, Bool.xor_false, Int.add_zero]; exact p3.mono (by omega)) (by simp only [rr, if_true, p.ty, p.ay, Bool.xor_false, Int.add_zero]; exact p4.mono (by omega))
              simp only [p.ty, Bool.xor_false] at this
              exact this
            have ph := Pt.node (d := d3 + d4 + d5 + 1) (b := b) (acc := acc) (rot_h p) (l := if b = true then lx ++ (k, y.value + acc) :: l else l ++ (k, y.value + acc) :: lx) (r := rx) (by simp only [rr, if_true, p.tx, p.ax, Bool.xor_false, Int.add_zero]; exact pa.mono (by omega)) (by simp only [rr, if_true, p.tx, p.ax, Bool.xor_false, Int.add_zero]; exact p5.mono (by omega))
            simp only [p.tx, Bool.xor_false] at ph
            refine ⟨d3 + d4 + d5 + 1 + 1, ?_⟩
            cases b with
            | true => simpa using ph
            | false => simpa using ph
        · have ll := p.left_of rr
          rw [ll] at pl
          cases pl with
          | @node d2 _ x' _ _ lx rx ex qx wx =>
            rw [p.eh] at ex
            cases ex
            rw [p.tx, p.ax, Bool.xor_false, Int.add_zero] at qx wx
            rw [p.tx, Bool.xor_false]
            obtain ⟨d3, p3⟩ := ih _ (by omega) pr rr
            obtain ⟨d4, p4⟩ := ih _ (by omega) qx (nh fun c q => ⟨x, p.eh, .inl q⟩)
            obtain ⟨d5, p5⟩ := ih _ (by omega) wx (nh fun c q => ⟨x, p.eh, .inr q⟩)
            rw [rn (.inl rfl) fun c q => ⟨y, p.ea, .inr q⟩] at p3
            rw [rn (.inr rfl) fun c q => ⟨x, p.eh, .inl q⟩] at p4
            rw [rn (.inr rfl) fun c q => ⟨x, p.eh, .inr q⟩] at p5
            have pa : Pt (rot s k h) (d3 + d5 + 1) (some k) b acc (if b = true then r ++ (k, y.value + acc) :: rx else rx ++ (k, y.value + acc) :: r) := by
              have := Pt.node (d := d3 + d5) (b := b) (acc := acc) (rot_a p) (l := rx) (r := r) (by simp only [rr, if_false, p.ty, p.ay, Bool.xor_false, Int.add_zero]; exact p5.mono (by omega)) (by simp only [rr, if_false, p.ty, p.ay, Bool.xor_false, Int.add_zero]; exact p3.mono (by omega))
              simp only [p.ty, Bool.xor_false] at this
              exact this
            have ph := Pt.node (d := d3 + d4 + d5 + 1) (b := b) (acc := acc) (rot_h p) (l := lx) (r := if b = true then r ++ (k, y.value + acc) :: rx else rx ++ (k, y.value + acc) :: r) (by simp only [rr, if_false, p.tx, p.ax, Bool.xor_false, Int.add_zero]; exact p4.mono (by omega)) (by simp only [rr, if_false, p.tx, p.ax, Bool.xor_false, Int.add_zero]; exact pa.mono (by omega))
            simp only [p.tx, Bool.xor_false] at ph
            refine ⟨d3 + d4 + d5 + 1 + 1, ?_⟩
            cases b with
            | true => simpa using ph
            | false => simpa using ph
      · have nl : ∀ o : Option Nat, (o = z.left ∨ o = z.right) → o ≠ some h := fun o ho q => ka (p.R.sonof_inj ⟨z, ez, by rw [q] at ho; exact ho.imp Eq.symm Eq.symm⟩ p.sof)
        obtain ⟨d3, p3⟩ := ih _ (by omega) pl (nl _ (.inl rfl))
        obtain ⟨d4, p4⟩ := ih _ (by omega) pr (nl _ (.inr rfl))
        have rk : ren a h (some k) = some k := if_neg fun q => ka (Option.some.inj q)
        rw [rk]
        have q3 := p3.mono (d' := d3 + d4) (by omega)
        have q4 := p4.mono (d' := d3 + d4) (by omega)
        have := Pt.node (d := d3 + d4) (b := b) (acc := acc) (rot_o p ez kh ka) q3 q4
        exact ⟨d3 + d4 + 1, this⟩
theorem rot_son_iff {t : Nat} (n1 : t ≠ h) (n2 : t ≠ a) (nt : ¬ Son s t) (ht : t < s.length) : ¬ Son (rot s a h) t := fun ⟨u, so⟩ => by
  obtain ⟨z, ez, hz⟩ := id so
  by_cases uh : u = h
  · subst uh
    rw [rot_h p] at ez
    cases ez
    by_cases r : y.right = some u
    · simp only [r, if_true] at hz
      rcases hz with hz | hz
      · exact n2 (by simpa using hz.symm)
      · exact nt ⟨u, x, p.eh, .inr hz⟩
    · simp only [r, if_false] at hz
      rcases hz with hz | hz
      · exact nt ⟨u, x, p.eh, .inl hz⟩
      · exact n2 (by simpa using hz.symm)
  · by_cases ua : u = a
    · subst ua
      rw [rot_a p] at ez
      cases ez
      by_cases r : y.right = some h
      · simp only [r, if_true] at hz
        rcases hz with hz | hz
        · exact nt ⟨u, y, p.ea, .inl hz⟩
        · exact nt ⟨h, x, p.eh, .inl hz⟩
      · simp only [r, if_false] at hz
        rcases hz with hz | hz
        · exact nt ⟨h, x, p.eh, .inr hz⟩
        · exact nt ⟨u, y, p.ea, .inr hz⟩
    · have hu : u < s.length := by have := lt_at ez; rwa [rot_len p] at this
      obtain ⟨w, ew⟩ := at_of hu
      rw [rot_o p ew uh ua] at ez
      cases ez
      have key : ∀ o : Option Nat, (o = w.left ∨ o = w.right) → ren a h o = some t → False := fun o ho e => by
        unfold ren at e
        split at e
        · exact n1 (by simpa using e.symm)
        · exact nt ⟨u, w, ew, by rw [e] at ho; exact ho.imp Eq.symm Eq.symm⟩
      rcases hz with hz | hz
      · exact key _ (.inl rfl) hz
      · exact key _ (.inr rfl) hz
theorem rot_top (nt : ¬ Son s a) : ¬ Son (rot s a h) h := fun ⟨u, so⟩ => by
  have ah := p.ah
  have hu : u < s.length := by obtain ⟨z, ez, _⟩ := so; have := lt_at ez; rwa [rot_len p] at this
  obtain ⟨z, ez, hz⟩ := rot_son p so
  rw [rot_h p] at ez
  cases ez
  have hz : y.up = some u := hz
  obtain ⟨w, ew, hw⟩ := so
  by_cases uh : u = h
  · subst uh
    rw [rot_h p] at ew
    cases ew
    by_cases r : y.right = some u
    · simp only [r, if_true] at hw
      rcases hw with hw | hw
      · exact ah (by simpa using hw)
      · exact p.no_self ⟨x, p.eh, .inr hw⟩
    · simp only [r, if_false] at hw
      rcases hw with hw | hw
      · exact p.no_self ⟨x, p.eh, .inl hw⟩
      · exact ah (by simpa using hw)
  · by_cases ua : u = a
    · subst ua
      have c := (p.R.chain (lt_at p.ea)).1
      have := W2.up_of (W2.Ch.step (by rw [ups_at p.ea, hz]) c)
      have := congrArg List.length this
      simp at this
    · obtain ⟨v, ev⟩ := at_of hu
      rw [rot_o p ev uh ua] at ew
      cases ew
      have key : ∀ o : Option Nat, (o = v.left ∨ o = v.right) → ren a h o = some h → False := fun o ho e => by
        unfold ren at e
        split at e
        · rename_i q
          exact nt ⟨u, v, ev, by rw [q] at ho; exact ho.imp Eq.symm Eq.symm⟩
        · exact ua (p.R.sonof_inj ⟨v, ev, by rw [e] at ho; exact ho.imp Eq.symm Eq.symm⟩ p.sof)
      rcases hw with hw | hw
      · exact key _ (.inl rfl) hw
      · exact key _ (.inr rfl) hw
theorem rot_row {t : Nat} {l : List (Nat × Int)} (r : Row s t l) : ∃ (t' : Nat) (z : Hs) (x' : Hs), Row (rot s a h) t' l ∧ s[t]? = some z ∧ (rot s a h)[t']? = some x' ∧ x'.up = z.up := by
  obtain ⟨z, ez⟩ := at_of r.1
  have th : t ≠ h := fun q => r.2.1 ⟨a, q ▸ p.sof⟩
  obtain ⟨d', p'⟩ := rot_pt p _ r.2.2 fun q => th (Option.some.inj q)
  have Rr := rot_rs p
  have go : ∀ (t' : Nat), t' < s.length → ¬ Son (rot s a h) t' → Pt (rot s a h) d' (some t') false 0 l → Row (rot s a h) t' l := fun t' ht nt pt => by
    obtain ⟨l2, q2⟩ := Rr.pt false 0 (h := t') (by rw [rot_len p]; exact ht)
    have := pt.det q2
    subst this
    exact ⟨by rw [rot_len p]; exact ht, nt, q2⟩
  by_cases ta : t = a
  · subst ta
    rw [p.ea] at ez
    cases ez
    have rk : ren t h (some t) = some h := if_pos rfl
    rw [rk] at p'
    exact ⟨h, y, _, go h (lt_at p.eh) (rot_top p r.2.1) p', p.ea, rot_h p, rfl⟩
  · have rk : ren a h (some t) = some t := if_neg fun q => ta (Option.some.inj q)
    rw [rk] at p'
    have nm : mid x y h ≠ some t := fun q => r.2.1 ⟨h, p.mid_son q⟩
    exact ⟨t, z, _, go t r.1 (rot_son_iff p th ta r.2.1 r.1) p', ez, rot_o p ez th ta, by show (if mid x y h = some t then some a else z.up) = z.up; rw [if_neg nm]⟩
theorem rot_told {ps : List (Option Nat)} {ws : List Int} (W : Told s ps ws) : Told (rot s a h) ps ws := by
  have Rr := rot_rs p
  have back : ∀ {t' : Nat} {l' : List (Nat × Int)} {x' : Hs}, Row (rot s a h) t' l' → (rot s a h)[t']? = some x' → ∃ (t : Nat) (z : Hs), Row s t l' ∧ s[t]? = some z ∧ x'.up = z.up := fun {t' l' x'} r ex => by
    have ht : t' < s.length := by have := r.1; rwa [rot_len p] at this
    obtain ⟨t, l, w, q, m⟩ := p.R.in_row ht
    obtain ⟨t2, z, x2, q2, ez, ex2, eu⟩ := rot_row p q
    obtain ⟨zz, mz, ezz⟩ := List.mem_map.mp r.2.2.head
    obtain ⟨e1, e2, _⟩ := Rr.row_inj r q2 (h := t') (v := zz.2) (w := w) (by rw [← ezz]; exact mz) m
    subst e1; subst e2
    rw [ex] at ex2
    cases ex2
    exact ⟨t, z, q, ez, eu⟩
  refine ⟨by rw [W.lp, rot_len p], by rw [W.lw, rot_len p], fun t l z r ez i h' w hi => ?_, fun t l r h' w m => ?_⟩
  · obtain ⟨t0, z0, r0, e0, eu⟩ := back r ez
    rw [eu]
    exact W.par t0 l z0 r0 e0 i h' w hi
  · obtain ⟨z, ez⟩ := at_of r.1
    obtain ⟨t0, z0, r0, e0, eu⟩ := back r ez
    exact W.wor t0 l r0 h' w m
end
/-- handing on twice, then the turn -/
def turnUp (s : Shp) (h : Nat) : Shp := match s[h]? with
  | some x => (match x.up with
    | some a => rot (handOn (handOn s a) h) a h
    | none => s)
  | none => s
end W3
namespace W3
open PySem PySem.Spec PyProof.Rows L2 M3
/-! ### a turn, step by step -/
theorem eq_on {S : Store} {o : Option Nat} {a : Nat} : aEq S (.dat (ov o)) (.dat (nv a)) = some (.dat (.bl (decide (o = some a)))) := by
  cases o with
  | none => rfl
  | some q =>
    show some (D.dat (.bl (decide ((q : Int) = (a : Int))))) = _
    by_cases c : q = a
    · subst c; rw [decide_eq_true rfl, decide_eq_true rfl]
    · rw [decide_eq_false (by omega), decide_eq_false (by simpa using c)]
def renH (a h : Nat) (z : Hs) : Hs := { z with left := ren a h z.left, right := ren a h z.right }
/-- the place is taken -/
def tSteps (s : Shp) (a h : Nat) (x y : Hs) : Shp :=
  let s1 := s.set h { x with up := y.up }
  match y.up with
  | some p => modAt s1 p (renH a h)
  | none => s1
def rSteps (s : Shp) (a h : Nat) (x y : Hs) : Shp :=
  let x2 := if y.right = some h then { x with up := y.up, left := some a } else { x with up := y.up, right := some a }
  let y2 := if y.right = some h then { y with right := x.left, up := some h } else { y with left := x.right, up := some h }
  let s4 := ((tSteps s a h x y).set a y2).set h x2
  match mid x y h with
  | some m => modAt s4 m fun w => { w with up := some a }
  | none => s4
section
variable {s : Shp} {a h : Nat} {x y : Hs} (p : Pre s a h x y)
include p
theorem Pre.up_ne {q : Nat} (e : y.up = some q) : q ≠ a ∧ q ≠ h ∧ ¬ SonOf s h q := by
  have c := (p.R.chain (p.R.up_lt p.ea e)).1
  have e1 := W2.up_of (W2.Ch.step (by rw [ups_at p.ea, e]) c)
  have e2 := p.upc
  refine ⟨fun z => ?_, fun z => ?_, fun so => ?_⟩
  · rw [z] at e1
    have := congrArg List.length e1
    simp at this
  · rw [z, e2] at e1
    have := congrArg List.length e1
    simp at this
    omega
  · have e3 := p.R.upc so
    rw [e2] at e3
    rw [e3] at e1
    have := congrArg List.length e1
    simp at this
    omega
theorem tSteps_at {k : Nat} (n : k ≠ h) : (tSteps s a h x y)[k]? = (s[k]?).map fun z => if k = a then z else renH a h z := by
  have id_ : ∀ z : Hs, s[k]? = some z → k ≠ a → y.up ≠ some k → renH a h z = z := fun z ez na nu => by
    have ns : ¬ SonOf s k a := fun so => by
      obtain ⟨w, ew, hw⟩ := p.R.son k a so
      rw [p.ea] at ew
      cases ew
      exact nu hw
    unfold renH
    rw [ren_ne p (fun c q => ⟨z, ez, .inl q⟩) ns, ren_ne p (fun c q => ⟨z, ez, .inr q⟩) ns]
  unfold tSteps
  cases eu : y.up with
  | none =>
    simp only
    rw [List.getElem?_set_ne (fun q => n q.symm)]
    cases ez : s[k]? with
    | none => rfl
    | some z =>
      simp only [Option.map_some]
      split
      · rfl
      · rename_i na
        rw [id_ z ez na (by rw [eu]; exact fun q => nomatch q)]
  | some q =>
    simp only
    rw [modAt_at]
    by_cases kq : k = q
    · subst kq
      rw [if_pos rfl, List.getElem?_set_ne (fun q => n q.symm)]
      have := (p.up_ne eu).1
      cases s[k]? with
      | none => rfl
      | some z => simp only [Option.map_some, if_neg this]
    · rw [if_neg kq, List.getElem?_set_ne (fun q => n q.symm)]
      cases ez : s[k]? with
      | none => rfl
      | some z =>
        simp only [Option.map_some]
        split
        · rfl
        · rename_i na
          rw [id_ z ez na (by rw [eu]; exact fun q => kq (Option.some.inj q).symm)]
theorem tSteps_len : (tSteps s a h x y).length = s.length := by
  unfold tSteps
  split
  · rw [modAt_len, List.length_set]
  · exact List.length_set
theorem tSteps_h : (tSteps s a h x y)[h]? = some { x with up := y.up } := by
  unfold tSteps
  cases eu : y.up with
  | none => exact List.getElem?_set_self (lt_at p.eh)
  | some q =>
    simp only
    rw [modAt_at, if_neg fun z => (p.up_ne eu).2.1 z.symm]
    exact List.getElem?_set_self (lt_at p.eh)
theorem rSteps_eq : rSteps s a h x y = rot s a h := by
  have ah := p.ah
  refine List.ext_getElem? fun k => ?_
  have base : ∀ (x2 y2 : Hs), (((tSteps s a h x y).set a y2).set h x2)[k]? = if k = h then some x2 else if k = a then some y2 else (tSteps s a h x y)[k]? := fun x2 y2 => by
    by_cases kh : k = h
    · subst kh
      rw [if_pos rfl, List.getElem?_set_self (by rw [List.length_set, tSteps_len p]; exact lt_at p.eh)]
    · rw [if_neg kh, List.getElem?_set_ne (fun q => kh q.symm)]
      by_cases ka : k = a
      · subst ka
        rw [if_pos rfl, List.getElem?_set_self (by rw [tSteps_len p]; exact lt_at p.ea)]
      · rw [if_neg ka, List.getElem?_set_ne (fun q => ka q.symm)]
  unfold rSteps
  have full : (match mid x y h with
      | some m => modAt (((tSteps s a h x y).set a (if y.right = some h then { y with right := x.left, up := some h } else { y with left := x.right, up := some h })).set h (if y.right = some h then { x with up := y.up, left := some a } else { x with up := y.up, right := some a })) m fun w => { w with up := some a }
      | none => ((tSteps s a h x y).set a (if y.right = some h then { y with right := x.left, up := some h } else { y with left := x.right, up := some h })).set h (if y.right = some h then { x with up := y.up, left := some a } else { x with up := y.up, right := some a }))[k]? =
      if k = h then some (if y.right = some h then { x with up := y.up, left := some a } else { x with up := y.up, right := some a }) else if k = a then some (if y.right = some h then { y with right := x.left, up := some h } else { y with left := x.right, up := some h }) else (s[k]?).map fun z => { z with up := if mid x y h = some k then some a else z.up, left := ren a h z.left, right := ren a h z.right } := by
    cases em : mid x y h with
    | none =>
      simp only
      rw [base]
      by_cases kh : k = h
      · rw [if_pos kh, if_pos kh]
      · rw [if_neg kh, if_neg kh]
        by_cases ka : k = a
        · rw [if_pos ka, if_pos ka]
        · rw [if_neg ka, if_neg ka, tSteps_at p kh]
          cases s[k]? with
          | none => rfl
          | some z =>
            simp only [Option.map_some, if_neg ka]
            rfl
    | some m =>
      have sm := p.mid_son em
      have mh : m ≠ h := fun q => by subst q; exact p.no_self sm
      have ma : m ≠ a := fun q => by subst q; exact p.no_back sm
      simp only
      rw [modAt_at, base]
      by_cases kh : k = h
      · rw [if_neg (fun q => mh (q.symm.trans kh)), if_pos kh, if_pos kh]
      · by_cases ka : k = a
        · rw [if_neg (fun q => ma (q.symm.trans ka)), if_neg kh, if_pos ka, if_neg kh, if_pos ka]
        · rw [if_neg kh, if_neg ka, if_neg kh, if_neg ka, tSteps_at p kh]
          by_cases km : k = m
          · subst km
            rw [if_pos rfl]
            cases s[k]? with
            | none => rfl
            | some z => simp only [Option.map_some, if_neg ka, if_true]; rfl
          · rw [if_neg km]
            have : ¬ (some m = some k) := fun q => km (Option.some.inj q).symm
            cases s[k]? with
            | none => rfl
            | some z =>
              simp only [Option.map_some, if_neg ka, if_neg this]
              rfl
  refine full.trans ?_
  by_cases kh : k = h
  · subst kh
    rw [if_pos rfl, rot_h p]
    by_cases r : y.right = some k
    · simp only [r, if_true]
    · simp only [r, if_false]
  · rw [if_neg kh]
    by_cases ka : k = a
    · subst ka
      rw [if_pos rfl, rot_a p]
      by_cases r : y.right = some h
      · simp only [r, if_true]
      · simp only [r, if_false]
    · rw [if_neg ka]
      cases ez : s[k]? with
      | none => rw [rot_at p, ez]; rfl
      | some z => rw [rot_o p ez kh ka]; rfl
end
end W3
namespace W3
open PySem PySem.Spec PyProof.Rows L2 M3
/-! ### a right shape, and its stands -/
theorem lcL_new {α : Type} {gm : DG} {t : DT} {e : DE} {vs : List Nat} {δ : DEnv} (h : α → D) (mk : α → O) : ∀ {xs : List α} {acc : List D} {S : Store}, (acc.length + xs.length ≤ 100000) →
    (∀ x ∈ xs, ∀ S, ∃ δ1, gm (h x) (wipeD δ vs) S = .ok δ1 S ∧ t δ1 S = .ok true S ∧ e δ1 S = .ok (.obj S.length) (S ++ [mk x])) →
    mLcL gm t e vs δ (xs.map h) acc S = .ok (acc ++ (List.range xs.length).map fun k => .obj (S.length + k)) (S ++ xs.map mk)
  | [], acc, S, _, _ => by simp [mLcL]
  | x :: xs, acc, S, hl, hh => by
    obtain ⟨δ1, e1, e2, e3⟩ := hh x (List.mem_cons_self ..) S
    rw [List.length_cons] at hl
    rw [List.map_cons]
    unfold mLcL
    rw [e1, R.bnf_ok, e2, R.bnf_ok]
    show (e δ1 S).bnf _ = _
    rw [e3, R.bnf_ok, if_pos (by omega), lcL_new h mk (by rw [List.length_append, List.length_singleton]; omega) fun d m => hh d (List.mem_cons_of_mem _ m)]
    rw [List.length_cons, List.range_succ_eq_map, List.map_cons, List.map_map, List.length_append, List.length_singleton, List.map_cons, List.append_assoc, List.append_assoc]
    have : (fun k => D.obj (S.length + 1 + k)) = ((fun k => D.obj (S.length + k)) ∘ Nat.succ) := by
      funext k
      show D.obj _ = D.obj _
      congr 1
      omega
    rw [this]
    rfl
theorem house_ok (g : G) {n q : Nat} (h : q < n) (S : Store) : mPure (m_is_house g) [.dat (.int (n : Int)), .dat (.int (q : Int))] S = .ok (.dat (.bl true)) S := by
  rw [is_house_i, decide_eq_true (by omega), decide_eq_true (by omega)]; rfl
section
variable {g : G} {s : Shp} (R : RS s)
theorem hsP_at {S : Store} {h : Nat} {x : Hs} (e : s[h]? = some x) : aIx S (.dat (shP s)) (.dat (nv h)) = some (.dat (hsP x)) := ix_t (atN (map_get e))
include R
theorem is_part_t {h : Nat} {x : Hs} (e : s[h]? = some x) (S : Store) : mPure (m_is_part g) [.dat (.int (s.length : Int)), .dat (hsP x)] S = .ok (.dat (.bl true)) S := by
  have lt : ∀ o, o ∈ [x.up, x.left, x.right] → ∀ q, o = some q → q < s.length := fun o m q eq => by
    subst eq
    simp only [List.mem_cons, List.mem_nil_iff, or_false] at m
    rcases m with m | m | m
    · exact R.up_lt e m.symm
    · obtain ⟨y, ey, _⟩ := R.son h q ⟨x, e, .inl m.symm⟩; exact lt_at ey
    · obtain ⟨y, ey, _⟩ := R.son h q ⟨x, e, .inr m.symm⟩; exact lt_at ey
  have sl : aSl ([] : Store) (.dat (hsP x)) none (some 3) = some (.dat (.tup [ov x.up, ov x.left, ov x.right])) := rfl
  have d6 : decide (((0 + 1 + 1 + 1 + 1 + 1 + 1 : Nat) : Int) = 6) = true := rfl
  have ln : ∀ S : Store, aLen S [.dat (hsP x)] = some (.dat (.int 6)) := fun _ => rfl
  have it : ∀ S : Store, aIsi g.K g.CS S [.dat (hsP x), .dat (.con (.ty "tuple"))] = some (.dat (.bl true)) := fun S => isi_tup_tuple
  have i3 : ∀ S : Store, aIx S (.dat (hsP x)) (.dat (.int 3)) = some (.dat (.bl x.turned)) := fun _ => rfl
  have i4 : ∀ S : Store, aIx S (.dat (hsP x)) (.dat (.int 4)) = some (.dat (.int x.added)) := fun _ => rfl
  have i5 : ∀ S : Store, aIx S (.dat (hsP x)) (.dat (.int 5)) = some (.dat (.int x.value)) := fun _ => rfl
  have lc : mLc (mWalk (mSl (mVar 1) moN (moS (mC (.int 3))))) (gmName 2) mYes (mOr (mOp aIsN (mVar 2) (mC .non)) (mDef 2 (mPure (m_is_house g)) (mCons (mVar 0) (mCons (mVar 2) mNil)))) [2] [some (.dat (.int (s.length : Int))), some (.dat (hsP x)), none] [] = .ok (([x.up, x.left, x.right].map fun _ => P.bl true).map .dat) [] :=
    lc_all (xs := [x.up, x.left, x.right]) (fun o => .dat (ov o)) (fun _ => .bl true) (by
      rw [walk_t (l := [ov x.up, ov x.left, ov x.right]) (S1 := []) (by unfold mSl moN moS; dsimp! [sl])]; rfl) (by simp) fun o m => ⟨_, rfl, rfl, by
      cases o with
      | none => dsimp! [ov]
      | some q => dsimp! [ov, house_ok g (lt _ m q rfl)]⟩
  refine pure_dat rfl (S' := []) ?_
  unfold m_is_part
  dsimp! [it, ln, lc, i3, i4, i5, is_integer_i]
  rw [show ([P.bl true, P.bl true, P.bl true] : List P) = [true, true, true].map .bl from rfl, all_lst]
  dsimp! [List.all_cons, List.all_nil, id, i3, i4, i5, is_integer_i]
theorem has_sons_t {h : Nat} (hh : h < s.length) (S : Store) : mPure (m_has_its_sons g) [.dat (shP s), .dat (nv h)] S = .ok (.dat (.bl true)) S := by
  obtain ⟨x, e⟩ := at_of hh
  have sl : aSl ([] : Store) (.dat (hsP x)) (some 1) (some 3) = some (.dat (.tup [ov x.left, ov x.right])) := rfl
  have eix := hsP_at (S := ([] : Store)) e
  have lc : mLc (mWalk (mSl (mOp aIx (mVar 0) (mVar 1)) (moS (mC (.int 1))) (moS (mC (.int 3))))) (gmName 3) (mTst (mOp aNotN (mVar 3) (mC .non))) (mVar 3) [3] [some (.dat (shP s)), some (.dat (nv h)), none, none] [] = .ok (([x.left, x.right].filterMap fun o => o.map nv).map .dat) [] :=
    lc_map (xs := [x.left, x.right]) (fun o => .dat (ov o)) (fun o => o.map nv) (by
      rw [walk_t (l := [ov x.left, ov x.right]) (S1 := []) (by unfold mSl moS; dsimp! [eix, sl])]; rfl) (by simp) fun o m => ⟨_, rfl, by
      cases o with
      | none => show mTst _ _ _ = _; dsimp! [ov]
      | some q => exact ⟨by dsimp! [ov], by dsimp! [ov, nv]⟩⟩
  have su : ∀ c, (x.left = some c ∨ x.right = some c) → ∀ S : Store, ∃ y, aIx S (.dat (shP s)) (.dat (nv c)) = some (.dat (hsP y)) ∧ aIx S (.dat (hsP y)) (.dat (.int 0)) = some (.dat (nv h)) := fun c q S => by
    obtain ⟨y, ey, eu⟩ := R.son h c ⟨x, e, q⟩
    refine ⟨y, hsP_at ey, ?_⟩
    show some (D.dat (ov y.up)) = _
    rw [eu]; rfl
  have al : ∀ (cs : List Nat) (δ2 : Option D), (∀ c ∈ cs, x.left = some c ∨ x.right = some c) → cs.length ≤ 2 → mLc (mWalk (mVar 2)) (gmName 3) mYes (mOp aEq (mOp aIx (mOp aIx (mVar 0) (mVar 3)) (mC (.int 0))) (mVar 1)) [3] [some (.dat (shP s)), some (.dat (nv h)), some (.dat (.lst (cs.map nv))), none] [] = .ok ((cs.map fun _ => P.bl true).map .dat) [] := fun cs _ hc hl =>
    lc_all (xs := cs) (fun c => .dat (nv c)) (fun _ => .bl true) (by rw [walk_l (l := cs.map nv) (S1 := []) (by dsimp! [] <;> rfl), List.map_map]; rfl) (by omega) fun c m => ⟨_, rfl, rfl, by
      obtain ⟨y, e1, e2⟩ := su c (hc c m) []
      have dd : aEq ([] : Store) (.dat (nv h)) (.dat (nv h)) = some (.dat (.bl true)) := by show some (D.dat (.bl (decide ((h : Int) = (h : Int))))) = _; rw [decide_eq_true rfl]
      dsimp! [e1, e2, dd]⟩
  have aw : ∀ n, aAll ([] : Store) [.dat (.lst (List.replicate n (P.bl true)))] = some (.dat (.bl true)) := fun n => by
    rw [show List.replicate n (P.bl true) = (List.replicate n true).map .bl by rw [List.map_replicate], all_lst]; simp
  refine pure_dat rfl (S' := []) ?_
  unfold m_has_its_sons
  cases el : x.left with
  | none =>
    cases er : x.right with
    | none =>
      rw [el, er] at lc
      have lc' : _ = M3.R.ok ([] : List D) [] := lc
      have a0 := al [] none (fun c m => nomatch m) (by simp)
      have a0' : mLc (mWalk (mVar 2)) (gmName 3) mYes (mOp aEq (mOp aIx (mOp aIx (mVar 0) (mVar 3)) (mC (.int 0))) (mVar 1)) [3] [some (.dat (shP s)), some (.dat (nv h)), some (.dat (.lst [])), none] [] = .ok ([] : List D) [] := a0
      have a1 : aAll ([] : Store) [.dat (.lst [])] = some (.dat (.bl true)) := aw 0
      have d1 : decide (((0 : Nat) : Int) = 2) = false := rfl
      dsimp! [lc', a0', a1, d1]
    | some c =>
      rw [el, er] at lc
      have lc' : _ = M3.R.ok [D.dat (nv c)] [] := lc
      have a0 := al [c] none (fun d m => .inr (by rw [List.mem_singleton.mp m, er])) (by simp)
      have a0' : mLc (mWalk (mVar 2)) (gmName 3) mYes (mOp aEq (mOp aIx (mOp aIx (mVar 0) (mVar 3)) (mC (.int 0))) (mVar 1)) [3] [some (.dat (shP s)), some (.dat (nv h)), some (.dat (.lst [nv c])), none] [] = .ok [D.dat (P.bl true)] [] := a0
      have a1 : aAll ([] : Store) [.dat (.lst [P.bl true])] = some (.dat (.bl true)) := aw 1
      have d1 : decide (((0 + 1 : Nat) : Int) = 2) = false := rfl
      dsimp! [lc', a0', a1, d1]
  | some k =>
    cases er : x.right with
    | none =>
      rw [el, er] at lc
      have lc' : _ = M3.R.ok [D.dat (nv k)] [] := lc
      have a0 := al [k] none (fun d m => .inl (by rw [List.mem_singleton.mp m, el])) (by simp)
      have a0' : mLc (mWalk (mVar 2)) (gmName 3) mYes (mOp aEq (mOp aIx (mOp aIx (mVar 0) (mVar 3)) (mC (.int 0))) (mVar 1)) [3] [some (.dat (shP s)), some (.dat (nv h)), some (.dat (.lst [nv k])), none] [] = .ok [D.dat (P.bl true)] [] := a0
      have a1 : aAll ([] : Store) [.dat (.lst [P.bl true])] = some (.dat (.bl true)) := aw 1
      have d1 : decide (((0 + 1 : Nat) : Int) = 2) = false := rfl
      dsimp! [lc', a0', a1, d1]
    | some c =>
      rw [el, er] at lc
      have ne : k ≠ c := fun q => R.ne h k x e el (by rw [er, q])
      have lc' : _ = M3.R.ok [D.dat (nv k), D.dat (nv c)] [] := lc
      have a0 := al [k, c] none (fun d m => by
        rcases List.mem_cons.mp m with m | m
        · exact .inl (by rw [m, el])
        · exact .inr (by rw [List.mem_singleton.mp m, er])) (by simp)
      have a0' : mLc (mWalk (mVar 2)) (gmName 3) mYes (mOp aEq (mOp aIx (mOp aIx (mVar 0) (mVar 3)) (mC (.int 0))) (mVar 1)) [3] [some (.dat (shP s)), some (.dat (nv h)), some (.dat (.lst [nv k, nv c])), none] [] = .ok [D.dat (P.bl true), D.dat (P.bl true)] [] := a0
      have a1 : aAll ([] : Store) [.dat (.lst [P.bl true, P.bl true])] = some (.dat (.bl true)) := aw 2
      have d1 : decide (((0 + 1 + 1 : Nat) : Int) = 2) = true := rfl
      have x0 : aIx ([] : Store) (.dat (.lst [nv k, nv c])) (.dat (.int 0)) = some (.dat (nv k)) := rfl
      have x1 : aIx ([] : Store) (.dat (.lst [nv k, nv c])) (.dat (.int 1)) = some (.dat (nv c)) := rfl
      have dk : aEq ([] : Store) (.dat (nv k)) (.dat (nv c)) = some (.dat (.bl false)) := by
        show some (D.dat (.bl (decide ((k : Int) = (c : Int))))) = _
        rw [decide_eq_false (by omega)]
      dsimp! [lc', a0', a1, d1, x0, x1, dk]
theorem is_shape_t (S : Store) : mPure (m_is_shape g) [.dat (shP s)] S = .ok (.dat (.bl true)) S := by
  have n1 := R.n1
  have n64 := R.n64
  refine pure_dat rfl (S' := []) ?_
  have it : aIsi g.K g.CS ([] : Store) [.dat (shP s), .dat (.con (.ty "tuple"))] = some (.dat (.bl true)) := isi_tup_tuple
  have ln : aLen ([] : Store) [.dat (shP s)] = some (.dat (.int (s.length : Int))) := by unfold shP; rw [len_t, List.length_map]
  have d1 : decide ((1 : Int) ≤ (s.length : Int)) = true := decide_eq_true (by omega)
  have d2 : decide ((s.length : Int) ≤ 64) = true := decide_eq_true (by omega)
  have w : ∀ δ : DEnv, δ[0]? = some (some (.dat (shP s))) → mWalk (mVar 0) δ [] = .ok (.items (s.map fun x => .dat (hsP x))) [] := fun δ h => by
    rw [walk_t (l := s.map hsP) (S1 := []) (by unfold mVar; rw [h]; rfl), List.map_map]; rfl
  have l1 : mLc (mWalk (mVar 0)) (gmName 1) mYes (mDef 2 (mPure (m_is_part g)) (mCons (mCall aLen (mCons (mVar 0) mNil)) (mCons (mVar 1) mNil))) [1] [some (.dat (shP s)), none, none] [] = .ok ((s.map fun _ => P.bl true).map .dat) [] :=
    lc_all (xs := s) (fun x => .dat (hsP x)) (fun _ => .bl true) (w _ rfl) (by omega) fun x m => ⟨_, rfl, rfl, by
      obtain ⟨k, hk⟩ := List.getElem?_of_mem m
      dsimp! [ln, is_part_t R hk]⟩
  have l2 : mLc (mRng1 (mCons (mCall aLen (mCons (mVar 0) mNil)) mNil)) (gmName 2) mYes (mDef 2 (mPure (m_has_its_sons g)) (mCons (mVar 0) (mCons (mVar 2) mNil))) [2] [some (.dat (shP s)), none, none] [] = .ok (((List.range s.length).map fun _ => P.bl true).map .dat) [] :=
    lc_all (xs := List.range s.length) (fun k => .dat (nv k)) (fun _ => .bl true) (rng0_ok (n := s.length) (by dsimp! [ln] <;> rfl) (by omega)) (by rw [List.length_range]; omega) fun k m => ⟨_, rfl, rfl, by
      dsimp! [has_sons_t (g := g) R (List.mem_range.mp m)]⟩
  have l3 : mLc (mWalk (mVar 0)) (gmName 1) mYes (mOp aIx (mVar 1) (mC (.int 0))) [1] [some (.dat (shP s)), none, none] [] = .ok (((ups s).map ov).map .dat) [] := by
    rw [lc_all (xs := s) (fun x => .dat (hsP x)) (fun x => ov x.up) (w _ rfl) (by omega) fun x m => ⟨_, rfl, rfl, by
      have i0 : aIx ([] : Store) (.dat (hsP x)) (.dat (.int 0)) = some (.dat (ov x.up)) := rfl
      dsimp! [i0]⟩]
    unfold ups
    rw [List.map_map (f := Hs.up)]; rfl
  have aw : ∀ {α : Type} (l : List α), aAll ([] : Store) [.dat (.lst (l.map fun _ => P.bl true))] = some (.dat (.bl true)) := fun l => by
    rw [show l.map (fun _ => P.bl true) = (l.map fun _ => true).map .bl by rw [List.map_map]; rfl, all_lst]; simp
  unfold m_is_shape
  dsimp! [it, ln, is_many_i, d1, d2, l1, aw, l2, l3, come_t g R.tree (by rw [ups_len]; exact n64)]
end
section
variable {g : G} (X : Gx g)
include X
theorem made_st (x : Hs) (S : Store) : mkC g.Stand (m_Stand_init g) [.dat (hsP x)] S = .ok (.obj S.length) (S ++ [stO g x]) := by
  have st : ∀ (f : Str) (l l' : List (Str × D)) (d : D), (g.Stand, f) ∈ g.FL → l.length < 1000 → putD f d l = l' → setF g.FL f (.obj S.length) d (S ++ [O.ins g.Stand l]) = some (S ++ [O.ins g.Stand l']) := fun f l l' d m h e => by
    rw [setF_o get_new m h, List.set_append_right _ _ (Nat.le_refl _), Nat.sub_self, e]; rfl
  have l6 : ([ov x.up, ov x.left, ov x.right, P.bl x.turned, P.int x.added, P.int x.value] : List P).length = 6 := rfl
  have s0 := st "up" [] [("up", .dat (ov x.up))] (.dat (ov x.up)) (FL_up X) (by simp) (by simp only [putD, if_false])
  have s1 := st "left" [("up", .dat (ov x.up))] [("up", .dat (ov x.up)), ("left", .dat (ov x.left))] (.dat (ov x.left)) (FL_left X) (by simp) (by simp only [putD, n_up_left, if_false])
  have s2 := st "right" [("up", .dat (ov x.up)), ("left", .dat (ov x.left))] [("up", .dat (ov x.up)), ("left", .dat (ov x.left)), ("right", .dat (ov x.right))] (.dat (ov x.right)) (FL_right X) (by simp) (by simp only [putD, n_up_right, n_left_right, if_false])
  have s3 := st "turned" [("up", .dat (ov x.up)), ("left", .dat (ov x.left)), ("right", .dat (ov x.right))] [("up", .dat (ov x.up)), ("left", .dat (ov x.left)), ("right", .dat (ov x.right)), ("turned", .dat (.bl x.turned))] (.dat (.bl x.turned)) (FL_turned X) (by simp) (by simp only [putD, n_up_turned, n_left_turned, n_right_turned, if_false])
  have s4 := st "added" [("up", .dat (ov x.up)), ("left", .dat (ov x.left)), ("right", .dat (ov x.right)), ("turned", .dat (.bl x.turned))] [("up", .dat (ov x.up)), ("left", .dat (ov x.left)), ("right", .dat (ov x.right)), ("turned", .dat (.bl x.turned)), ("added", .dat (.int x.added))] (.dat (.int x.added)) (FL_added X) (by simp) (by simp only [putD, n_up_added, n_left_added, n_right_added, n_turned_added, if_false])
  have s5 := st "value" [("up", .dat (ov x.up)), ("left", .dat (ov x.left)), ("right", .dat (ov x.right)), ("turned", .dat (.bl x.turned)), ("added", .dat (.int x.added))] [("up", .dat (ov x.up)), ("left", .dat (ov x.left)), ("right", .dat (ov x.right)), ("turned", .dat (.bl x.turned)), ("added", .dat (.int x.added)), ("value", .dat (.int x.value))] (.dat (.int x.value)) (FL_value X) (by simp) (by simp only [putD, n_up_value, n_left_value, n_right_value, n_turned_value, n_added_value, if_false])
  unfold mkC m_Stand_init hsP gmFld
  simp only [mBody_fin]
  dsimp! [l6, s0, s1, s2, s3, s4, s5]
  rfl
end
end W3
namespace W3
open PySem PySem.Spec PyProof.Rows L2 M3
/-! ### stands of a right shape; weights -/
theorem stands_t {g : G} (X : Gx g) {s : Shp} (R : RS s) {S : Store} (hc : ∀ (j : Nat) (w : O), S[j]? = some w → O.lt S.length w = true) :
    ∃ S', m_stands_of g [.dat (shP s)] S = .ok (.obj (S.length + s.length)) S' ∧ St g S' S.length (S.length + s.length) s ∧ S' = S ++ (s.map (stO g) ++ [.lst ((List.range s.length).map fun k => .obj (S.length + k))]) := by
  have n64 := R.n64
  refine ⟨_, ?_, ?_, rfl⟩
  · unfold m_stands_of
    have lc : mLc (mWalk (mVar 0)) (gmName 1) mYes (mDef 1 (mkC g.Stand (m_Stand_init g)) (mCons (mVar 1) mNil)) [1] [some (.dat (shP s)), none] S = .ok ((List.range s.length).map fun k => .obj (S.length + k)) (S ++ s.map (stO g)) := by
      unfold mLc
      rw [walk_t (l := s.map hsP) (S1 := S) rfl, M3.R.bind_ok]
      simp only []
      rw [List.map_map, lcL_new (D.dat ∘ hsP) (stO g) (by simp; omega) fun x m S => ⟨_, rfl, rfl, by
        have e := made_st X x S
        show mDef 1 _ _ _ _ = _
        dsimp! [Function.comp, e]⟩, M3.R.bnf_ok]
      rfl
    have ln : (S ++ s.map (stO g)).length = S.length + s.length := by simp
    dsimp! [is_shape_t R, lc, ln, List.append_assoc]
  · have len : (S ++ (s.map (stO g) ++ [O.lst ((List.range s.length).map fun k => .obj (S.length + k))])).length = S.length + s.length + 1 := by simp; omega
    refine ⟨fun k x e => ?_, ?_, fun k h => by omega, fun j w e => ?_⟩
    · rw [List.getElem?_append_right (by omega), Nat.add_sub_cancel_left, List.getElem?_append_left (by rw [List.length_map]; exact lt_at e), List.getElem?_map, e]; rfl
    · rw [List.getElem?_append_right (by omega), Nat.add_sub_cancel_left, List.getElem?_append_right (by simp)]; simp
    · rw [len]
      by_cases c : j < S.length
      · rw [List.getElem?_append_left c] at e
        exact O.lt_mono (by omega) (hc j w e)
      · rw [List.getElem?_append_right (by omega)] at e
        by_cases c2 : j - S.length < s.length
        · rw [List.getElem?_append_left (by rw [List.length_map]; exact c2), List.getElem?_map] at e
          cases q : s[j - S.length]? with
          | none => rw [q] at e; cases e
          | some x => rw [q] at e; cases e; exact stO_lt
        · rw [List.getElem?_append_right (by rw [List.length_map]; omega)] at e
          have := List.mem_singleton.mp (List.mem_of_getElem? e)
          subst this
          show List.all _ _ = true
          rw [List.all_map]
          refine List.all_eq_true.mpr fun k m => ?_
          have := List.mem_range.mp m
          show decide (S.length + k < _) = true
          exact decide_eq_true (by omega)
theorem cl_nil' : ∀ (j : Nat) (w : O), ([] : Store)[j]? = some w → O.lt ([] : Store).length w = true := fun j w e => by simp at e
theorem stands0 {g : G} (X : Gx g) {s : Shp} (R : RS s) : ∃ S', m_stands_of g [.dat (shP s)] [] = .ok (.obj s.length) S' ∧ St g S' 0 s.length s ∧ S' = s.map (stO g) ++ [.lst ((List.range s.length).map fun k => .obj (0 + k))] := by
  obtain ⟨S', e, T, q⟩ := stands_t X R cl_nil'
  refine ⟨S', ?_, ?_, ?_⟩
  · rw [e, List.length_nil, Nat.zero_add]
  · rw [List.length_nil, Nat.zero_add] at T; exact T
  · rw [q, List.nil_append]; rfl
/-- how many come to k -/
noncomputable def cnt (s : Shp) (i k : Nat) : Nat := ((List.range i).filter fun h => decide (k ∈ W2.up (ups s) h)).length
noncomputable def wt (s : Shp) (k : Nat) : Nat := cnt s s.length k
theorem cnt_succ {s : Shp} {i k : Nat} : cnt s (i + 1) k = cnt s i k + if k ∈ W2.up (ups s) i then 1 else 0 := by
  unfold cnt
  rw [List.range_succ, List.filter_append, List.length_append]
  congr 1
  by_cases c : k ∈ W2.up (ups s) i
  · rw [if_pos c]; simp [c]
  · rw [if_neg c]; simp [c]
theorem augS_o {a b : DE} {δ : DEnv} {S : Store} {o : Nat} {l : List D} {k : Nat} {v n : Int} (ha : a δ S = .ok (.obj o) S) (hb : b δ S = .ok (.dat (nv k)) S) (ho : S[o]? = some (.lst l)) (hk : l[k]? = some (.dat (.int v))) : mAugS a b (mC (.int n)) δ S = .ok (.nx δ) (S.set o (.lst (l.set k (.dat (.int (v + n)))))) := by
  have g0 : getD S (.obj o) (.dat (nv k)) = some (.dat (.int v)) := by
    show (match listD S (.obj o) with | some l => l[k]? | none => none) = _
    have : listD S (.obj o) = some l := by show (match S[o]? with | some (.lst l) => some l | _ => none) = _; rw [ho]
    rw [this]; exact hk
  have s0 := setD_o (x := .dat (.int (v + n))) ho (ixN_nat (lt_at hk))
  unfold mAugS mC
  rw [ha, M3.R.st_ok, hb, M3.R.st_ok]
  simp only [g0, M3.R.st_ok]
  rw [show setD (.obj o) (.dat (nv k)) (.dat (.int (v + n))) S = some (S.set o (.lst (l.set k (.dat (.int (v + n)))))) from s0]
def natsO (fs : List Nat) : O := .lst ((fs.map nv).map .dat)
section
variable {g : G} (X : Gx g) {S : Store} {b o : Nat} {s : Shp} (T : St g S b o s) (R : RS s)
include X T R
theorem weights_of_t : ∃ fs : List Nat, fs.length = s.length ∧ (∀ k, k < s.length → fs[k]? = some (wt s k)) ∧ mScope (m_weights_of g) [.obj o] S = .ok (.dat (.tup (fs.map nv))) S := by
  have n64 := R.n64
  suffices z : ∃ d S', m_weights_of g [.obj o] S = .ok d S' ∧ ∃ fs : List Nat, fs.length = s.length ∧ (∀ k, k < s.length → fs[k]? = some (wt s k)) ∧ d = .dat (.tup (fs.map nv)) ∧ ∃ t, S' = S ++ t by
    obtain ⟨d, S', e, fs, h1, h2, rfl, t, rfl⟩ := z
    exact ⟨fs, h1, h2, scope_u e rfl T.cl⟩
  have em : (s.length : Int) ≤ 1000000 ∧ (0 : Int) ≤ (s.length : Int) ∧ 1 * s.length ≤ 100000 := by omega
  have el : ∀ S : Store, listD S (.dat (.lst [.int 0])) = some [.dat (.int 0)] := fun _ => rfl
  have o1 : (1 : Nat) ≤ 100000 := by decide
  have ro : O.lst (repD s.length [.dat (.int 0)]) = natsO (List.replicate s.length 0) := by
    unfold repD natsO
    rw [List.map_replicate, List.map_replicate]
    congr 1
    generalize s.length = n
    induction n with
    | zero => rfl
    | succ n ih => rw [List.replicate_succ, List.flatten_cons, ih]; rfl
  have T' : ∀ fs : List Nat, St g (S ++ [natsO fs]) b o s := fun fs => push1 T _
  unfold m_weights_of
  rw [mBody_fin]
  refine fin_ends ?_
  unfold mMulL
  dsimp! [o1, el, T.len, if_pos em, Int.toNat_natCast, ro]
  rw [for_items (rng0_ok (n := s.length) (by dsimp! [(T' _).len] <;> rfl) (by omega))]
  refine then_ends (Q1 := fun o' S' => ∃ x2 x3 fs, o' = .nx [some (.obj o), some (.obj S.length), x2, x3] ∧ S' = S ++ [natsO fs] ∧ fs.length = s.length ∧ ∀ k, k < s.length → fs[k]? = some (wt s k)) ?_ ?_
  · refine forL_ends (fun i δ S' => ∃ (x2 x3 : Option D) (fs : List Nat), δ = [some (.obj o), some (.obj S.length), x2, x3] ∧ S' = S ++ [natsO fs] ∧ fs.length = s.length ∧ ∀ k, k < s.length → fs[k]? = some (cnt s i k)) (i := 0) ⟨_, _, List.replicate s.length 0, rfl, rfl, by simp, fun k hk => by rw [List.getElem?_replicate, if_pos hk]; rfl⟩ ?_ ?_
    · rintro i d δ S' hd ⟨x2, x3, fs, rfl, rfl, lf, hf⟩
      rw [Nat.zero_add] at hf
      rw [Nat.zero_add]
      rw [List.getElem?_map] at hd
      by_cases ci : i < s.length
      · rw [List.getElem?_range ci] at hd
        cases hd
        have ch := R.chain ci
        have nd := ch.1.nodup
        dsimp! []
        rw [for_items (walk_l (l := (W2.up (ups s) i).map nv) (by dsimp! [line_up_t X (T' fs) R ci] <;> rfl))]
        refine forL_ends (fun j δ S' => ∃ (x3 : Option D) (fs : List Nat), δ = [some (.obj o), some (.obj S.length), some (.dat (nv i)), x3] ∧ S' = S ++ [natsO fs] ∧ fs.length = s.length ∧ ∀ k, k < s.length → fs[k]? = some (cnt s i k + if k ∈ (W2.up (ups s) i).take j then 1 else 0)) (i := 0) ⟨_, fs, rfl, rfl, lf, fun k hk => by rw [hf k hk]; simp⟩ ?_ ?_
        · rintro j d δ S' hd ⟨x3, fs, rfl, rfl, lf, hf⟩
          rw [Nat.zero_add] at hf
          rw [Nat.zero_add]
          rw [List.getElem?_map, List.getElem?_map] at hd
          cases ea : (W2.up (ups s) i)[j]? with
          | none => rw [ea] at hd; cases hd
          | some a =>
            rw [ea] at hd
            cases hd
            have ha : a < s.length := by
              have := ch.1.lt a (List.mem_of_getElem? ea)
              rwa [ups_len] at this
            have hfa := hf a ha
            have na : a ∉ (W2.up (ups s) i).take j := fun m => by
              obtain ⟨j', hj'⟩ := List.getElem?_of_mem m
              have lj := lt_at hj'
              rw [List.length_take] at lj
              rw [List.getElem?_take, if_pos (by omega)] at hj'
              have := nd_inj nd hj' ea
              omega
            rw [if_neg na] at hfa
            have hk : ((fs.map nv).map D.dat)[a]? = some (.dat (.int ((cnt s i a + 0 : Nat) : Int))) := by rw [List.getElem?_map, List.getElem?_map, hfa]; rfl
            have es := augS_o (a := mVar 1) (b := mVar 3) (δ := [some (.obj o), some (.obj S.length), some (.dat (nv i)), some (.dat (nv a))]) (S := S ++ [natsO fs]) (n := 1) rfl rfl get_new hk
            dsimp! [es]
            refine .of (tm ⟨_, fs.set a (cnt s i a + 1), rfl, ?_, by rw [List.length_set]; exact lf, fun k hk => ?_⟩)
            · rw [List.set_append_right _ _ (Nat.le_refl _), Nat.sub_self]
              unfold natsO
              rw [List.map_set, List.map_set]
              rfl
            · have tk : (W2.up (ups s) i).take (j + 1) = (W2.up (ups s) i).take j ++ [a] := by rw [List.take_add_one, ea]; rfl
              by_cases c : a = k
              · subst c
                rw [List.getElem?_set_self (by omega), tk, if_pos (by simp)]
              · rw [List.getElem?_set_ne c, hf k hk, tk]
                have : k ∈ (W2.up (ups s) i).take j ++ [a] ↔ k ∈ (W2.up (ups s) i).take j := by
                  rw [List.mem_append, List.mem_singleton]
                  exact ⟨fun q => q.resolve_right fun z => c z.symm, .inl⟩
                simp only [this]
        · rintro δ S' ⟨x3, fs, rfl, rfl, lf, hf⟩
          refine tm ⟨_, _, fs, rfl, rfl, lf, fun k hk => ?_⟩
          rw [hf k hk, cnt_succ]
          simp
      · rw [List.getElem?_eq_none (by simpa using ci)] at hd; cases hd
    · rintro δ S' ⟨x2, x3, fs, rfl, rfl, lf, hf⟩
      refine ⟨_, _, fs, rfl, rfl, lf, fun k hk => ?_⟩
      rw [hf k hk]
      simp [wt]
  · rintro o' S' ⟨x2, x3, fs, rfl, rfl, lf, hf⟩
    dsimp! [tuple_o (l := fs.map nv) (show (S ++ [natsO fs])[S.length]? = some (.lst ((fs.map nv).map .dat)) from get_new)]
    exact .of ⟨_, rfl, fs, lf, hf, rfl, _, rfl⟩
end
theorem weights_t {g : G} (X : Gx g) {s : Shp} (R : RS s) (S : Store) : ∃ fs : List Nat, fs.length = s.length ∧ (∀ k, k < s.length → fs[k]? = some (wt s k)) ∧ mPure (m_weights g) [.dat (shP s)] S = .ok (.dat (.tup (fs.map nv))) S := by
  obtain ⟨S', e, T, _⟩ := stands0 X R
  obtain ⟨fs, h1, h2, e2⟩ := weights_of_t X T R
  refine ⟨fs, h1, h2, pure_dat rfl (S' := S') ?_⟩
  unfold m_weights
  dsimp! [e, e2]
theorem told_t {g : G} (X : Gx g) {s : Shp} (R : RS s) {ps : List (Option Nat)} {ws : List Int} (W : Told s ps ws) (S : Store) : mPure (m_told_forest g) [.dat (shP s)] S = .ok (.dat (forP g ps ws)) S := by
  obtain ⟨S', e, T, _⟩ := stands0 X R
  obtain ⟨S'', e2, q⟩ := fill_t X T R W
  subst q
  refine pure_dat rfl (S' := S'') ?_
  unfold m_told_forest
  dsimp! [e, e2]
/-- a thing is what its recount says -/
theorem wt_pos {s : Shp} (R : RS s) {k : Nat} (hk : k < s.length) : 1 ≤ wt s k ∧ wt s k ≤ s.length := by
  unfold wt cnt
  constructor
  · refine List.length_pos_of_mem (a := k) (List.mem_filter.mpr ⟨List.mem_range.mpr hk, decide_eq_true ?_⟩)
    obtain ⟨r, e⟩ := R.up_head hk
    rw [e]; simp
  · have := List.length_filter_le (fun h => decide (k ∈ W2.up (ups s) h)) (List.range s.length)
    rwa [List.length_range] at this
end W3
namespace W3
open PySem PySem.Spec PyProof.Rows L2 M3
/-! ### parents by an order -/
def Par (od : List Nat) (ps : List (Option Nat)) : Prop := ∀ (k g : Nat), od[k]? = some g → ps[g]? = some none ∨ ∃ (j p : Nat), j < k ∧ od[j]? = some p ∧ ps[g]? = some (some p)
theorem par_set {od : List Nat} {ps : List (Option Nat)} (h : Par od ps) (nd : od.Nodup) {k g : Nat} (hk : od[k]? = some g) (hg : g < ps.length) {v : Option Nat} (hv : v = none ∨ ∃ (j p : Nat), j < k ∧ od[j]? = some p ∧ v = some p) : Par od (ps.set g v) := by
  intro k' g' hk'
  by_cases e : g = g'
  · subst e
    have ek : k = k' := nd_ix nd hk hk'
    subst ek
    rw [List.getElem?_set_self hg]
    rcases hv with rfl | ⟨j, p, hj, hp, rfl⟩
    · exact .inl rfl
    · exact .inr ⟨j, p, hj, hp, rfl⟩
  · rw [List.getElem?_set_ne e]
    exact h k' g' hk'
theorem par_tree {od : List Nat} {ps : List (Option Nat)} (h : Par od ps) {n : Nat} (hp : od.Perm (List.range n)) (hn : ps.length = n) : W2.Tree ps := by
  refine W2.tree_ord (o := od) (by rw [hp.length_eq, List.length_range, hn]) (fun x hx => ?_) h
  have : x ∈ od := hp.mem_iff.mpr (List.mem_range.mpr (by omega))
  obtain ⟨i, hi, e⟩ := List.getElem_of_mem this
  exact ⟨i, List.getElem?_eq_some_iff.mpr ⟨hi, e⟩⟩
def nvs (l : List Nat) : List D := l.map fun k => .dat (nv k)
def ovs (l : List (Option Nat)) : List D := l.map fun k => .dat (ov k)
theorem nvs_at {l : List Nat} {k x : Nat} (h : l[k]? = some x) : (nvs l)[k]? = some (.dat (.int (x : Int))) := by unfold nvs; rw [List.getElem?_map, h]; rfl
theorem nvs_len {l : List Nat} : (nvs l).length = l.length := List.length_map ..
theorem ovs_len {l : List (Option Nat)} : (ovs l).length = l.length := List.length_map ..
theorem cl_cons {l : List D} {rest : Store} (hl : ∀ n, l.all (D.lt n) = true) (h : ∀ n, rest.all (O.lt n) = true) : ∀ n, ((O.lst l) :: rest).all (O.lt n) = true := fun n => by
  rw [List.all_cons, h n, Bool.and_true]; exact hl n
theorem nvs_lt (l : List Nat) (n : Nat) : (nvs l).all (D.lt n) = true := by
  unfold nvs; rw [List.all_map]; exact List.all_eq_true.mpr fun _ _ => rfl
theorem ovs_lt (l : List (Option Nat)) (n : Nat) : (ovs l).all (D.lt n) = true := by
  unfold ovs; rw [List.all_map]; exact List.all_eq_true.mpr fun _ _ => rfl
theorem rngD_nvs (n : Nat) : rngD 0 n = nvs (List.range n) := rngD0 n
end W3
namespace W3
open PySem PySem.Spec PyProof.Rows L2 M3
/-! ### the hand of the laws of shapes -/
def hdO (ns : List Int) (i b s c : Int) : O := .lst [.dat (.lst (ns.map .int)), .dat (.int i), .dat (.int b), .dat (.int s), .dat (.int c)]
def Hd (o : O) : Prop := ∃ ns i b s c, o = hdO ns i b s c ∧ 0 ≤ i ∧ 0 ≤ b ∧ 0 ≤ s ∧ s < 2147483647
theorem hd_lt {h : O} (H : Hd h) (n : Nat) : O.lt n h = true := by
  obtain ⟨ns, i, b, s, c, rfl, _⟩ := H
  rfl
theorem draw_h (g : G) {h : O} {rest : Store} {n : Int} (H : Hd h) (n0 : 0 < n) (n1 : n < 2 ^ 60) : ∃ (r : Nat) (h' : O), (r : Int) < n ∧ Hd h' ∧ m_L_draw g [.obj 0, .dat (.int n)] (h :: rest) = .ok (.dat (.int (r : Int))) (h' :: rest) := by
  obtain ⟨ns, i, b, s, c, rfl, i0, b0, s0, s1⟩ := H
  have ix : ∀ (a b c d e : D) (r : Store) (k : Int), aIx (.lst [a, b, c, d, e] :: r) (.obj 0) (.dat (.int k)) = atI [a, b, c, d, e] k := fun _ _ _ _ _ _ _ => rfl
  have a0 : ∀ (a b c d e : D), atI [a, b, c, d, e] 0 = some a := fun _ _ _ _ _ => rfl
  have a1 : ∀ (a b c d e : D), atI [a, b, c, d, e] 1 = some b := fun _ _ _ _ _ => rfl
  have a2 : ∀ (a b c d e : D), atI [a, b, c, d, e] 2 = some c := fun _ _ _ _ _ => rfl
  have a3 : ∀ (a b c d e : D), atI [a, b, c, d, e] 3 = some d := fun _ _ _ _ _ => rfl
  have a4 : ∀ (a b c d e : D), atI [a, b, c, d, e] 4 = some e := fun _ _ _ _ _ => rfl
  have t1 : ∀ (a b c d e v : D) (r : Store), setD (.obj 0) (.dat (.int 1)) v (.lst [a, b, c, d, e] :: r) = some (.lst [a, v, c, d, e] :: r) := fun _ _ _ _ _ _ _ => rfl
  have t2 : ∀ (a b c d e v : D) (r : Store), setD (.obj 0) (.dat (.int 2)) v (.lst [a, b, c, d, e] :: r) = some (.lst [a, b, v, d, e] :: r) := fun _ _ _ _ _ _ _ => rfl
  have t3 : ∀ (a b c d e v : D) (r : Store), setD (.obj 0) (.dat (.int 3)) v (.lst [a, b, c, d, e] :: r) = some (.lst [a, b, c, v, e] :: r) := fun _ _ _ _ _ _ _ => rfl
  have t4 : ∀ (a b c d e v : D) (r : Store), setD (.obj 0) (.dat (.int 4)) v (.lst [a, b, c, d, e] :: r) = some (.lst [a, b, c, d, v] :: r) := fun _ _ _ _ _ _ _ => rfl
  have nn : ∀ x : Int, ∃ r : Nat, x % n = (r : Int) ∧ (r : Int) < n := fun x => ⟨(x % n).toNat, (Int.toNat_of_nonneg (Int.emod_nonneg x (by omega))).symm, by rw [Int.toNat_of_nonneg (Int.emod_nonneg x (by omega))]; exact Int.emod_lt_of_pos x n0⟩
  have pw : ∀ S : Store, aPow S (.dat (.int 10)) (.dat (.int 18)) = some (.dat (.int 1000000000000000000)) := fun S => pow_ii (by decide) (by decide) (by decide)
  suffices z : ∃ (x : Int) (h' : O), Hd h' ∧ m_L_draw g [.obj 0, .dat (.int n)] (hdO ns i b s c :: rest) = .ok (.dat (.int (x % n))) (h' :: rest) by
    obtain ⟨x, h', H, e⟩ := z
    obtain ⟨r, er, r1⟩ := nn x
    exact ⟨r, h', r1, H, er ▸ e⟩
  have mr0 : ∀ (S : Store) (x : Int), aMul S (.dat (.int x)) (.dat (.int 16)) = some (.dat (.int (x * 16))) := fun _ _ => mul_r (by decide)
  have mr1 : ∀ (S : Store) (x : Int), aMul S (.dat (.int x)) (.dat (.int 48271)) = some (.dat (.int (x * 48271))) := fun _ _ => mul_r (by decide)
  have mr2 : ∀ (S : Store) (x : Int), aMul S (.dat (.int x)) (.dat (.int 69621)) = some (.dat (.int (x * 69621))) := fun _ _ => mul_r (by decide)
  have ml1 : ∀ (S : Store) (x : Int), aMul S (.dat (.int 7919)) (.dat (.int x)) = some (.dat (.int (7919 * x))) := fun _ _ => mul_l (by decide)
  have mm : ∀ (S : Store) (x y : Int), aMul S (.dat (.int (x % 2147483647))) (.dat (.int y)) = some (.dat (.int (x % 2147483647 * y))) := fun _ _ _ => mul_l (by omega)
  have dv1 : ∀ (S : Store) (x : Int), aDiv S (.dat (.int x)) (.dat (.int 1009)) = some (.dat (.int (x / 1009))) := fun _ _ => div_ii (by decide) (by decide)
  have dv2 : ∀ (S : Store) (x : Int), aDiv S (.dat (.int x)) (.dat (.int 2003)) = some (.dat (.int (x / 2003))) := fun _ _ => div_ii (by decide) (by decide)
  have dv3 : ∀ (S : Store) (x : Int), aDiv S (.dat (.int x)) (.dat (.int 16)) = some (.dat (.int (x / 16))) := fun _ _ => div_ii (by decide) (by decide)
  have md0 : ∀ (S : Store) (x : Int), aMod S (.dat (.int x)) (.dat (.int 2147483629)) = some (.dat (.int (x % 2147483629))) := fun _ _ => mod_ii (by decide)
  have md1 : ∀ (S : Store) (x : Int), aMod S (.dat (.int x)) (.dat (.int 2147483647)) = some (.dat (.int (x % 2147483647))) := fun _ _ => mod_ii (by decide)
  have md2 : ∀ (S : Store) (x : Int), aMod S (.dat (.int x)) (.dat (.int 2147483399)) = some (.dat (.int (x % 2147483399))) := fun _ _ => mod_ii (by decide)
  unfold m_L_draw hdO
  by_cases hb : b = 0
  · subst hb
    by_cases hi : i < (ns.length : Int)
    · have dh : decide (i < (ns.length : Int)) = true := decide_eq_true hi
      obtain ⟨cell, ec⟩ : ∃ cell, ns[i.toNat]? = some cell := ⟨_, List.getElem?_eq_getElem (by omega)⟩
      have ec2 : ∀ S, aIx S (.dat (.lst (ns.map .int))) (.dat (.int i)) = some (.dat (.int cell)) := fun S => ix_l (atI_of i0 (map_get ec))
      by_cases hc : 1000000000000000000 ≤ cell
      · have d2 : decide (0 < cell) = true := decide_eq_true (by omega)
        refine ⟨?x1, hdO ns ?a1 ?b1 ?c1 ?d1, ?h1, ?run1⟩
        case run1 =>
          dsimp! [ix, a0, a1, a2, a3, a4, t1, t2, t3, t4, mod_ii n0, div_ii n0 (show n < 2 ^ 64 by omega), List.length_map, dh, ec2, pw, mr0, mr2, md0, decide_eq_true hc, d2]
          rfl
        case h1 => exact ⟨_, _, _, _, _, rfl, by omega, Int.ediv_nonneg (by omega) (by omega), by omega, by omega⟩
      · refine ⟨?x2, hdO ns ?a2 ?b2 ?c2 ?d2, ?h2, ?run2⟩
        case run2 =>
          dsimp! [ix, a0, a1, a2, a3, a4, t1, t2, t3, t4, mod_ii n0, List.length_map, dh, ec2, pw, decide_eq_false hc, mr0, mr1, mr2, ml1, mm, dv1, dv2, dv3, md0, md1, md2]
          rfl
        case h2 => exact ⟨_, _, _, _, _, rfl, by omega, by omega, by omega, by omega⟩
    · have dh : decide (i < (ns.length : Int)) = false := decide_eq_false hi
      refine ⟨?x3, hdO ns ?a3 ?b3 ?c3 ?d3, ?h3, ?run3⟩
      case run3 =>
        dsimp! [ix, a0, a1, a2, a3, a4, t1, t2, t3, t4, mod_ii n0, List.length_map, dh, pw, mr1, mr2, ml1, mm, dv1, dv2, dv3, md1, md2]
        rfl
      case h3 => exact ⟨_, _, _, _, _, rfl, by omega, by omega, by omega, by omega⟩
  · have d1 : decide (b = 0) = false := decide_eq_false hb
    have d2 : decide (0 < b) = true := decide_eq_true (by omega)
    refine ⟨b, hdO ns i (b / n) s c, ⟨_, _, _, _, _, rfl, i0, Int.ediv_nonneg b0 (by omega), s0, s1⟩, ?_⟩
    unfold hdO
    dsimp! [ix, a0, a1, a2, a3, a4, t1, t2, t3, t4, d1, d2, mod_ii n0, div_ii n0 (show n < 2 ^ 64 by omega)]
/-- closed stores behind the hand -/
def Cs (rest : Store) : Prop := ∀ (j : Nat) (w : O), rest[j]? = some w → O.lt (rest.length + 1) w = true
theorem cs_nil : Cs [] := fun j w e => by simp at e
theorem cs_hand {h : O} {rest : Store} (H : Hd h) (hc : Cs rest) : ∀ (j : Nat) (w : O), (h :: rest)[j]? = some w → O.lt (h :: rest).length w = true := fun j w e => by
  cases j with
  | zero => cases e; exact hd_lt H _
  | succ j => exact hc j w e
theorem draw_s (g : G) {h : O} {rest : Store} {n : Int} (H : Hd h) (n0 : 0 < n) (n1 : n < 2 ^ 60) (hc : Cs rest) : ∃ (r : Nat) (h' : O), (r : Int) < n ∧ Hd h' ∧ mScope (m_L_draw g) [.obj 0, .dat (.int n)] (h :: rest) = .ok (.dat (.int (r : Int))) (h' :: rest) := by
  obtain ⟨r, h', a, b, e⟩ := draw_h g H n0 n1 (rest := rest)
  exact ⟨r, h', a, b, scope_u (t := []) (by rw [List.append_nil]; exact e) rfl (cs_hand b hc)⟩
theorem hand8 (g : G) (ns : List Int) : ∃ h, Hd h ∧ m_L_hand g [.dat (.scr ns)] [] = .ok (.obj 0) [h] := by
  have lx : (ns.take 63).length ≤ 63 := by rw [List.length_take]; omega
  have sl : ∀ S : Store, aSl S (.dat (.scr ns)) none (some 63) = some (.dat (.lst ((ns.take 63).map .int))) := fun S => by
    show some (D.dat (.lst ((cutL ns none (some ((63 : Nat) : Int))).map .int))) = _
    rw [cut_take]
  refine ⟨hdO (ns.take 63) 0 0 (1 + ((ns.take 63).length : Int)) 0, ⟨_, _, _, _, _, rfl, by omega, by omega, by omega, by omega⟩, ?_⟩
  have lc : mLc (mWalk (mSl (mVar 0) moN (moS (mC (.int 63))))) (gmName 1) mYes (mCall aInt (mCons (mVar 1) mNil)) [1] [some (.dat (.scr ns)), none] [] = .ok (((ns.take 63).map P.int).map .dat) [] :=
    lc_all (xs := ns.take 63) (fun i => .dat (.int i)) (fun i => .int i) (by rw [walk_l (l := (ns.take 63).map .int) (S1 := []) (by unfold mSl moN moS; dsimp! [sl]), List.map_map]; rfl) (by omega) fun i m => ⟨_, rfl, rfl, by dsimp! []⟩
  have sle : mSl (mVar 0) moN (moS (mC (.int 63))) [some (.dat (.scr ns)), none] [] = .ok (.dat (.lst ((ns.take 63).map .int))) [] := by unfold mSl moN moS; dsimp! [sl]
  unfold m_L_hand
  dsimp! [lc, sle, List.length_map]
  rfl
theorem value8 (g : G) {h : O} {rest : Store} (H : Hd h) (hc : Cs rest) : ∃ (i : Int) (h' : O), Hd h' ∧ mScope (m_L_value g) [.obj 0] (h :: rest) = .ok (.dat (.int i)) (h' :: rest) := by
  obtain ⟨r, h1, hr, H1, e1⟩ := draw_s g H (n := 8) (by omega) (by omega) hc
  have pw1 : ∀ S : Store, aPow S (.dat (.int 10)) (.dat (.int 18)) = some (.dat (.int 1000000000000000000)) := fun S => pow_ii (by decide) (by decide) (by decide)
  have pw2 : ∀ S : Store, aPow S (.dat (.int 2)) (.dat (.int 62)) = some (.dat (.int 4611686018427387904)) := fun S => pow_ii (by decide) (by decide) (by decide)
  have pw3 : ∀ S : Store, aPow S (.dat (.int 10)) (.dat (.int 9)) = some (.dat (.int 1000000000)) := fun S => pow_ii (by decide) (by decide) (by decide)
  have l6 : (6 : Nat) ≤ 100000 := by decide
  by_cases c : (r : Int) = 0
  · obtain ⟨k, h2, hk, H2, e2⟩ := draw_s g H1 (n := 6) (by omega) (by omega) hc
    let L : List P := [.int 1000000000000000000, .int (-1000000000000000000), .int 4611686018427387904, .int (-1), .int 0, .int 1000000000]
    have hk' : k < L.length := by show k < 6; omega
    have ek : L[k]? = some L[k] := List.getElem?_eq_getElem hk'
    obtain ⟨i, ei⟩ : ∃ i, L[k] = .int i := by
      have m := List.mem_of_getElem? ek
      generalize L[k] = p at m
      simp only [L, List.mem_cons, List.mem_nil_iff, or_false] at m
      rcases m with rfl | rfl | rfl | rfl | rfl | rfl <;> exact ⟨_, rfl⟩
    rw [ei] at ek
    have ix : ∀ S : Store, aIx S (.dat (.lst [.int 1000000000000000000, .int (-1000000000000000000), .int 4611686018427387904, .int (-1), .int 0, .int 1000000000])) (.dat (.int (k : Int))) = some (.dat (.int i)) := fun S => ix_l (atN ek)
    refine ⟨i, h2, H2, scope_u (t := []) ?_ rfl (cs_hand H2 hc)⟩
    rw [List.append_nil]
    unfold m_L_value
    dsimp! [e1, decide_eq_true c, pw1, pw2, pw3, l6, e2, ix]
  · obtain ⟨k, h2, hk, H2, e2⟩ := draw_s g H1 (n := 41) (by omega) (by omega) hc
    refine ⟨(k : Int) - 20, h2, H2, scope_u (t := []) ?_ rfl (cs_hand H2 hc)⟩
    rw [List.append_nil]
    unfold m_L_value
    dsimp! [e1, decide_eq_false c, e2]
end W3
namespace W3
open PySem PySem.Spec PyProof.Rows L2 M3
/-! ### a comprehension over a list of objects -/
theorem lcO_map {α : Type} {gm : DG} {t : DT} {e : DE} {vs : List Nat} {δ : DEnv} {S : Store} {o : Nat} {xs : List α} (h : α → D) (k : α → P) (ho : S[o]? = some (.lst (xs.map h))) (hl : xs.length ≤ 100000)
    (hh : ∀ x ∈ xs, ∃ δ1, gm (h x) (wipeD δ vs) S = .ok δ1 S ∧ t δ1 S = .ok true S ∧ e δ1 S = .ok (.dat (k x)) S) : ∀ (m i : Nat) (acc : List D), i + m = xs.length → acc.length = i →
      mLcO gm t e vs δ o xs.length m i acc S = .ok (acc ++ ((xs.drop i).map k).map .dat) S
  | 0, i, acc, hi, ha => by
    unfold mLcO
    rw [ho]
    simp only [List.length_map, if_true]
    rw [List.drop_eq_nil_of_le (by omega)]
    simp
  | m + 1, i, acc, hi, ha => by
    have hx : xs[i]? = some xs[i] := List.getElem?_eq_getElem (by omega)
    obtain ⟨δ1, e1, e2, e3⟩ := hh _ (List.mem_of_getElem? hx)
    unfold mLcO
    rw [ho]
    simp only [List.length_map, if_true]
    rw [List.getElem?_map, hx]
    simp only [Option.map_some]
    rw [e1, R.bnf_ok, e2, R.bnf_ok]
    show (e δ1 S).bnf _ = _
    rw [e3, R.bnf_ok, if_pos (by omega), lcO_map h k ho hl hh m (i + 1) _ (by omega) (by simp [ha])]
    rw [List.drop_eq_getElem_cons (show i < xs.length by omega), List.map_cons, List.map_cons, List.append_assoc]
    rfl
theorem lc_ob {α : Type} {w : DI} {gm : DG} {t : DT} {e : DE} {vs : List Nat} {δ : DEnv} {S S1 : Store} {o : Nat} {xs : List α} (h : α → D) (k : α → P) (hw : w δ S = .ok (.ob o) S1) (ho : S1[o]? = some (.lst (xs.map h))) (hl : xs.length ≤ 100000)
    (hh : ∀ x ∈ xs, ∃ δ1, gm (h x) (wipeD δ vs) S1 = .ok δ1 S1 ∧ t δ1 S1 = .ok true S1 ∧ e δ1 S1 = .ok (.dat (k x)) S1) : mLc w gm t e vs δ S = .ok ((xs.map k).map .dat) S1 := by
  unfold mLc
  rw [hw, R.bind_ok]
  simp only [ho]
  rw [List.length_map, lcO_map h k ho hl hh xs.length 0 [] (by omega) rfl, R.bnf_ok]
  simp
/-! ### rows of lists -/
def rO (x : Hs) : O := .lst ([ov x.up, ov x.left, ov x.right, .bl x.turned, .int x.added, .int x.value].map .dat)
def Sh (h : O) (s : Shp) : Store := h :: (s.map rO ++ [.lst ((List.range s.length).map fun k => .obj (1 + k))])
section
variable {h : O} {s : Shp}
theorem Sh_len : (Sh h s).length = s.length + 2 := by unfold Sh; simp
theorem Sh_row {k : Nat} {x : Hs} (e : s[k]? = some x) : (Sh h s)[1 + k]? = some (rO x) := by
  unfold Sh
  rw [Nat.add_comm, List.getElem?_cons_succ, List.getElem?_append_left (by rw [List.length_map]; exact lt_at e), List.getElem?_map, e]; rfl
theorem Sh_lst : (Sh h s)[s.length + 1]? = some (.lst ((List.range s.length).map fun k => .obj (1 + k))) := by
  unfold Sh
  rw [List.getElem?_cons_succ, List.getElem?_append_right (by rw [List.length_map]; exact Nat.le_refl _)]; simp
theorem Sh_ix {k : Nat} (hk : k < s.length) : aIx (Sh h s) (.obj (s.length + 1)) (.dat (nv k)) = some (.obj (1 + k)) := ix_o Sh_lst (atN (by rw [List.getElem?_map, List.getElem?_range hk]; rfl))
theorem Sh_set {k : Nat} {x y : Hs} (e : s[k]? = some x) : (Sh h s).set (1 + k) (rO y) = Sh h (s.set k y) := by
  unfold Sh
  rw [Nat.add_comm, List.set_cons_succ, List.set_append_left _ _ (by rw [List.length_map]; exact lt_at e), List.map_set, List.length_set]
theorem Sh_cs (hd : Hd h) : ∀ (j : Nat) (w : O), (Sh h s)[j]? = some w → O.lt (Sh h s).length w = true := fun j w e => by
  rw [Sh_len]
  cases j with
  | zero => cases e; exact hd_lt hd _
  | succ j =>
    unfold Sh at e
    rw [List.getElem?_cons_succ] at e
    by_cases c : j < s.length
    · rw [List.getElem?_append_left (by rw [List.length_map]; exact c), List.getElem?_map] at e
      cases q : s[j]? with
      | none => rw [q] at e; cases e
      | some x => rw [q] at e; cases e; rfl
    · rw [List.getElem?_append_right (by rw [List.length_map]; omega)] at e
      have := List.mem_singleton.mp (List.mem_of_getElem? e)
      subst this
      show List.all _ _ = true
      rw [List.all_map]
      refine List.all_eq_true.mpr fun k m => ?_
      have := List.mem_range.mp m
      exact decide_eq_true (by omega)
theorem Sh_rest : Cs (s.map rO ++ [.lst ((List.range s.length).map fun k => .obj (1 + k))]) := fun j w e => by
  have := Sh_cs (h := hdO [] 0 0 0 0) (s := s) ⟨_, _, _, _, _, rfl, by omega, by omega, by omega, by omega⟩ (j + 1) w (by unfold Sh; exact e)
  rw [Sh_len] at this
  have l : (s.map rO ++ [O.lst ((List.range s.length).map fun k => .obj (1 + k))]).length + 1 = s.length + 2 := by simp
  rw [l]; exact this
variable {k : Nat} {x : Hs} (e : s[k]? = some x)
include e
theorem Sh_0 : aIx (Sh h s) (.obj (1 + k)) (.dat (.int 0)) = some (.dat (ov x.up)) := ix_o (Sh_row e) rfl
theorem Sh_1 : aIx (Sh h s) (.obj (1 + k)) (.dat (.int 1)) = some (.dat (ov x.left)) := ix_o (Sh_row e) rfl
theorem Sh_2 : aIx (Sh h s) (.obj (1 + k)) (.dat (.int 2)) = some (.dat (ov x.right)) := ix_o (Sh_row e) rfl
theorem Sh_s0 {o : Option Nat} : setD (.obj (1 + k)) (.dat (.int 0)) (.dat (ov o)) (Sh h s) = some (Sh h (s.set k { x with up := o })) := by
  rw [setD_o (k := 0) (Sh_row e) rfl]
  exact congrArg some (Sh_set (y := { x with up := o }) e)
theorem Sh_s1 {o : Option Nat} : setD (.obj (1 + k)) (.dat (.int 1)) (.dat (ov o)) (Sh h s) = some (Sh h (s.set k { x with left := o })) := by
  rw [setD_o (k := 1) (Sh_row e) rfl]
  exact congrArg some (Sh_set (y := { x with left := o }) e)
theorem Sh_s2 {o : Option Nat} : setD (.obj (1 + k)) (.dat (.int 2)) (.dat (ov o)) (Sh h s) = some (Sh h (s.set k { x with right := o })) := by
  rw [setD_o (k := 2) (Sh_row e) rfl]
  exact congrArg some (Sh_set (y := { x with right := o }) e)
theorem Sh_s3 {o : Bool} : setD (.obj (1 + k)) (.dat (.int 3)) (.dat (.bl o)) (Sh h s) = some (Sh h (s.set k { x with turned := o })) := by
  rw [setD_o (k := 3) (Sh_row e) rfl]
  exact congrArg some (Sh_set (y := { x with turned := o }) e)
theorem Sh_s4 {o : Int} : setD (.obj (1 + k)) (.dat (.int 4)) (.dat (.int o)) (Sh h s) = some (Sh h (s.set k { x with added := o })) := by
  rw [setD_o (k := 4) (Sh_row e) rfl]
  exact congrArg some (Sh_set (y := { x with added := o }) e)
end
theorem many8 (g : G) {h : O} {rest : Store} (H : Hd h) (hc : Cs rest) : ∃ (n : Nat) (h' : O), 1 ≤ n ∧ n ≤ 64 ∧ Hd h' ∧ mScope (m_L_many g) [.obj 0, .dat (.int 12)] (h :: rest) = .ok (.dat (.int (n : Int))) (h' :: rest) := by
  obtain ⟨r, h1, hr, H1, e1⟩ := draw_s g H (n := 12) (by omega) (by omega) hc
  have l5 : (5 : Nat) ≤ 100000 := by decide
  by_cases c : (r : Int) = 0
  · obtain ⟨k, h2, hk, H2, e2⟩ := draw_s g H1 (n := 5) (by omega) (by omega) hc
    obtain ⟨i, hi, ek⟩ : ∃ i : Nat, (1 ≤ i ∧ i ≤ 64) ∧ ([.int 64, .int 63, .int 33, .int 32, .int 16] : List P)[k]? = some (.int (i : Int)) := by
      rcases k with _ | _ | _ | _ | _ | k
      · exact ⟨64, by omega, rfl⟩
      · exact ⟨63, by omega, rfl⟩
      · exact ⟨33, by omega, rfl⟩
      · exact ⟨32, by omega, rfl⟩
      · exact ⟨16, by omega, rfl⟩
      · omega
    have ix : ∀ S : Store, aIx S (.dat (.lst [.int 64, .int 63, .int 33, .int 32, .int 16])) (.dat (.int (k : Int))) = some (.dat (.int (i : Int))) := fun S => ix_l (atN ek)
    refine ⟨i, h2, hi.1, hi.2, H2, scope_u (t := []) ?_ rfl (cs_hand H2 hc)⟩
    rw [List.append_nil]
    unfold m_L_many
    dsimp! [e1, decide_eq_true c, l5, e2, ix]
  · obtain ⟨k, h2, hk, H2, e2⟩ := draw_s g H1 (n := 12) (by omega) (by omega) hc
    have ek : (1 : Int) + (k : Int) = ((k + 1 : Nat) : Int) := by omega
    refine ⟨k + 1, h2, by omega, by omega, H2, scope_u (t := []) ?_ rfl (cs_hand H2 hc)⟩
    rw [List.append_nil]
    unfold m_L_many
    dsimp! [e1, decide_eq_false c, e2, ek]
theorem shuf8 (g : G) {h : O} {n : Nat} (H : Hd h) (n64 : n ≤ 64) : ∃ (od : List Nat) (h' : O), od.Perm (List.range n) ∧ Hd h' ∧ mScope (m_L_shuffled g) [.obj 0, .dat (.int (n : Int))] [h] = .ok (.dat (.lst (od.map nv))) [h'] := by
  have c1 : ∀ l, Cs [.lst (nvs l)] := fun l j w e => by
    have := List.mem_singleton.mp (List.mem_of_getElem? e)
    subst this
    exact nvs_lt l _
  suffices z : ∃ d S', m_L_shuffled g [.obj 0, .dat (.int (n : Int))] [h] = .ok d S' ∧ ∃ (od : List Nat) (h' : O), od.Perm (List.range n) ∧ Hd h' ∧ d = .obj 1 ∧ S' = [h', .lst (nvs od)] by
    obtain ⟨d, S', e, od, h', pm, H', rfl, rfl⟩ := z
    have en : nvs od = (od.map nv).map .dat := by unfold nvs; rw [List.map_map]; rfl
    refine ⟨od, h', pm, H', scope_uo (S' := [h']) (t := [.lst (nvs od)]) e rfl (Nat.le_refl _) (cs_hand H' cs_nil) ?_⟩
    rw [en]; exact frz_o rfl
  unfold m_L_shuffled
  rw [mBody_fin]
  refine fin_ends ?_
  have en : -100000 ≤ (n : Int) ∧ (n : Int) ≤ 100000 := by omega
  unfold mListRg1
  dsimp! [if_pos en, Int.toNat_natCast, rngD_nvs]
  rw [for_items (rng1_ok (n := n) (by dsimp! [] <;> rfl) (by omega))]
  refine then_ends (Q1 := fun o S => ∃ (h : O) (x3 x4 : Option D) (od : List Nat), o = .nx [some (.obj 0), some (.dat (.int (n : Int))), some (.obj 1), x3, x4] ∧ S = [h, .lst (nvs od)] ∧ Hd h ∧ od.Perm (List.range n)) ?_ ?_
  · refine forL_ends (fun i δ S => ∃ (h : O) (x3 x4 : Option D) (od : List Nat), δ = [some (.obj 0), some (.dat (.int (n : Int))), some (.obj 1), x3, x4] ∧ S = [h, .lst (nvs od)] ∧ Hd h ∧ od.Perm (List.range n)) (i := 0) ⟨h, none, none, List.range n, rfl, rfl, H, .refl _⟩ ?_ ?_
    · rintro i d δ S hd ⟨h, x3, x4, od, rfl, rfl, H, pm⟩
      obtain ⟨hi, rfl⟩ := rngD_get hd
      rw [Int.zero_add]
      have lod : od.length = n := by rw [pm.length_eq, List.length_range]
      obtain ⟨r, h', hr, H', e⟩ := draw_s g H (n := (n : Int) - (i : Int)) (by omega) (by omega) (rest := [.lst (nvs od)]) (c1 od)
      have hj : (i : Int) + (r : Int) = ((i + r : Nat) : Int) := by omega
      have ej : od[i + r]? = some od[i + r] := List.getElem?_eq_getElem (by omega)
      have ei : od[i]? = some od[i] := List.getElem?_eq_getElem (by omega)
      have x1 : ∀ hh, aIx [hh, .lst (nvs od)] (.obj 1) (.dat (.int ((i + r : Nat) : Int))) = some (.dat (.int (od[i + r] : Int))) := fun hh => ix_o (S := [hh, .lst (nvs od)]) rfl (atN (nvs_at ej))
      have x2 : ∀ hh, aIx [hh, .lst (nvs od)] (.obj 1) (.dat (.int (i : Int))) = some (.dat (.int (od[i] : Int))) := fun hh => ix_o (S := [hh, .lst (nvs od)]) rfl (atN (nvs_at ei))
      have s1 : ∀ hh, setD (.obj 1) (.dat (.int (i : Int))) (.dat (.int (od[i + r] : Int))) [hh, .lst (nvs od)] = some [hh, .lst (nvs (od.set i od[i + r]))] := fun hh => by
        rw [setD_o (S := [hh, .lst (nvs od)]) rfl (ixN_nat (by rw [nvs_len]; omega))]
        unfold nvs; rw [List.map_set]; rfl
      have s2 : ∀ hh, setD (.obj 1) (.dat (.int ((i + r : Nat) : Int))) (.dat (.int (od[i] : Int))) [hh, .lst (nvs (od.set i od[i + r]))] = some [hh, .lst (nvs ((od.set i od[i + r]).set (i + r) od[i]))] := fun hh => by
        rw [setD_o (S := [hh, .lst (nvs (od.set i od[i + r]))]) rfl (ixN_nat (by rw [nvs_len, List.length_set]; omega))]
        unfold nvs; rw [List.map_set (l := od.set i od[i + r])]; rfl
      dsimp! [e, hj, x1, x2, s1, s2]
      exact .of (tm ⟨h', _, _, _, rfl, rfl, H', (List.set_set_perm (by omega) (by omega)).trans pm⟩)
    · rintro δ S ⟨h, x3, x4, od, rfl, rfl, H, pm⟩
      exact ⟨h, x3, x4, od, rfl, rfl, H, pm⟩
  · rintro o S ⟨h, x3, x4, od, rfl, rfl, H, pm⟩
    dsimp! []
    exact .of ⟨_, rfl, od, h, pm, H, rfl, rfl⟩
end W3
namespace W3
open PySem PySem.Spec PyProof.Rows L2 M3
/-! ### the turn: by the program -/
theorem set_same {s : Shp} {k : Nat} {z : Hs} (e : s[k]? = some z) : s.set k z = s := by
  refine List.ext_getElem? fun j => ?_
  by_cases c : k = j
  · subst c; rw [List.getElem?_set_self (lt_at e), e]
  · rw [List.getElem?_set_ne c]
section
variable {g : G} (X : Gx g) {S : Store} {b o : Nat} {s : Shp} (T : St g S b o s) {a h : Nat} {x y : Hs} (p : Pre s a h x y)
include X T p
theorem take_place_t : ∃ S', mScope (m_take_place g) [.obj o, .dat (nv h), .dat (nv a)] S = .ok (.dat .non) S' ∧ St g S' b o (tSteps s a h x y) ∧ Fr S S' b s.length := by
  suffices z : ∃ S', m_take_place g [.obj o, .dat (nv h), .dat (nv a)] S = .ok (.dat .non) S' ∧ St g S' b o (tSteps s a h x y) ∧ Fr S S' b s.length by
    obtain ⟨S', e, T', F⟩ := z
    exact ⟨S', scope_u (t := []) (by rw [List.append_nil]; exact e) F.len T'.cl, T', F⟩
  have hh := lt_at p.eh
  have ha := lt_at p.ea
  have fy := fR_up X (T.at_ a y p.ea)
  have s1 := st_up X T (t := []) p.eh (v := y.up)
  rw [List.append_nil, List.append_nil] at s1
  have T1 := T.set hh { x with up := y.up }
  have e1 : (s.set h { x with up := y.up })[h]? = some { x with up := y.up } := List.getElem?_set_self hh
  have f1 := fR_up X (T1.at_ h _ e1)
  unfold m_take_place mSetF mFld tSteps
  cases eu : y.up with
  | none =>
    rw [eu] at fy s1 T1 f1
    have nno : ∀ S : Store, aIsN S (.dat (ov none)) (.dat .non) = some (.dat (.bl true)) := fun _ => rfl
    refine ⟨_, ?_, T1, Fr.set hh⟩
    dsimp! [T.ix hh, T.ix ha, fy, s1, f1, nno]
  | some q =>
    have nq := p.up_ne eu
    have hq := p.R.up_lt p.ea eu
    obtain ⟨z, ez⟩ := at_of hq
    rw [eu] at fy s1 T1 f1
    have ez1 : (s.set h { x with up := some q })[q]? = some z := by rw [List.getElem?_set_ne (fun w => nq.2.1 w.symm)]; exact ez
    have nn : ∀ S : Store, aIsN S (.dat (ov (some q))) (.dat .non) = some (.dat (.bl false)) := fun _ => rfl
    have ix1 : aIx (S.set (b + h) (stO g { x with up := some q })) (.obj o) (.dat (ov (some q))) = some (.obj (b + q)) := T1.ix (by rw [List.length_set]; exact hq)
    have fl := fR_left X (T1.at_ q z ez1)
    have fr := fR_right X (T1.at_ q z ez1)
    simp only
    rw [modAt_eq ez1]
    have T2 := T1.set (k := q) (by rw [List.length_set]; exact hq) (renH a h z)
    by_cases cl : z.left = some a
    · have nr : z.right ≠ some a := p.R.ne q a z ez cl
      have er : renH a h z = { z with left := some h } := by unfold renH ren; rw [if_pos cl, if_neg nr]
      have s2 := st_left X T1 (t := []) ez1 (v := some h)
      rw [List.append_nil, List.append_nil] at s2
      have s2' : setF g.FL "left" (.obj (b + q)) (.dat (nv h)) (S.set (b + h) (stO g { x with up := some q })) = _ := s2
      rw [er] at T2 ⊢
      refine ⟨_, ?_, T2, (Fr.set hh).trans (Fr.set hq)⟩
      dsimp! [T.ix hh, T.ix ha, fy, s1, f1, nn, ix1, fl, eq_on, decide_eq_true cl, s2']
    · by_cases cr : z.right = some a
      · have er : renH a h z = { z with right := some h } := by unfold renH ren; rw [if_neg cl, if_pos cr]
        have s2 := st_right X T1 (t := []) ez1 (v := some h)
        rw [List.append_nil, List.append_nil] at s2
        have s2' : setF g.FL "right" (.obj (b + q)) (.dat (nv h)) (S.set (b + h) (stO g { x with up := some q })) = _ := s2
        rw [er] at T2 ⊢
        refine ⟨_, ?_, T2, (Fr.set hh).trans (Fr.set hq)⟩
        dsimp! [T.ix hh, T.ix ha, fy, s1, f1, nn, ix1, fl, eq_on, decide_eq_false cl, fr, decide_eq_true cr, s2']
      · have er : renH a h z = z := by unfold renH ren; rw [if_neg cl, if_neg cr]
        rw [er, set_same ez1]
        refine ⟨_, ?_, T1, Fr.set hh⟩
        dsimp! [T.ix hh, T.ix ha, fy, s1, f1, nn, ix1, fl, eq_on, decide_eq_false cl, fr, decide_eq_false cr]
end
theorem turnUp_eq {s : Shp} {h a : Nat} {x : Hs} (e : s[h]? = some x) (u : x.up = some a) : turnUp s h = rot (handOn (handOn s a) h) a h := by
  unfold turnUp; rw [e]; simp only [u]
/-- behind handing on twice -/
theorem pre_of {s : Shp} (R : RS s) {a h : Nat} (so : SonOf s a h) : ∃ x y, Pre (handOn (handOn s a) h) a h x y := by
  obtain ⟨y0, ey0, hy0⟩ := id so
  obtain ⟨x0, ex0, hx0⟩ := R.son a h so
  have ah : a ≠ h := fun q => by
    have := congrArg List.length (R.upc so)
    rw [q] at this
    simp at this
  have R1 := handOn_rs ey0 R
  have ea1 := handOn_h ey0
  have eh1 := handOn_son ey0 ex0 (fun q => ah q.symm) hy0
  have R2 := handOn_rs eh1 R1
  have eh2 := handOn_h eh1
  have so1 : SonOf (handOn s a) a h := (handOn_sonOf ey0).mpr so
  have nb : ¬ ((flp y0 x0).left = some a ∨ (flp y0 x0).right = some a) := fun q => by
    have sb : SonOf (handOn s a) h a := ⟨_, eh1, q⟩
    have e1 := congrArg List.length (R1.upc sb)
    rw [R1.upc so1] at e1
    simp at e1
    omega
  have ea2 : (handOn (handOn s a) h)[a]? = some (hnd y0) := by rw [handOn_no eh1 ah nb]; exact ea1
  have so2 : SonOf (handOn (handOn s a) h) a h := (handOn_sonOf eh1).mpr so1
  obtain ⟨y', ey', hy'⟩ := so2
  rw [ea2] at ey'
  cases ey'
  exact ⟨_, _, R2, ea2, eh2, hy', rfl, rfl, rfl, rfl⟩
theorem turnUp_rs {s : Shp} (R : RS s) {a h : Nat} (so : SonOf s a h) : RS (turnUp s h) ∧ (turnUp s h).length = s.length := by
  obtain ⟨x, y, p⟩ := pre_of R so
  obtain ⟨x0, ex0, hx0⟩ := R.son a h so
  obtain ⟨y0, ey0, hy0⟩ := so
  have l1 : (handOn s a).length = s.length := handOn_len ey0
  obtain ⟨x1, ex1⟩ := at_of (s := handOn s a) (h := h) (by rw [l1]; exact lt_at ex0)
  rw [turnUp_eq ex0 hx0]
  exact ⟨rot_rs p, by rw [rot_len p, handOn_len ex1, l1]⟩
theorem turnUp_told {s : Shp} (R : RS s) {a h : Nat} (so : SonOf s a h) {ps : List (Option Nat)} {ws : List Int} (W : Told s ps ws) : Told (turnUp s h) ps ws := by
  obtain ⟨x, y, p⟩ := pre_of R so
  obtain ⟨x0, ex0, hx0⟩ := R.son a h so
  obtain ⟨y0, ey0, hy0⟩ := so
  have l1 : (handOn s a).length = s.length := handOn_len ey0
  obtain ⟨x1, ex1⟩ := at_of (s := handOn s a) (h := h) (by rw [l1]; exact lt_at ex0)
  rw [turnUp_eq ex0 hx0]
  exact rot_told p (handOn_told ex1 (handOn_rs ey0 R) (handOn_told ey0 R W))
theorem turnUp_up {s : Shp} (R : RS s) {a h : Nat} (so : SonOf s a h) {k : Nat} (hk : k < s.length) : (∀ j, j ≠ a → j ≠ h → (j ∈ W2.up (ups (turnUp s h)) k ↔ j ∈ W2.up (ups s) k)) ∧ (h ∈ W2.up (ups (turnUp s h)) k ↔ a ∈ W2.up (ups s) k) := by
  obtain ⟨x, y, p⟩ := pre_of R so
  obtain ⟨x0, ex0, hx0⟩ := R.son a h so
  obtain ⟨y0, ey0, hy0⟩ := so
  have l1 : (handOn s a).length = s.length := handOn_len ey0
  obtain ⟨x1, ex1⟩ := at_of (s := handOn s a) (h := h) (by rw [l1]; exact lt_at ex0)
  rw [turnUp_eq ex0 hx0]
  have := rot_up p (k := k) (by rw [handOn_len ex1, l1]; exact hk)
  rw [handOn_ups ex1, handOn_ups ey0] at this
  exact this
section
variable {g : G} (X : Gx g) {S : Store} {b o : Nat} {s : Shp} (T : St g S b o s) (R : RS s)
include X T R
theorem turn_up_t {a h : Nat} (so : SonOf s a h) : ∃ S', mScope (m_turn_up g) [.obj o, .dat (nv h)] S = .ok (.dat .non) S' ∧ St g S' b o (turnUp s h) ∧ Fr S S' b s.length := by
  suffices z : ∃ S', m_turn_up g [.obj o, .dat (nv h)] S = .ok (.dat .non) S' ∧ St g S' b o (turnUp s h) ∧ Fr S S' b s.length by
    obtain ⟨S', e, T', F⟩ := z
    exact ⟨S', scope_u (t := []) (by rw [List.append_nil]; exact e) F.len T'.cl, T', F⟩
  obtain ⟨x, y, p⟩ := pre_of R so
  obtain ⟨x0, ex0, hx0⟩ := R.son a h so
  obtain ⟨y0, ey0, hy0⟩ := id so
  have hh := lt_at ex0
  have ha := lt_at ey0
  have l1 : (handOn s a).length = s.length := handOn_len ey0
  have R1 := handOn_rs ey0 R
  obtain ⟨x1, ex1⟩ := at_of (s := handOn s a) (h := h) (by rw [l1]; exact hh)
  have l2 : (handOn (handOn s a) h).length = s.length := by rw [handOn_len ex1, l1]
  obtain ⟨S1, r1, T1, F1⟩ := hand_on_t X T R ha
  obtain ⟨S2, r2, T2, F2⟩ := hand_on_t X T1 R1 (h := h) (by rw [l1]; exact hh)
  obtain ⟨S3, r3, T3, F3⟩ := take_place_t X T2 p
  rw [l1] at F2
  rw [l2] at F3
  have F := (F1.trans F2).trans F3
  rw [turnUp_eq ex0 hx0, ← rSteps_eq p]
  have fu := fR_up X (T.at_ h x0 ex0)
  rw [hx0] at fu
  have fu' : fldD g.FL "up" S (.obj (b + h)) = some (.dat (nv a)) := fu
  have l3 : (tSteps (handOn (handOn s a) h) a h x y).length = s.length := by rw [tSteps_len p, l2]
  have ah := p.ah
  have ea3 : (tSteps (handOn (handOn s a) h) a h x y)[a]? = some y := by rw [tSteps_at p ah, p.ea]; simp
  have eh3 := tSteps_h p
  have fr := fR_right X (T3.at_ a y ea3)
  unfold m_turn_up mSetF mFld rSteps
  by_cases r : y.right = some h
  · have em : mid x y h = x.left := if_pos r
    rw [em]
    simp only [r, if_true]
    have fl := fR_left X (T3.at_ h _ eh3)
    have s4 := st_right X T3 (t := []) ea3 (v := x.left)
    rw [List.append_nil, List.append_nil] at s4
    have T4 := T3.set (k := a) (by rw [l3]; exact ha) { y with right := x.left }
    have eh4 : ((tSteps (handOn (handOn s a) h) a h x y).set a { y with right := x.left })[h]? = some { x with up := y.up } := by rw [List.getElem?_set_ne ah]; exact eh3
    have s5 := st_left X T4 (t := []) eh4 (v := some a)
    rw [List.append_nil, List.append_nil] at s5
    have s5' : setF g.FL "left" (.obj (b + h)) (.dat (nv a)) (S3.set (b + a) (stO g { y with right := x.left })) = _ := s5
    have T5 := T4.set (k := h) (by rw [List.length_set, l3]; exact hh) { x with up := y.up, left := some a }
    have ea5 : (((tSteps (handOn (handOn s a) h) a h x y).set a { y with right := x.left }).set h { x with up := y.up, left := some a })[a]? = some { y with right := x.left } := by rw [List.getElem?_set_ne (fun q => ah q.symm)]; exact List.getElem?_set_self (by rw [l3]; exact ha)
    have s6 := st_up X T5 (t := []) ea5 (v := some h)
    rw [List.append_nil, List.append_nil] at s6
    have s6' : setF g.FL "up" (.obj (b + a)) (.dat (nv h)) ((S3.set (b + a) (stO g { y with right := x.left })).set (b + h) (stO g { x with up := y.up, left := some a })) = _ := s6
    have T6 := T5.set (k := a) (by rw [List.length_set, List.length_set, l3]; exact ha) { y with right := x.left, up := some h }
    have sw : ((((tSteps (handOn (handOn s a) h) a h x y).set a { y with right := x.left }).set h { x with up := y.up, left := some a }).set a { y with right := x.left, up := some h }) = ((tSteps (handOn (handOn s a) h) a h x y).set a { y with right := x.left, up := some h }).set h { x with up := y.up, left := some a } := by
      rw [List.set_comm _ _ (fun q => ah q.symm), List.set_set]
    rw [sw] at T6
    have F6 := ((F.trans (Fr.set (z := stO g { y with right := x.left }) ha)).trans (Fr.set (z := stO g { x with up := y.up, left := some a }) hh)).trans (Fr.set (z := stO g { y with right := x.left, up := some h }) ha)
    have eq1 : aEq S3 (.dat (ov (some h))) (.dat (nv h)) = some (.dat (.bl true)) := by rw [eq_on, decide_eq_true rfl]
    rw [r] at fr
    cases el : x.left with
    | none =>
      have nno : ∀ S : Store, aNotN S (.dat (ov none)) (.dat .non) = some (.dat (.bl false)) := fun _ => rfl
      rw [el] at fl s4 s5' s6' T6 F6
      refine ⟨_, ?_, T6, F6⟩
      dsimp! [T.ix hh, fu', T.ix ha, r1, r2, r3, fr, eq1, fl, s4, s5', s6', nno]
    | some m =>
      have sm : SonOf (handOn (handOn s a) h) h m := ⟨x, p.eh, .inl el⟩
      have mh : m ≠ h := fun q => by subst q; exact p.no_self sm
      have ma : m ≠ a := fun q => by subst q; exact p.no_back sm
      obtain ⟨w, ew, _⟩ := p.R.son h m sm
      have hm : m < s.length := by have := lt_at ew; rwa [l2] at this
      obtain ⟨w3, ew3⟩ := at_of (s := tSteps (handOn (handOn s a) h) a h x y) (h := m) (by rw [l3]; exact hm)
      rw [el] at fl s4 s5' s6' T6 F6
      have ew6 : (((tSteps (handOn (handOn s a) h) a h x y).set a { y with right := some m, up := some h }).set h { x with up := y.up, left := some a })[m]? = some w3 := by
        rw [List.getElem?_set_ne (fun q => mh q.symm), List.getElem?_set_ne (fun q => ma q.symm)]; exact ew3
      have nns : ∀ S : Store, aNotN S (.dat (ov (some m))) (.dat .non) = some (.dat (.bl true)) := fun _ => rfl
      have s7 := st_up X T6 (t := []) ew6 (v := some a)
      rw [List.append_nil, List.append_nil] at s7
      have s7' : setF g.FL "up" (.obj (b + m)) (.dat (nv a)) (((S3.set (b + a) (stO g { y with right := some m })).set (b + h) (stO g { x with up := y.up, left := some a })).set (b + a) (stO g { y with right := some m, up := some h })) = _ := s7
      have T7 := T6.set (k := m) (by rw [List.length_set, List.length_set, l3]; exact hm) { w3 with up := some a }
      have ix6 : aIx (((S3.set (b + a) (stO g { y with right := some m })).set (b + h) (stO g { x with up := y.up, left := some a })).set (b + a) (stO g { y with right := some m, up := some h })) (.obj o) (.dat (ov (some m))) = some (.obj (b + m)) := T6.ix (by rw [List.length_set, List.length_set, l3]; exact hm)
      simp only
      rw [modAt_eq ew6]
      refine ⟨_, ?_, T7, F6.trans (Fr.set hm)⟩
      dsimp! [T.ix hh, fu', T.ix ha, r1, r2, r3, fr, eq1, fl, s4, s5', s6', nns, ix6, s7']
  · have em : mid x y h = x.right := if_neg r
    rw [em]
    simp only [r, if_false]
    have fl := fR_right X (T3.at_ h _ eh3)
    have s4 := st_left X T3 (t := []) ea3 (v := x.right)
    rw [List.append_nil, List.append_nil] at s4
    have T4 := T3.set (k := a) (by rw [l3]; exact ha) { y with left := x.right }
    have eh4 : ((tSteps (handOn (handOn s a) h) a h x y).set a { y with left := x.right })[h]? = some { x with up := y.up } := by rw [List.getElem?_set_ne ah]; exact eh3
    have s5 := st_right X T4 (t := []) eh4 (v := some a)
    rw [List.append_nil, List.append_nil] at s5
    have s5' : setF g.FL "right" (.obj (b + h)) (.dat (nv a)) (S3.set (b + a) (stO g { y with left := x.right })) = _ := s5
    have T5 := T4.set (k := h) (by rw [List.length_set, l3]; exact hh) { x with up := y.up, right := some a }
    have ea5 : (((tSteps (handOn (handOn s a) h) a h x y).set a { y with left := x.right }).set h { x with up := y.up, right := some a })[a]? = some { y with left := x.right } := by rw [List.getElem?_set_ne (fun q => ah q.symm)]; exact List.getElem?_set_self (by rw [l3]; exact ha)
    have s6 := st_up X T5 (t := []) ea5 (v := some h)
    rw [List.append_nil, List.append_nil] at s6
    have s6' : setF g.FL "up" (.obj (b + a)) (.dat (nv h)) ((S3.set (b + a) (stO g { y with left := x.right })).set (b + h) (stO g { x with up := y.up, right := some a })) = _ := s6
    have T6 := T5.set (k := a) (by rw [List.length_set, List.length_set, l3]; exact ha) { y with left := x.right, up := some h }
    have sw : ((((tSteps (handOn (handOn s a) h) a h x y).set a { y with left := x.right }).set h { x with up := y.up, right := some a }).set a { y with left := x.right, up := some h }) = ((tSteps (handOn (handOn s a) h) a h x y).set a { y with left := x.right, up := some h }).set h { x with up := y.up, right := some a } := by
      rw [List.set_comm _ _ (fun q => ah q.symm), List.set_set]
    rw [sw] at T6
    have F6 := ((F.trans (Fr.set (z := stO g { y with left := x.right }) ha)).trans (Fr.set (z := stO g { x with up := y.up, right := some a }) hh)).trans (Fr.set (z := stO g { y with left := x.right, up := some h }) ha)
    have eq1 : aEq S3 (.dat (ov y.right)) (.dat (nv h)) = some (.dat (.bl false)) := by rw [eq_on, decide_eq_false r]
    cases el : x.right with
    | none =>
      have nno : ∀ S : Store, aNotN S (.dat (ov none)) (.dat .non) = some (.dat (.bl false)) := fun _ => rfl
      rw [el] at fl s4 s5' s6' T6 F6
      refine ⟨_, ?_, T6, F6⟩
      dsimp! [T.ix hh, fu', T.ix ha, r1, r2, r3, fr, eq1, fl, s4, s5', s6', nno]
    | some m =>
      have sm : SonOf (handOn (handOn s a) h) h m := ⟨x, p.eh, .inr el⟩
      have mh : m ≠ h := fun q => by subst q; exact p.no_self sm
      have ma : m ≠ a := fun q => by subst q; exact p.no_back sm
      obtain ⟨w, ew, _⟩ := p.R.son h m sm
      have hm : m < s.length := by have := lt_at ew; rwa [l2] at this
      obtain ⟨w3, ew3⟩ := at_of (s := tSteps (handOn (handOn s a) h) a h x y) (h := m) (by rw [l3]; exact hm)
      rw [el] at fl s4 s5' s6' T6 F6
      have ew6 : (((tSteps (handOn (handOn s a) h) a h x y).set a { y with left := some m, up := some h }).set h { x with up := y.up, right := some a })[m]? = some w3 := by
        rw [List.getElem?_set_ne (fun q => mh q.symm), List.getElem?_set_ne (fun q => ma q.symm)]; exact ew3
      have nns : ∀ S : Store, aNotN S (.dat (ov (some m))) (.dat .non) = some (.dat (.bl true)) := fun _ => rfl
      have s7 := st_up X T6 (t := []) ew6 (v := some a)
      rw [List.append_nil, List.append_nil] at s7
      have s7' : setF g.FL "up" (.obj (b + m)) (.dat (nv a)) (((S3.set (b + a) (stO g { y with left := some m })).set (b + h) (stO g { x with up := y.up, right := some a })).set (b + a) (stO g { y with left := some m, up := some h })) = _ := s7
      have T7 := T6.set (k := m) (by rw [List.length_set, List.length_set, l3]; exact hm) { w3 with up := some a }
      have ix6 : aIx (((S3.set (b + a) (stO g { y with left := some m })).set (b + h) (stO g { x with up := y.up, right := some a })).set (b + a) (stO g { y with left := some m, up := some h })) (.obj o) (.dat (ov (some m))) = some (.obj (b + m)) := T6.ix (by rw [List.length_set, List.length_set, l3]; exact hm)
      simp only
      rw [modAt_eq ew6]
      refine ⟨_, ?_, T7, F6.trans (Fr.set hm)⟩
      dsimp! [T.ix hh, fu', T.ix ha, r1, r2, r3, fr, eq1, fl, s4, s5', s6', nns, ix6, s7']
theorem shape_of_t : mScope (m_shape_of g) [.obj o] S = .ok (.dat (shP s)) S := by
  have n64 := R.n64
  have l6 : (6 : Nat) ≤ 100000 := by decide
  refine scope_u (t := []) ?_ rfl T.cl
  rw [List.append_nil]
  have lc : mLc (mWalk (mVar 0)) (gmName 1) mYes (mTup (mCons (mFld g.FL "up" (mVar 1)) (mCons (mFld g.FL "left" (mVar 1)) (mCons (mFld g.FL "right" (mVar 1)) (mCons (mFld g.FL "turned" (mVar 1)) (mCons (mFld g.FL "added" (mVar 1)) (mCons (mFld g.FL "value" (mVar 1)) mNil))))))) [1] [some (.obj o), none] S = .ok ((s.map hsP).map .dat) S := by
    have e := lc_ob (S := S) (S1 := S) (o := o) (gm := gmName 1) (t := mYes) (e := mTup (mCons (mFld g.FL "up" (mVar 1)) (mCons (mFld g.FL "left" (mVar 1)) (mCons (mFld g.FL "right" (mVar 1)) (mCons (mFld g.FL "turned" (mVar 1)) (mCons (mFld g.FL "added" (mVar 1)) (mCons (mFld g.FL "value" (mVar 1)) mNil))))))) (vs := [1]) (δ := [some (.obj o), none]) (w := mWalk (mVar 0)) (xs := List.range s.length) (fun k => .obj (b + k)) (fun k => hsP (s.getD k ⟨none, none, none, false, 0, 0⟩)) (walk_o rfl T.lst) T.lst (by rw [List.length_range]; omega) fun k m => ⟨_, rfl, rfl, by
      obtain ⟨x, ex⟩ := at_of (s := s) (List.mem_range.mp m)
      have eg : s.getD k ⟨none, none, none, false, 0, 0⟩ = x := by rw [List.getD_eq_getElem?_getD, ex]; rfl
      have tk := T.at_ k x ex
      rw [eg]
      unfold mFld
      dsimp! [fR_up X tk, fR_left X tk, fR_right X tk, fR_turned X tk, fR_added X tk, fR_value X tk, l6]
      rfl⟩
    rw [e]
    congr 2
    refine List.ext_getElem? fun k => ?_
    rw [List.getElem?_map, List.getElem?_map]
    by_cases q : k < s.length
    · obtain ⟨x, ex⟩ := at_of q
      rw [List.getElem?_range q, ex]
      show some (hsP (s.getD k _)) = some (hsP x)
      rw [List.getD_eq_getElem?_getD, ex]; rfl
    · rw [List.getElem?_eq_none (by simpa using q), List.getElem?_eq_none (by omega)]; rfl
  unfold m_shape_of
  dsimp! [lc]
  rfl
theorem need_t {h : Nat} (hh : h < s.length) : mScope (m_need_house g) [.obj o, .dat (nv h)] S = .ok (.dat .non) S := by
  refine scope_u (t := []) ?_ rfl T.cl
  rw [List.append_nil]
  have e := house_ok g hh S
  have e' : mPure (m_is_house g) [.dat (.int (s.length : Int)), .dat (nv h)] S = .ok (.dat (.bl true)) S := e
  unfold m_need_house
  dsimp! [T.len, e']
end
section
variable {g : G} (X : Gx g) {s : Shp} (R : RS s)
include X R
theorem handed_on_t {h : Nat} (hh : h < s.length) (S : Store) : mPure (m_handed_on g) [.dat (shP s), .dat (nv h)] S = .ok (.dat (shP (handOn s h))) S := by
  obtain ⟨S', e, T, _⟩ := stands0 X R
  obtain ⟨S2, e2, T2, F⟩ := hand_on_t X T R hh
  obtain ⟨x, ex⟩ := at_of hh
  refine pure_dat rfl (S' := S2) ?_
  unfold m_handed_on
  dsimp! [e, need_t X T R hh, e2, shape_of_t X T2 (handOn_rs ex R)]
theorem turned_up_t {a h : Nat} (so : SonOf s a h) (S : Store) : mPure (m_turned_up g) [.dat (shP s), .dat (nv h)] S = .ok (.dat (shP (turnUp s h))) S := by
  obtain ⟨S', e, T, _⟩ := stands0 X R
  obtain ⟨x0, ex0, hx0⟩ := R.son a h so
  have hh := lt_at ex0
  obtain ⟨S2, e2, T2, F⟩ := turn_up_t X T R so
  have it := is_top_t X T R hh
  have sb : sonB s h = true := R.sonB.mpr ⟨a, so⟩
  refine pure_dat rfl (S' := S2) ?_
  unfold m_turned_up
  dsimp! [e, need_t X T R hh, it, sb, e2, shape_of_t X T2 (turnUp_rs R so).1]
end
end W3
namespace W3
open PySem PySem.Spec PyProof.Rows L2 M3
/-! ### drawn shapes are right -/
def Fresh (x : Hs) : Prop := x.up = none ∧ x.left = none ∧ x.right = none
structure Gd (od : List Nat) (i : Nat) (s : Shp) : Prop where
  fresh : ∀ (k c : Nat) (x : Hs), i ≤ k → od[k]? = some c → s[c]? = some x → Fresh x
  par : Par od (ups s)
  son : ∀ (u h : Nat), SonOf s u h → ∃ x, s[h]? = some x ∧ x.up = some u
  ne : ∀ (u c : Nat) (y : Hs), s[u]? = some y → y.left = some c → y.right ≠ some c
theorem set_at {s : Shp} {k j : Nat} {y z : Hs} (e : (s.set k y)[j]? = some z) : (j = k ∧ k < s.length ∧ z = y) ∨ (j ≠ k ∧ s[j]? = some z) := by
  by_cases c : k = j
  · subst c
    have hl : k < s.length := by have := lt_at e; rwa [List.length_set] at this
    rw [List.getElem?_set_self hl] at e
    exact .inl ⟨rfl, hl, (Option.some.inj e).symm⟩
  · rw [List.getElem?_set_ne c] at e
    exact .inr ⟨fun q => c q.symm, e⟩
theorem ups_set {s : Shp} {k : Nat} {y : Hs} : ups (s.set k y) = (ups s).set k y.up := by unfold ups; rw [List.map_set]
section
variable {od : List Nat} {i : Nat} {s : Shp} (G : Gd od i s) (nd : od.Nodup)
include G
theorem Gd.flags {c : Nat} {x y : Hs} (e : s[c]? = some x) (h : y.up = x.up ∧ y.left = x.left ∧ y.right = x.right) : Gd od i (s.set c y) := by
  have up : ups (s.set c y) = ups s := by
    rw [ups_set, h.1]
    refine List.ext_getElem? fun j => ?_
    by_cases q : c = j
    · subst q; rw [List.getElem?_set_self (by rw [ups_len]; exact lt_at e), ups_at e]
    · rw [List.getElem?_set_ne q]
  have old : ∀ {u h' : Nat}, SonOf (s.set c y) u h' → SonOf s u h' := fun {u h'} ⟨z, ez, hz⟩ => by
    rcases set_at ez with ⟨rfl, _, rfl⟩ | ⟨_, ez⟩
    · rw [h.2.1, h.2.2] at hz; exact ⟨x, e, hz⟩
    · exact ⟨z, ez, hz⟩
  refine ⟨fun k c' z hk hc ez => ?_, up ▸ G.par, fun u h' so => ?_, fun u c' z ez => ?_⟩
  · rcases set_at ez with ⟨rfl, _, rfl⟩ | ⟨_, ez⟩
    · have := G.fresh k _ x hk hc e
      exact ⟨h.1.trans this.1, h.2.1.trans this.2.1, h.2.2.trans this.2.2⟩
    · exact G.fresh k c' z hk hc ez
  · obtain ⟨w, ew, hw⟩ := G.son u h' (old so)
    by_cases q : c = h'
    · subst q
      rw [e] at ew
      cases ew
      exact ⟨y, List.getElem?_set_self (lt_at e), h.1.trans hw⟩
    · exact ⟨w, by rw [List.getElem?_set_ne q]; exact ew, hw⟩
  · rcases set_at ez with ⟨rfl, _, rfl⟩ | ⟨_, ez⟩
    · rw [h.2.1, h.2.2]; exact G.ne _ c' x e
    · exact G.ne u c' z ez
theorem Gd.succ : Gd od (i + 1) s := ⟨fun k c x hk => G.fresh k c x (by omega), G.par, G.son, G.ne⟩
include nd
theorem Gd.hang {j c p : Nat} {x : Hs} (ec : od[i]? = some c) (e : s[c]? = some x) (hj : j < i) (ep : od[j]? = some p) : Gd od (i + 1) (s.set c { x with up := some p }) := by
  have fx := G.fresh i c x (Nat.le_refl _) ec e
  have old : ∀ {u h' : Nat}, SonOf (s.set c { x with up := some p }) u h' → SonOf s u h' := fun {u h'} ⟨z, ez, hz⟩ => by
    rcases set_at ez with ⟨rfl, _, rfl⟩ | ⟨_, ez⟩
    · exact ⟨x, e, hz⟩
    · exact ⟨z, ez, hz⟩
  refine ⟨fun k c' z hk hc ez => ?_, ?_, fun u h' so => ?_, fun u c' z ez => ?_⟩
  · rcases set_at ez with ⟨rfl, _, rfl⟩ | ⟨_, ez⟩
    · have := nd_inj nd hc ec
      omega
    · exact G.fresh k c' z (by omega) hc ez
  · rw [ups_set]
    exact par_set G.par nd ec (by rw [ups_len]; exact lt_at e) (.inr ⟨j, p, hj, ep, rfl⟩)
  · obtain ⟨w, ew, hw⟩ := G.son u h' (old so)
    have : c ≠ h' := fun q => by
      subst q
      rw [e] at ew
      cases ew
      rw [fx.1] at hw
      cases hw
    exact ⟨w, by rw [List.getElem?_set_ne this]; exact ew, hw⟩
  · rcases set_at ez with ⟨rfl, _, rfl⟩ | ⟨_, ez⟩
    · exact G.ne _ c' x e
    · exact G.ne u c' z ez
/-- .. and takes a place -/
theorem Gd.take {j c p : Nat} {x y : Hs} {y' : Hs} (ec : od[i]? = some c) (e : s[c]? = some x) (hj : j < i) (ep : od[j]? = some p) (ey : s[p]? = some y)
    (hy : (y.left = none ∧ y' = { y with left := some c }) ∨ (y.right = none ∧ y' = { y with right := some c })) : Gd od (i + 1) ((s.set c { x with up := some p }).set p y') := by
  have G1 := G.hang nd ec e hj ep
  have fx := G.fresh i c x (Nat.le_refl _) ec e
  have pc : p ≠ c := fun q => by
    subst q
    have := nd_inj nd ec ep
    omega
  have ey1 : (s.set c { x with up := some p })[p]? = some y := by rw [List.getElem?_set_ne (fun q => pc q.symm)]; exact ey
  have ec1 : (s.set c { x with up := some p })[c]? = some { x with up := some p } := List.getElem?_set_self (lt_at e)
  have uy : y'.up = y.up := by rcases hy with ⟨_, rfl⟩ | ⟨_, rfl⟩ <;> rfl
  have noson : ∀ u, ¬ SonOf s u c := fun u so => by
    obtain ⟨w, ew, hw⟩ := G.son u c so
    rw [e] at ew
    cases ew
    rw [fx.1] at hw
    cases hw
  have up : ups ((s.set c { x with up := some p }).set p y') = ups (s.set c { x with up := some p }) := by
    rw [ups_set, uy]
    refine List.ext_getElem? fun j => ?_
    by_cases q : p = j
    · subst q; rw [List.getElem?_set_self (by rw [ups_len]; exact lt_at ey1), ups_at ey1]
    · rw [List.getElem?_set_ne q]
  refine ⟨fun k c' z hk hc ez => ?_, up ▸ G1.par, fun u h' so => ?_, fun u c' z ez => ?_⟩
  · rcases set_at ez with ⟨rfl, _, rfl⟩ | ⟨_, ez⟩
    · have := nd_inj nd hc ep
      omega
    · exact G1.fresh k c' z hk hc ez
  · have key : (u = p ∧ h' = c) ∨ SonOf (s.set c { x with up := some p }) u h' := by
      obtain ⟨z, ez, hz⟩ := so
      rcases set_at ez with ⟨rfl, _, rfl⟩ | ⟨_, ez⟩
      · rcases hy with ⟨_, rfl⟩ | ⟨_, rfl⟩
        · rcases hz with hz | hz
          · exact .inl ⟨rfl, (Option.some.inj hz).symm⟩
          · exact .inr ⟨y, ey1, .inr hz⟩
        · rcases hz with hz | hz
          · exact .inr ⟨y, ey1, .inl hz⟩
          · exact .inl ⟨rfl, (Option.some.inj hz).symm⟩
      · exact .inr ⟨z, ez, hz⟩
    rcases key with ⟨rfl, rfl⟩ | so
    · exact ⟨_, by rw [List.getElem?_set_ne pc]; exact ec1, rfl⟩
    · obtain ⟨w, ew, hw⟩ := G1.son u h' so
      by_cases q : p = h'
      · subst q
        rw [ey1] at ew
        cases ew
        exact ⟨y', List.getElem?_set_self (lt_at ey1), uy.trans hw⟩
      · exact ⟨w, by rw [List.getElem?_set_ne q]; exact ew, hw⟩
  · rcases set_at ez with ⟨rfl, _, rfl⟩ | ⟨_, ez⟩
    · rcases hy with ⟨_, rfl⟩ | ⟨_, rfl⟩
      · intro q q2
        have : c' = c := (Option.some.inj q).symm
        subst this
        exact noson u ⟨y, ey, .inr q2⟩
      · intro q q2
        have : c' = c := (Option.some.inj q2).symm
        subst this
        exact noson u ⟨y, ey, .inl q⟩
    · exact G1.ne u c' z ez
end
theorem Gd.rs {od : List Nat} {i : Nat} {s : Shp} (G : Gd od i s) (pm : od.Perm (List.range s.length)) (n1 : 1 ≤ s.length) (n64 : s.length ≤ 64) : RS s :=
  ⟨n1, n64, G.son, G.ne, par_tree G.par pm (ups_len)⟩
theorem house8 (g : G) (v : Int) (S : Store) : m_L_house g [.dat .non, .dat (.int v)] S = .ok (.obj S.length) (S ++ [rO ⟨none, none, none, false, 0, v⟩]) := by
  have l6 : (6 : Nat) ≤ 100000 := by decide
  unfold m_L_house
  dsimp! [l6]
  rfl
theorem found_lc (g : G) {δ : DEnv} (h0 : δ[0]? = some (some (.obj 0))) (h4 : 4 < δ.length) : ∀ (l : List D) (acc : List D) (h : O) (s : Shp), Hd h → acc.length + l.length ≤ 1000 → ∃ (h' : O) (s' : Shp), Hd h' ∧ s'.length = l.length ∧ (∀ x ∈ s', Fresh x) ∧
    mLcL (gmName 4) mYes (mDef 2 (m_L_house g) (mCons (mC .non) (mCons (mDef 1 (mScope (m_L_value g)) (mCons (mVar 0) mNil)) mNil))) [4] δ l acc (h :: s.map rO) = .ok (acc ++ ((List.range l.length).map fun k => .obj (1 + s.length + k))) (h' :: (s ++ s').map rO)
  | [], acc, h, s, H, _ => ⟨h, [], H, rfl, fun x m => (nomatch m), by simp [mLcL]⟩
  | d :: l, acc, h, s, H, hl => by
    have hc : Cs (s.map rO) := fun j w e => by
      rw [List.getElem?_map] at e
      cases q : s[j]? with
      | none => rw [q] at e; cases e
      | some x => rw [q] at e; cases e; rfl
    obtain ⟨v, h1, H1, e1⟩ := value8 g H hc
    rw [List.length_cons] at hl
    obtain ⟨h', s', H', ls, fr, e2⟩ := found_lc g h0 h4 l (acc ++ [.obj (1 + s.length)]) h1 (s ++ [⟨none, none, none, false, 0, v⟩]) H1 (by rw [List.length_append, List.length_singleton]; omega)
    refine ⟨h', ⟨none, none, none, false, 0, v⟩ :: s', H', by simp [ls], fun x m => ?_, ?_⟩
    · rcases List.mem_cons.mp m with rfl | m
      · exact ⟨rfl, rfl, rfl⟩
      · exact fr x m
    · have x0 : ((δ.set 4 none).set 4 (some d))[0]? = some (some (.obj 0)) := by rw [List.getElem?_set_ne (by decide), List.getElem?_set_ne (by decide)]; exact h0
      have e3 : mDef 2 (m_L_house g) (mCons (mC .non) (mCons (mDef 1 (mScope (m_L_value g)) (mCons (mVar 0) mNil)) mNil)) ((wipeD δ [4]).set 4 (some d)) (h :: s.map rO) = .ok (.obj (1 + s.length)) (h1 :: (s ++ [(⟨none, none, none, false, 0, v⟩ : Hs)]).map rO) := by
        show mDef 2 _ _ ((δ.set 4 none).set 4 (some d)) _ = _
        unfold mDef mCons mVar mC mNil
        simp only [x0, R.bind_ok, List.length_cons, List.length_nil, Nat.zero_add, if_true, e1, house8, Nat.reduceAdd]
        rw [List.map_append, List.length_map, Nat.add_comm s.length 1]
        rfl
      unfold mLcL
      show (R.ok _ _).bnf _ = _
      rw [R.bnf_ok]
      show (R.ok true _).bnf _ = _
      rw [R.bnf_ok]
      show R.bnf _ _ = _
      rw [e3, R.bnf_ok, if_pos (by omega), e2]
      rw [List.length_cons, List.range_succ_eq_map, List.map_cons, List.map_map, List.append_assoc, List.append_assoc]
      have : ((fun k => D.obj (1 + s.length + k)) ∘ Nat.succ) = (fun k => D.obj (1 + (s ++ [(⟨none, none, none, false, 0, v⟩ : Hs)]).length + k)) := by
        funext k
        show D.obj _ = D.obj _
        rw [List.length_append, List.length_singleton]
        congr 1
        omega
      rw [this]
      rfl
end W3
namespace W3
open PySem PySem.Spec PyProof.Rows L2 M3
theorem shape8 (g : G) {h : O} {n : Nat} (H : Hd h) (n1 : 1 ≤ n) (n64 : n ≤ 64) : ∃ (s : Shp) (h' : O), RS s ∧ s.length = n ∧ Hd h' ∧ mScope (m_L_shape g) [.obj 0, .dat (.int (n : Int))] [h] = .ok (.dat (shP s)) [h'] := by
  suffices z : ∃ d S', m_L_shape g [.obj 0, .dat (.int (n : Int))] [h] = .ok d S' ∧ ∃ (s : Shp) (h' : O), RS s ∧ s.length = n ∧ Hd h' ∧ d = .dat (shP s) ∧ ∃ t, S' = [h'] ++ t by
    obtain ⟨d, S', e, s, h', R, ls, H', rfl, t, rfl⟩ := z
    exact ⟨s, h', R, ls, H', scope_u e rfl (cs_hand H' cs_nil)⟩
  obtain ⟨od, h1, pm, H1, e1⟩ := shuf8 g H n64
  have lod : od.length = n := by rw [pm.length_eq, List.length_range]
  have nd : od.Nodup := pm.nodup_iff.mpr List.nodup_range
  have l6 : (6 : Nat) ≤ 100000 := by decide
  have l4 : (4 : Nat) ≤ 100000 := by decide
  obtain ⟨h2, s0, H2, ls0, fr0, e2⟩ := found_lc g (δ := [some (.obj 0), some (.dat (.int (n : Int))), some (.dat (.lst (od.map nv))), none, none, none, none, none, none, none, none, none]) rfl (by simp) ((List.range n).map fun k => .dat (nv k)) [] h1 [] H1 (by simp; omega)
  rw [List.length_map, List.length_range] at ls0 e2
  have lc : mLc (mRng1 (mCons (mVar 1) mNil)) (gmName 4) mYes (mDef 2 (m_L_house g) (mCons (mC .non) (mCons (mDef 1 (mScope (m_L_value g)) (mCons (mVar 0) mNil)) mNil))) [4] [some (.obj 0), some (.dat (.int (n : Int))), some (.dat (.lst (od.map nv))), none, none, none, none, none, none, none, none, none] [h1] = .ok ((List.range n).map fun k => .obj (1 + k)) (h2 :: s0.map rO) := by
    unfold mLc
    rw [rng0_ok (n := n) (S1 := [h1]) rfl (by omega), R.bind_ok]
    simp only []
    have e2' : mLcL (gmName 4) mYes (mDef 2 (m_L_house g) (mCons (mC .non) (mCons (mDef 1 (mScope (m_L_value g)) (mCons (mVar 0) mNil)) mNil))) [4] [some (.obj 0), some (.dat (.int (n : Int))), some (.dat (.lst (od.map nv))), none, none, none, none, none, none, none, none, none] ((List.range n).map fun k => .dat (nv k)) [] [h1] = .ok ((List.range n).map fun k => .obj (1 + k)) (h2 :: s0.map rO) := e2
    rw [e2', R.bnf_ok]
  have ln : (h2 :: s0.map rO).length = n + 1 := by simp [ls0]
  have st0 : (h2 :: s0.map rO) ++ [O.lst ((List.range n).map fun k => .obj (1 + k))] = Sh h2 s0 := by unfold Sh; rw [ls0]; rfl
  have cs : ∀ (s : Shp), Cs (s.map rO ++ [O.lst ((List.range s.length).map fun k => .obj (1 + k))]) := fun s => Sh_rest
  obtain ⟨kd, h3, hk, H3, e3⟩ := draw_s g H2 (n := 4) (by omega) (by omega) (cs s0)
  have e3' : mScope (m_L_draw g) [.obj 0, .dat (.int 4)] (Sh h2 s0) = .ok (.dat (.int (kd : Int))) (Sh h3 s0) := e3
  unfold m_L_shape
  rw [mBody_fin]
  refine fin_ends ?_
  dsimp! [e1, lc, ln, st0, e3']
  rw [for_items (rng0_ok (n := n) (by dsimp! [] <;> rfl) (by omega))]
  refine then_ends (Q1 := fun o S => ∃ (h : O) (s : Shp) (x6 x7 x8 x9 x10 : Option D), o = .nx [some (.obj 0), some (.dat (.int (n : Int))), some (.dat (.lst (od.map nv))), some (.obj (n + 1)), none, some (.dat (.int (kd : Int))), x6, x7, x8, x9, x10, none] ∧ S = Sh h s ∧ Hd h ∧ s.length = n ∧ Gd od n s) ?_ ?_
  · refine forL_ends (fun i δ S => ∃ (h : O) (s : Shp) (x6 x7 x8 x9 x10 : Option D), δ = [some (.obj 0), some (.dat (.int (n : Int))), some (.dat (.lst (od.map nv))), some (.obj (n + 1)), none, some (.dat (.int (kd : Int))), x6, x7, x8, x9, x10, none] ∧ S = Sh h s ∧ Hd h ∧ s.length = n ∧ Gd od i s) (i := 0) ⟨h3, s0, _, _, _, _, _, rfl, rfl, H3, ls0, ?_⟩ ?_ ?_
    · have fr : ∀ (c : Nat) (x : Hs), s0[c]? = some x → Fresh x := fun c x e => fr0 x (List.mem_of_getElem? e)
      have no : ∀ u c, ¬ SonOf s0 u c := fun u c ⟨y, ey, hy⟩ => by
        have := fr u y ey
        rw [this.2.1, this.2.2] at hy
        rcases hy with q | q <;> cases q
      refine ⟨fun k c x _ _ e => fr c x e, fun k q e => ?_, fun u c so => absurd so (no u c), fun u c y ey q => by rw [(fr u y ey).2.1] at q; cases q⟩
      have hq : q < s0.length := by
        have := pm.mem_iff.mp (List.mem_of_getElem? e)
        rw [ls0]
        simpa using this
      obtain ⟨x, ex⟩ := at_of hq
      exact .inl (by rw [ups_at ex, (fr q x ex).1])
    · rintro i d δ S hd ⟨h, s, x6, x7, x8, x9, x10, rfl, rfl, H, ls, Gs⟩
      rw [Nat.zero_add] at Gs
      rw [Nat.zero_add]
      rw [List.getElem?_map] at hd
      by_cases ci : i < n
      · rw [List.getElem?_range ci] at hd
        cases hd
        subst ls
        have ec : od[i]? = some od[i] := List.getElem?_eq_getElem (by omega)
        have inr : ∀ (k c : Nat), od[k]? = some c → c < s.length := fun k c e => by
          have := pm.mem_iff.mp (List.mem_of_getElem? e)
          simpa using this
        have hc := inr i _ ec
        generalize od[i] = c at ec hc
        obtain ⟨x, ex⟩ := at_of hc
        have xo : ∀ (S : Store) (k c : Nat), od[k]? = some c → aIx S (.dat (.lst (od.map nv))) (.dat (nv k)) = some (.dat (nv c)) := fun S k c e => ix_l (atN (map_get e))
        obtain ⟨t1, h4, ht1, H4, e4⟩ := draw_s g H (n := 3) (by omega) (by omega) (cs s)
        have e4' : mScope (m_L_draw g) [.obj 0, .dat (.int 3)] (Sh h s) = .ok (.dat (.int (t1 : Int))) (Sh h4 s) := e4
        have p1 := Sh_s3 (h := h4) ex (o := decide ((t1 : Int) = 0))
        have G1 := Gs.flags ex (y := { x with turned := decide ((t1 : Int) = 0) }) ⟨rfl, rfl, rfl⟩
        have ex1 : (s.set c { x with turned := decide ((t1 : Int) = 0) })[c]? = some { x with turned := decide ((t1 : Int) = 0) } := List.getElem?_set_self hc
        obtain ⟨t2, h5, ht2, H5, e5⟩ := draw_s g H4 (n := 6) (by omega) (by omega) (cs (s.set c { x with turned := decide ((t1 : Int) = 0) }))
        have e5' : mScope (m_L_draw g) [.obj 0, .dat (.int 6)] (Sh h4 (s.set c { x with turned := decide ((t1 : Int) = 0) })) = .ok (.dat (.int (t2 : Int))) (Sh h5 (s.set c { x with turned := decide ((t1 : Int) = 0) })) := e5
        obtain ⟨ad, ead⟩ : ∃ a : Int, ([.int 0, .int 0, .int 0, .int 1, .int (-7), .int 1000000000000000000] : List P)[t2]? = some (.int a) := by
          rcases t2 with _ | _ | _ | _ | _ | _ | k
          · exact ⟨_, rfl⟩
          · exact ⟨_, rfl⟩
          · exact ⟨_, rfl⟩
          · exact ⟨_, rfl⟩
          · exact ⟨_, rfl⟩
          · exact ⟨_, rfl⟩
          · omega
        have ix2 : ∀ S : Store, aIx S (.dat (.lst [.int 0, .int 0, .int 0, .int 1, .int (-7), .int 1000000000000000000])) (.dat (.int (t2 : Int))) = some (.dat (.int ad)) := fun S => ix_l (atN ead)
        have pw : ∀ S : Store, aPow S (.dat (.int 10)) (.dat (.int 18)) = some (.dat (.int 1000000000000000000)) := fun S => pow_ii (by decide) (by decide) (by decide)
        have p2 := Sh_s4 (h := h5) ex1 (o := ad)
        rw [List.set_set] at p2
        have G2 := G1.flags ex1 (y := { x with turned := decide ((t1 : Int) = 0), added := ad }) ⟨rfl, rfl, rfl⟩
        rw [List.set_set] at G2
        generalize hx2 : ({ x with turned := decide ((t1 : Int) = 0), added := ad } : Hs) = x2 at p2 G2
        have ex2 : (s.set c x2)[c]? = some x2 := List.getElem?_set_self hc
        have ls2 : (s.set c x2).length = s.length := List.length_set
        have ixm : ∀ (hh : O) (s' : Shp), s'.length = s.length → ∀ k, k < s.length → aIx (Sh hh s') (.obj (s.length + 1)) (.dat (nv k)) = some (.obj (1 + k)) := fun hh s' l k hk => by
          have := Sh_ix (h := hh) (s := s') (k := k) (by omega)
          rw [l] at this; exact this
        dsimp! [xo _ i c ec, ixm _ _ rfl c hc, e4', p1, l6, pw, e5', ix2, p2]
        by_cases c0 : (0 : Int) < (i : Int)
        · -- hang it somewhere
          have dg : decide ((0 : Int) < (i : Int)) = true := decide_eq_true c0
          have gt : ∀ S : Store, aGt S (.dat (nv i)) (.dat (.int 0)) = some (.dat (.bl (decide ((0 : Int) < (i : Int))))) := fun _ => rfl
          have mn : ∀ S : Store, aMin S [.dat (nv i), .dat (.int 2)] = some (.dat (.int (if (2 : Int) < (i : Int) then 2 else (i : Int)))) := fun _ => rfl
          obtain ⟨lim, hl1, hl2, elim⟩ : ∃ lim : Nat, 1 ≤ lim ∧ lim ≤ i ∧ ([nv i, .int (if (2 : Int) < (i : Int) then 2 else (i : Int)), .int 1, nv i] : List P)[kd]? = some (.int (lim : Int)) := by
            rcases kd with _ | _ | _ | _ | k
            · exact ⟨i, by omega, by omega, rfl⟩
            · by_cases q : (2 : Int) < (i : Int)
              · exact ⟨2, by omega, by omega, by rw [if_pos q]; rfl⟩
              · exact ⟨i, by omega, by omega, by rw [if_neg q]; rfl⟩
            · exact ⟨1, by omega, by omega, rfl⟩
            · exact ⟨i, by omega, by omega, rfl⟩
            · omega
          have ix3 : ∀ S : Store, aIx S (.dat (.lst [nv i, .int (if (2 : Int) < (i : Int) then 2 else (i : Int)), .int 1, nv i])) (.dat (.int (kd : Int))) = some (.dat (.int (lim : Int))) := fun S => ix_l (atN elim)
          obtain ⟨r, h6, hr, H6, e6⟩ := draw_s g H5 (n := (lim : Int)) (by omega) (by omega) (cs (s.set c x2))
          have e6' : mScope (m_L_draw g) [.obj 0, .dat (.int (lim : Int))] (Sh h5 (s.set c x2)) = .ok (.dat (.int (r : Int))) (Sh h6 (s.set c x2)) := e6
          have sb : ∀ S : Store, aSub S (.dat (nv i)) (.dat (.int 1)) = some (.dat (.int ((i : Int) - 1))) := fun _ => rfl
          have ej : (i : Int) - 1 - (r : Int) = ((i - 1 - r : Nat) : Int) := by omega
          have hj : i - 1 - r < i := by omega
          have ep : od[i - 1 - r]? = some od[i - 1 - r] := List.getElem?_eq_getElem (by omega)
          have hp := inr _ _ ep
          generalize od[i - 1 - r] = p at ep hp
          have pc : p ≠ c := fun q => by
            subst q
            have := nd_inj nd ec ep
            omega
          obtain ⟨y, ey⟩ := at_of hp
          have ey2 : (s.set c x2)[p]? = some y := by rw [List.getElem?_set_ne (fun q => pc q.symm)]; exact ey
          obtain ⟨sd, h7, hsd, H7, e7⟩ := draw_s g H6 (n := 2) (by omega) (by omega) (cs (s.set c x2))
          have e7' : mScope (m_L_draw g) [.obj 0, .dat (.int 2)] (Sh h6 (s.set c x2)) = .ok (.dat (.int (sd : Int))) (Sh h7 (s.set c x2)) := e7
          obtain ⟨d8, h8, hd8, H8, e8⟩ := draw_s g H7 (n := 8) (by omega) (by omega) (cs (s.set c x2))
          have e8' : mScope (m_L_draw g) [.obj 0, .dat (.int 8)] (Sh h7 (s.set c x2)) = .ok (.dat (.int (d8 : Int))) (Sh h8 (s.set c x2)) := e8
          have xp := fun S => xo S (i - 1 - r) p ep
          have xp' : ∀ S : Store, aIx S (.dat (.lst (od.map nv))) (.dat (.int ((i - 1 - r : Nat) : Int))) = some (.dat (nv p)) := xp
          by_cases c8 : (0 : Int) < (d8 : Int)
          · have G3 := G2.hang nd ec ex2 hj ep
            have p3 := Sh_s0 (h := h8) ex2 (o := some p)
            rw [List.set_set] at p3 G3
            have p3' : setD (.obj (1 + c)) (.dat (.int 0)) (.dat (nv p)) (Sh h8 (s.set c x2)) = some (Sh h8 (s.set c { x2 with up := some p })) := p3
            have ey3 : (s.set c { x2 with up := some p })[p]? = some y := by rw [List.getElem?_set_ne (fun q => pc q.symm)]; exact ey
            have ls3 : (s.set c { x2 with up := some p }).length = s.length := List.length_set
            obtain ⟨d4, h9, hd4, H9, e9⟩ := draw_s g H8 (n := 4) (by omega) (by omega) (cs (s.set c { x2 with up := some p }))
            have e9' : mScope (m_L_draw g) [.obj 0, .dat (.int 4)] (Sh h8 (s.set c { x2 with up := some p })) = .ok (.dat (.int (d4 : Int))) (Sh h9 (s.set c { x2 with up := some p })) := e9
            have nnv : ∀ (S : Store) (q : Nat), aIsN S (.dat (ov (some q))) (.dat .non) = some (.dat (.bl false)) := fun _ _ => rfl
            have nno : ∀ (S : Store), aIsN S (.dat (ov none)) (.dat .non) = some (.dat (.bl true)) := fun _ => rfl
            have side : sd = 0 ∨ sd = 1 := by omega
            rcases side with rfl | rfl
            · have e11 : (1 : Int) + ((0 : Nat) : Int) = 1 := rfl
              cases hyl : y.left with
              | some q =>
                dsimp! [gt, dg, mn, l4, ix3, e6', sb, ej, xp', ixm _ _ ls2 p hp, e7', e11, e8', decide_eq_true c8, p3', Sh_1 ey3, hyl, nnv]
                exact .of (tm ⟨h8, _, _, _, _, _, _, rfl, rfl, H8, ls3, G3⟩)
              | none =>
                by_cases c4 : (0 : Int) < (d4 : Int)
                · have p4 := Sh_s1 (h := h9) ey3 (o := some c)
                  have p4' : setD (.obj (1 + p)) (.dat (.int 1)) (.dat (nv c)) (Sh h9 (s.set c { x2 with up := some p })) = some (Sh h9 ((s.set c { x2 with up := some p }).set p { y with left := some c })) := p4
                  dsimp! [gt, dg, mn, l4, ix3, e6', sb, ej, xp', ixm _ _ ls2 p hp, e7', e11, e8', decide_eq_true c8, p3', Sh_1 ey3, hyl, nno, e9', decide_eq_true c4, xo _ i c ec, p4']
                  have G4 := G2.take nd ec ex2 hj ep ey2 (.inl ⟨hyl, rfl⟩)
                  rw [List.set_set] at G4
                  exact .of (tm ⟨h9, _, _, _, _, _, _, rfl, rfl, H9, by rw [List.length_set, List.length_set], G4⟩)
                · dsimp! [gt, dg, mn, l4, ix3, e6', sb, ej, xp', ixm _ _ ls2 p hp, e7', e11, e8', decide_eq_true c8, p3', Sh_1 ey3, hyl, nno, e9', decide_eq_false c4]
                  exact .of (tm ⟨h9, _, _, _, _, _, _, rfl, rfl, H9, ls3, G3⟩)
            · have e11 : (1 : Int) + ((1 : Nat) : Int) = 2 := rfl
              cases hyl : y.right with
              | some q =>
                dsimp! [gt, dg, mn, l4, ix3, e6', sb, ej, xp', ixm _ _ ls2 p hp, e7', e11, e8', decide_eq_true c8, p3', Sh_2 ey3, hyl, nnv]
                exact .of (tm ⟨h8, _, _, _, _, _, _, rfl, rfl, H8, ls3, G3⟩)
              | none =>
                by_cases c4 : (0 : Int) < (d4 : Int)
                · have p4 := Sh_s2 (h := h9) ey3 (o := some c)
                  have p4' : setD (.obj (1 + p)) (.dat (.int 2)) (.dat (nv c)) (Sh h9 (s.set c { x2 with up := some p })) = some (Sh h9 ((s.set c { x2 with up := some p }).set p { y with right := some c })) := p4
                  dsimp! [gt, dg, mn, l4, ix3, e6', sb, ej, xp', ixm _ _ ls2 p hp, e7', e11, e8', decide_eq_true c8, p3', Sh_2 ey3, hyl, nno, e9', decide_eq_true c4, xo _ i c ec, p4']
                  have G4 := G2.take nd ec ex2 hj ep ey2 (.inr ⟨hyl, rfl⟩)
                  rw [List.set_set] at G4
                  exact .of (tm ⟨h9, _, _, _, _, _, _, rfl, rfl, H9, by rw [List.length_set, List.length_set], G4⟩)
                · dsimp! [gt, dg, mn, l4, ix3, e6', sb, ej, xp', ixm _ _ ls2 p hp, e7', e11, e8', decide_eq_true c8, p3', Sh_2 ey3, hyl, nno, e9', decide_eq_false c4]
                  exact .of (tm ⟨h9, _, _, _, _, _, _, rfl, rfl, H9, ls3, G3⟩)
          · dsimp! [gt, dg, mn, l4, ix3, e6', sb, ej, xp', ixm _ _ ls2 p hp, e7', e8', decide_eq_false c8]
            exact .of (tm ⟨h8, _, _, _, _, _, _, rfl, rfl, H8, ls2, G2.succ⟩)
        · have dg : decide ((0 : Int) < (i : Int)) = false := decide_eq_false c0
          have gt : ∀ S : Store, aGt S (.dat (nv i)) (.dat (.int 0)) = some (.dat (.bl (decide ((0 : Int) < (i : Int))))) := fun _ => rfl
          dsimp! [gt, dg]
          exact .of (tm ⟨h5, _, _, _, _, _, _, rfl, rfl, H5, ls2, G2.succ⟩)
      · rw [List.getElem?_eq_none (by simpa using ci)] at hd; cases hd
    · rintro δ S ⟨h, s, x6, x7, x8, x9, x10, rfl, rfl, H, ls, Gs⟩
      exact ⟨h, s, x6, x7, x8, x9, x10, rfl, rfl, H, ls, by simpa using Gs⟩
  · rintro o S ⟨h, s, x6, x7, x8, x9, x10, rfl, rfl, H, ls, Gs⟩
    subst ls
    have lc2 : mLc (mWalk (mVar 3)) (gmName 11) mYes (mCall aTuple (mCons (mVar 11) mNil)) [11] [some (.obj 0), some (.dat (.int (s.length : Int))), some (.dat (.lst (od.map nv))), some (.obj (s.length + 1)), none, some (.dat (.int (kd : Int))), x6, x7, x8, x9, x10, none] (Sh h s) = .ok ((s.map hsP).map .dat) (Sh h s) := by
      have e := lc_ob (S := Sh h s) (S1 := Sh h s) (o := s.length + 1) (gm := gmName 11) (t := mYes) (e := mCall aTuple (mCons (mVar 11) mNil)) (vs := [11]) (δ := [some (.obj 0), some (.dat (.int (s.length : Int))), some (.dat (.lst (od.map nv))), some (.obj (s.length + 1)), none, some (.dat (.int (kd : Int))), x6, x7, x8, x9, x10, none]) (w := mWalk (mVar 3)) (xs := List.range s.length) (fun k => .obj (1 + k)) (fun k => hsP (s.getD k ⟨none, none, none, false, 0, 0⟩)) (walk_o rfl Sh_lst) Sh_lst (by rw [List.length_range]; omega) fun k m => ⟨_, rfl, rfl, by
        obtain ⟨x, ex⟩ := at_of (s := s) (List.mem_range.mp m)
        have eg : s.getD k ⟨none, none, none, false, 0, 0⟩ = x := by rw [List.getD_eq_getElem?_getD, ex]; rfl
        have tp : aTuple (Sh h s) [.obj (1 + k)] = some (.dat (hsP x)) := tuple_o (Sh_row ex)
        rw [eg]
        dsimp! [tp]⟩
      rw [e]
      congr 2
      refine List.ext_getElem? fun k => ?_
      rw [List.getElem?_map, List.getElem?_map]
      by_cases q : k < s.length
      · obtain ⟨x, ex⟩ := at_of q
        rw [List.getElem?_range q, ex]
        show some (hsP (s.getD k _)) = some (hsP x)
        rw [List.getD_eq_getElem?_getD, ex]; rfl
      · rw [List.getElem?_eq_none (by simpa using q), List.getElem?_eq_none (by omega)]; rfl
    dsimp! [lc2]
    exact .of ⟨_, rfl, s, h, Gs.rs pm n1 n64, rfl, H, rfl, _, rfl⟩
end W3
namespace W3
open PySem PySem.Spec PyProof.Rows L2 M3
/-! ### rows compared -/
def eqB (l k : List P) : Bool := PyData.eqvAll (toPys l) (toPys k)
theorem eq_tt {S : Store} {l k : List P} (h1 : okDs 59 l = true) (h2 : okDs 59 k = true) : aEq S (.dat (.tup l)) (.dat (.tup k)) = some (.dat (.bl (eqB l k))) := by
  have e : eqD S (.dat (.tup l)) (.dat (.tup k)) = some (eqB l k) := by
    show (if okD 60 (.tup l) = true ∧ okD 60 (.tup k) = true then some (eqP (.tup l) (.tup k)) else none) = _
    rw [if_pos ⟨by rw [okD]; exact h1, by rw [okD]; exact h2⟩]
    unfold eqP
    rw [toPy, toPy, PyData.eqv]
    rfl
  show (eqD S (.dat (.tup l)) (.dat (.tup k))).map dBl = _
  rw [e]; rfl
theorem ok_ovs : ∀ {n : Nat} (ps : List (Option Nat)), okDs (n + 1) (ps.map ov) = true
  | n, [] => by rw [List.map_nil, okDs]
  | n, none :: ps => by rw [List.map_cons, okDs, ok_ovs ps]; show (okD (n + 1) .non && true) = true; rw [okD]; rfl
  | n, some q :: ps => by rw [List.map_cons, okDs, ok_ovs ps]; show (okD (n + 1) (.int q) && true) = true; rw [okD]; rfl
theorem ok_ints : ∀ {n : Nat} (ps : List Int), okDs (n + 1) (ps.map .int) = true
  | n, [] => by rw [List.map_nil, okDs]
  | n, q :: ps => by rw [List.map_cons, okDs, ok_ints ps, okD]; rfl
theorem eqB_ovs : ∀ (ps : List (Option Nat)), eqB (ps.map ov) (ps.map ov) = true
  | [] => rfl
  | none :: ps => by
    have h := eqB_ovs ps
    unfold eqB at h ⊢
    rw [List.map_cons, toPys, PyData.eqvAll, h]; rfl
  | some q :: ps => by
    have h := eqB_ovs ps
    unfold eqB at h ⊢
    rw [List.map_cons, toPys, PyData.eqvAll, h]
    show (((q : Int) == (q : Int)) && true) = true
    simp
theorem eqB_ints : ∀ (ps : List Int), eqB (ps.map .int) (ps.map .int) = true
  | [] => rfl
  | q :: ps => by
    have h := eqB_ints ps
    unfold eqB at h ⊢
    rw [List.map_cons, toPys, PyData.eqvAll, h]
    show ((q == q) && true) = true
    simp
theorem eqB_two {a b c d : List P} : eqB [.tup a, .tup b] [.tup c, .tup d] = (eqB a c && eqB b d) := by
  unfold eqB
  rw [toPys, toPys, toPys, toPys, toPys, toPys, PyData.eqvAll, PyData.eqvAll, PyData.eqvAll, toPy, toPy, toPy, toPy, PyData.eqv, PyData.eqv, Bool.and_true]
theorem ok_two {n : Nat} {a b : List P} (h1 : okDs n a = true) (h2 : okDs n b = true) : okDs (n + 1) [.tup a, .tup b] = true := by
  rw [okDs, okDs, okDs, okD, okD, h1, h2]; rfl
end W3
namespace W3
open PySem PySem.Spec PyProof.Rows L2 M3
/-! ### a shape of lists, by the law -/
def SL (s : Shp) : Store := s.map rO ++ [.lst ((List.range s.length).map fun k => .obj k)]
section
variable {s : Shp}
theorem SL_len : (SL s).length = s.length + 1 := by unfold SL; simp
theorem SL_row {k : Nat} {x : Hs} (e : s[k]? = some x) : (SL s)[k]? = some (rO x) := by
  unfold SL
  rw [List.getElem?_append_left (by rw [List.length_map]; exact lt_at e), List.getElem?_map, e]; rfl
theorem SL_lst : (SL s)[s.length]? = some (.lst ((List.range s.length).map fun k => .obj k)) := by
  unfold SL
  rw [List.getElem?_append_right (by rw [List.length_map]; exact Nat.le_refl _)]; simp
theorem SL_ix {k : Nat} (hk : k < s.length) : aIx (SL s) (.obj s.length) (.dat (nv k)) = some (.obj k) := ix_o SL_lst (atN (by rw [List.getElem?_map, List.getElem?_range hk]; rfl))
theorem SL_set {k : Nat} {x y : Hs} (e : s[k]? = some x) : (SL s).set k (rO y) = SL (s.set k y) := by
  unfold SL
  rw [List.set_append_left _ _ (by rw [List.length_map]; exact lt_at e), List.map_set, List.length_set]
theorem SL_cs : ∀ (j : Nat) (w : O), (SL s)[j]? = some w → O.lt (SL s).length w = true := fun j w e => by
  rw [SL_len]
  unfold SL at e
  by_cases c : j < s.length
  · rw [List.getElem?_append_left (by rw [List.length_map]; exact c), List.getElem?_map] at e
    cases q : s[j]? with
    | none => rw [q] at e; cases e
    | some x => rw [q] at e; cases e; rfl
  · rw [List.getElem?_append_right (by rw [List.length_map]; omega)] at e
    have := List.mem_singleton.mp (List.mem_of_getElem? e)
    subst this
    show List.all _ _ = true
    rw [List.all_map]
    refine List.all_eq_true.mpr fun k m => ?_
    have := List.mem_range.mp m
    exact decide_eq_true (by omega)
variable {k : Nat} {x : Hs} (e : s[k]? = some x)
include e
theorem SL_0 : aIx (SL s) (.obj k) (.dat (.int 0)) = some (.dat (ov x.up)) := ix_o (SL_row e) rfl
theorem SL_1 : aIx (SL s) (.obj k) (.dat (.int 1)) = some (.dat (ov x.left)) := ix_o (SL_row e) rfl
theorem SL_2 : aIx (SL s) (.obj k) (.dat (.int 2)) = some (.dat (ov x.right)) := ix_o (SL_row e) rfl
theorem SL_3 : aIx (SL s) (.obj k) (.dat (.int 3)) = some (.dat (.bl x.turned)) := ix_o (SL_row e) rfl
theorem SL_4 : aIx (SL s) (.obj k) (.dat (.int 4)) = some (.dat (.int x.added)) := ix_o (SL_row e) rfl
theorem SL_5 : aIx (SL s) (.obj k) (.dat (.int 5)) = some (.dat (.int x.value)) := ix_o (SL_row e) rfl
theorem SL_13 : aSl (SL s) (.obj k) (some 1) (some 3) = some (.dat (.lst [ov x.left, ov x.right])) := by
  show (listP (SL s) (.obj k)).map _ = _
  rw [listP_o (SL_row e)]; rfl
theorem SL_s0 {o : Option Nat} : setD (.obj k) (.dat (.int 0)) (.dat (ov o)) (SL s) = some (SL (s.set k { x with up := o })) := by
  rw [setD_o (k := 0) (SL_row e) rfl]
  exact congrArg some (SL_set (y := { x with up := o }) e)
theorem SL_s1 {o : Option Nat} : setD (.obj k) (.dat (.int 1)) (.dat (ov o)) (SL s) = some (SL (s.set k { x with left := o })) := by
  rw [setD_o (k := 1) (SL_row e) rfl]
  exact congrArg some (SL_set (y := { x with left := o }) e)
theorem SL_s2 {o : Option Nat} : setD (.obj k) (.dat (.int 2)) (.dat (ov o)) (SL s) = some (SL (s.set k { x with right := o })) := by
  rw [setD_o (k := 2) (SL_row e) rfl]
  exact congrArg some (SL_set (y := { x with right := o }) e)
theorem SL_s3 {o : Bool} : setD (.obj k) (.dat (.int 3)) (.dat (.bl o)) (SL s) = some (SL (s.set k { x with turned := o })) := by
  rw [setD_o (k := 3) (SL_row e) rfl]
  exact congrArg some (SL_set (y := { x with turned := o }) e)
theorem SL_s4 {o : Int} : setD (.obj k) (.dat (.int 4)) (.dat (.int o)) (SL s) = some (SL (s.set k { x with added := o })) := by
  rw [setD_o (k := 4) (SL_row e) rfl]
  exact congrArg some (SL_set (y := { x with added := o }) e)
theorem SL_s5 {o : Int} : setD (.obj k) (.dat (.int 5)) (.dat (.int o)) (SL s) = some (SL (s.set k { x with value := o })) := by
  rw [setD_o (k := 5) (SL_row e) rfl]
  exact congrArg some (SL_set (y := { x with value := o }) e)
end
theorem l_listed (g : G) {s : Shp} (n64 : s.length ≤ 64) : m_L_listed g [.dat (shP s)] [] = .ok (.obj s.length) (SL s) := by
  have lc : mLc (mWalk (mVar 0)) (gmName 1) mYes (mTrk (mList (mCons (mVar 1) mNil))) [1] [some (.dat (shP s)), none] [] = .ok ((List.range s.length).map fun k => .obj (0 + k)) ([] ++ s.map rO) := by
    unfold mLc
    rw [walk_t (l := s.map hsP) (S1 := []) rfl, M3.R.bind_ok]
    simp only []
    rw [List.map_map, lcL_new (D.dat ∘ hsP) rO (by simp; omega) fun x m S => ⟨_, rfl, rfl, rfl⟩, M3.R.bnf_ok]
    rfl
  simp only [Nat.zero_add, List.nil_append] at lc
  unfold m_L_listed
  dsimp! [lc, List.length_map]
  rfl
theorem l_tupled (g : G) {s : Shp} (n64 : s.length ≤ 64) : mScope (m_L_tupled g) [.obj s.length] (SL s) = .ok (.dat (shP s)) (SL s) := by
  refine scope_u (t := []) ?_ rfl SL_cs
  rw [List.append_nil]
  have lc : mLc (mWalk (mVar 0)) (gmName 1) mYes (mCall aTuple (mCons (mVar 1) mNil)) [1] [some (.obj s.length), none] (SL s) = .ok ((s.map hsP).map .dat) (SL s) := by
    have e := lc_ob (S := SL s) (S1 := SL s) (o := s.length) (gm := gmName 1) (t := mYes) (e := mCall aTuple (mCons (mVar 1) mNil)) (vs := [1]) (δ := [some (.obj s.length), none]) (w := mWalk (mVar 0)) (xs := List.range s.length) (fun k => .obj k) (fun k => hsP (s.getD k ⟨none, none, none, false, 0, 0⟩)) (walk_o rfl SL_lst) SL_lst (by rw [List.length_range]; omega) fun k m => ⟨_, rfl, rfl, by
      obtain ⟨x, ex⟩ := at_of (s := s) (List.mem_range.mp m)
      have eg : s.getD k ⟨none, none, none, false, 0, 0⟩ = x := by rw [List.getD_eq_getElem?_getD, ex]; rfl
      rw [eg]
      have tp : aTuple (SL s) [.obj k] = some (.dat (hsP x)) := by
        show (listP (SL s) (.obj k)).map _ = _
        rw [listP_o (SL_row ex)]; rfl
      dsimp! [tp]⟩
    rw [e]
    congr 2
    refine List.ext_getElem? fun k => ?_
    rw [List.getElem?_map, List.getElem?_map]
    by_cases q : k < s.length
    · obtain ⟨x, ex⟩ := at_of q
      rw [List.getElem?_range q, ex]
      show some (hsP (s.getD k _)) = some (hsP x)
      rw [List.getD_eq_getElem?_getD, ex]; rfl
    · rw [List.getElem?_eq_none (by simpa using q), List.getElem?_eq_none (by omega)]; rfl
  unfold m_L_tupled
  have tp : aTuple (SL s) [.dat (.lst (s.map hsP))] = some (.dat (shP s)) := tuple_l
  dsimp! [lc, tp]
section
variable (g : G) {s : Shp} (R : RS s)
include R
theorem l_hand_on {h : Nat} (hh : h < s.length) : mScope (m_L_hand_on g) [.obj s.length, .dat (nv h)] (SL s) = .ok (.dat .non) (SL (handOn s h)) := by
  obtain ⟨x, e⟩ := at_of hh
  obtain ⟨nd, nh⟩ := sons_nd R e
  have n64 := R.n64
  have lt : ∀ c ∈ sonsL x, c < s.length := fun c m => by
    obtain ⟨y, ey, _⟩ := R.son h c ⟨x, e, sonsL_mem.mp m⟩
    exact lt_at ey
  have l1 : (handOn s h).length = s.length := handOn_len e
  suffices z : ∃ d S', m_L_hand_on g [.obj s.length, .dat (nv h)] (SL s) = .ok d S' ∧ d = .dat .non ∧ S' = SL (hSteps s h x) by
    obtain ⟨d, S', e1, rfl, rfl⟩ := z
    rw [hSteps_eq R e] at e1
    exact scope_u (t := []) (by rw [List.append_nil]; exact e1) (by rw [SL_len, SL_len, l1]) SL_cs
  have l2 : (2 : Nat) ≤ 100000 := by decide
  have lc : mLc (mWalk (mSl (mVar 2) (moS (mC (.int 1))) (moS (mC (.int 3))))) (gmName 4) (mTst (mOp aNotN (mVar 4) (mC .non))) (mVar 4) [4] [some (.obj s.length), some (.dat (nv h)), some (.obj h), none, none, none] (SL s) = .ok (((sonsL x).map nv).map .dat) (SL s) := by
    have w : mWalk (mSl (mVar 2) (moS (mC (.int 1))) (moS (mC (.int 3)))) [some (.obj s.length), some (.dat (nv h)), some (.obj h), none, none, none] (SL s) = .ok (.items (([x.left, x.right].map ov).map .dat)) (SL s) := walk_l (l := [x.left, x.right].map ov) (by
      unfold mSl moS
      dsimp! [SL_13 e])
    rw [List.map_map] at w
    have ee := lc_items (w := mWalk (mSl (mVar 2) (moS (mC (.int 1))) (moS (mC (.int 3))))) (g := gmName 4) (t := mTst (mOp aNotN (mVar 4) (mC .non))) (e := mVar 4) (vs := [4]) (δ := [some (.obj s.length), some (.dat (nv h)), some (.obj h), none, none, none]) (S := SL s) (S1 := SL s) (fun d => match d with
      | .dat (.int c) => some (.dat (.int c))
      | _ => none) w (by simp) fun d m => ⟨_, rfl, ?_⟩
    · rw [ee]
      unfold sonsL
      cases x.left <;> cases x.right <;> rfl
    · obtain ⟨oo, mo, rfl⟩ := List.mem_map.mp m
      cases oo with
      | none => show mTst _ _ _ = _; dsimp! [Function.comp, ov]
      | some c => exact ⟨by dsimp! [Function.comp, ov], rfl⟩
  -- a walk over the sons
  have walk : ∀ (bd : DS) (f : Hs → Hs) (x4 x5 : Option D) (s0 : Shp), s0.length = s.length → (∀ (c : Nat) (y : Hs) (x5 : Option D) (s1 : Shp), c ∈ sonsL x → s1.length = s.length → s1[h]? = s0[h]? → s1[c]? = some y →
        bd [some (.obj s.length), some (.dat (nv h)), some (.obj h), some (.dat (.lst ((sonsL x).map nv))), some (.dat (nv c)), x5] (SL s1) = .ok (.nx [some (.obj s.length), some (.dat (nv h)), some (.obj h), some (.dat (.lst ((sonsL x).map nv))), some (.dat (nv c)), some (.obj c)]) (SL (s1.set c (f y)))) →
      Ends (mFor (mWalk (mVar 3)) (gmName 4) bd [some (.obj s.length), some (.dat (nv h)), some (.obj h), some (.dat (.lst ((sonsL x).map nv))), x4, x5] (SL s0)) fun o' S' => ∃ (x4 x5 : Option D), o' = .nx [some (.obj s.length), some (.dat (nv h)), some (.obj h), some (.dat (.lst ((sonsL x).map nv))), x4, x5] ∧ S' = SL ((sonsL x).foldl (fun s c => modAt s c f) s0) := by
    intro bd f x4 x5 s0 l0 hb
    rw [for_items (walk_l (l := (sonsL x).map nv) (S1 := SL s0) rfl)]
    refine forL_ends (fun i δ S' => ∃ (x4 x5 : Option D), δ = [some (.obj s.length), some (.dat (nv h)), some (.obj h), some (.dat (.lst ((sonsL x).map nv))), x4, x5] ∧ S' = SL (((sonsL x).take i).foldl (fun s c => modAt s c f) s0)) (i := 0) ⟨x4, x5, rfl, by simp⟩ ?_ ?_
    · rintro i d δ S' ed ⟨x4, x5, rfl, rfl⟩
      rw [Nat.zero_add, List.map_map, List.getElem?_map] at *
      cases ec : (sonsL x)[i]? with
      | none => rw [ec] at ed; cases ed
      | some c =>
        rw [ec] at ed
        cases ed
        have mc := List.mem_of_getElem? ec
        have hc := lt c mc
        have ln : (((sonsL x).take i).foldl (fun s c => modAt s c f) s0).length = s.length := by rw [foldM_len, l0]
        obtain ⟨y, ey⟩ := at_of (s := ((sonsL x).take i).foldl (fun s c => modAt s c f) s0) (h := c) (by rw [ln]; exact hc)
        have ndt : ((sonsL x).take i).Nodup := nd.sublist (List.take_sublist _ _)
        have e0 : (((sonsL x).take i).foldl (fun s c => modAt s c f) s0)[h]? = s0[h]? := by
          rw [foldM_at f h ndt, if_neg fun m => nh (List.mem_of_mem_take m)]
        have q := hb c y x5 _ mc ln e0 ey
        refine Ends.eq (.of (tm ⟨_, _, rfl, ?_⟩)) q
        rw [List.take_add_one, ec]
        show SL _ = SL (List.foldl _ s0 (List.take i (sonsL x) ++ [c]))
        rw [List.foldl_append, List.foldl_cons, List.foldl_nil, modAt_eq ey]
    · rintro δ S' ⟨x4, x5, rfl, rfl⟩
      exact ⟨x4, x5, rfl, by rw [List.take_of_length_le (by simp)]⟩
  unfold m_L_hand_on
  rw [mBody_fin]
  refine Exists.imp (fun d h => Exists.imp (fun S' h => ⟨h.1, h.2⟩) h) (fin_nx_ends ?_)
  dsimp! [SL_ix hh, lc]
  refine then_ends (Q1 := fun o' S' => ∃ (x4 x5 : Option D), o' = .nx [some (.obj s.length), some (.dat (nv h)), some (.obj h), some (.dat (.lst ((sonsL x).map nv))), x4, x5] ∧ S' = SL (if x.turned = true then (sonsL x).foldl (fun s c => modAt s c fun y => { y with turned := !y.turned }) (modAt s h fun z => { z with left := x.right, right := x.left, turned := false }) else s)) ?_ ?_
  · have f0 := SL_3 e
    cases ht : x.turned with
    | false =>
      rw [ht] at f0
      dsimp! [f0]
      exact .of ⟨_, _, rfl, by simp⟩
    | true =>
      have fl := SL_1 e
      have fr := SL_2 e
      have g1 := SL_s1 e (o := x.right)
      have e1 : (s.set h { x with left := x.right })[h]? = some { x with left := x.right } := List.getElem?_set_self hh
      have g2 := SL_s2 e1 (o := x.left)
      have e2 : ((s.set h { x with left := x.right }).set h { x with left := x.right, right := x.left })[h]? = some { x with left := x.right, right := x.left } := List.getElem?_set_self (by rw [List.length_set]; exact hh)
      have g3 := SL_s3 e2 (o := false)
      have es : ((s.set h { x with left := x.right }).set h { x with left := x.right, right := x.left }).set h { x with left := x.right, right := x.left, turned := false } = s.set h { x with left := x.right, right := x.left, turned := false } := by rw [List.set_set, List.set_set]
      have es' : ((s.set h { x with left := x.right }).set h { ({ x with left := x.right } : Hs) with right := x.left }).set h { ({ ({ x with left := x.right } : Hs) with right := x.left } : Hs) with turned := false } = s.set h { x with left := x.right, right := x.left, turned := false } := es
      rw [es'] at g3
      have em : modAt s h (fun z => { z with left := x.right, right := x.left, turned := false }) = s.set h { x with left := x.right, right := x.left, turned := false } := modAt_eq e fun z => { z with left := x.right, right := x.left, turned := false }
      have two : ([ov x.right, ov x.left] : List P).length = 2 := rfl
      rw [ht] at f0
      dsimp! [f0, fl, fr, l2, two, g1, g2, g3]
      refine (walk _ (fun y => { y with turned := !y.turned }) _ _ _ List.length_set (fun c y x5 s1 mc l4 _ ey => ?_)).mono fun o' S' ⟨x4, x5, q1, q2⟩ => ⟨x4, x5, q1, by rw [em]; exact q2⟩
      have ix : aIx (SL s1) (.obj s.length) (.dat (nv c)) = some (.obj c) := by rw [← l4]; exact SL_ix (lt_at ey)
      dsimp! [ix, SL_3 ey, SL_s3 ey]
  · rintro o' S' ⟨x4, x5, rfl, rfl⟩
    obtain ⟨s1, hs1⟩ : ∃ s1, s1 = (if x.turned = true then (sonsL x).foldl (fun s c => modAt s c fun y => { y with turned := !y.turned }) (modAt s h fun z => { z with left := x.right, right := x.left, turned := false }) else s) := ⟨_, rfl⟩
    rw [← hs1]
    have l1 : s1.length = s.length := by
      rw [hs1]
      split
      · rw [foldM_len, modAt_len]
      · rfl
    obtain ⟨z, ez, az⟩ : ∃ z : Hs, s1[h]? = some z ∧ z.added = x.added := by
      rw [hs1]
      split
      · rw [foldM_at _ _ nd, if_neg nh, modN e]; exact ⟨_, rfl, rfl⟩
      · exact ⟨x, e, rfl⟩
    dsimp! []
    refine then_ends (walk _ (fun y => { y with added := y.added + x.added, value := y.value + x.added }) _ _ _ l1 (fun c y x5 s2 mc l4 e0 ey => ?_)) ?_
    · have hc := lt c mc
      have hch : h ≠ c := fun q => nh (q ▸ mc)
      rw [ez] at e0
      have ix : aIx (SL s2) (.obj s.length) (.dat (nv c)) = some (.obj c) := by rw [← l4]; exact SL_ix (lt_at ey)
      have fa := SL_4 e0
      rw [az] at fa
      have fv := SL_4 ey
      have g1 := SL_s4 ey (o := y.added + x.added)
      have ey5 : (s2.set c { y with added := y.added + x.added })[c]? = some { y with added := y.added + x.added } := List.getElem?_set_self (by rw [l4]; exact hc)
      have ez5 : (s2.set c { y with added := y.added + x.added })[h]? = some z := by rw [List.getElem?_set_ne (fun q => hch q.symm)]; exact e0
      have fa5 := SL_4 ez5
      rw [az] at fa5
      have fy5 := SL_5 ey5
      have g2 := SL_s5 ey5 (o := y.value + x.added)
      have g2' : setD (.obj c) (.dat (.int 5)) (.dat (.int (y.value + x.added))) (SL (s2.set c { y with added := y.added + x.added })) = some (SL (s2.set c { y with added := y.added + x.added, value := y.value + x.added })) := by
        rw [g2, List.set_set]
      have ad : ∀ (S : Store) (i j : Int), aAdd S (.dat (.int i)) (.dat (.int j)) = some (.dat (.int (i + j))) := fun _ _ _ => rfl
      dsimp! [ix, fa, fv, ad, g1, fa5, fy5, g2']
    · rintro o' S' ⟨x4, x5, rfl, rfl⟩
      have l6 : ((sonsL x).foldl (fun s c => modAt s c fun y => { y with added := y.added + x.added, value := y.value + x.added }) s1).length = s.length := by rw [foldM_len, l1]
      obtain ⟨w, ew⟩ := at_of (s := (sonsL x).foldl (fun s c => modAt s c fun y => { y with added := y.added + x.added, value := y.value + x.added }) s1) (h := h) (by rw [l6]; exact hh)
      have g0 := SL_s4 ew (o := 0)
      dsimp! [g0]
      refine .of ⟨_, rfl, ?_⟩
      unfold hSteps
      rw [← hs1, modAt_eq ew]
end
end W3
namespace W3
open PySem PySem.Spec PyProof.Rows L2 M3
/-! ### rows, potential, resting: by the program -/
noncomputable def rwO (s : Shp) (t : Nat) : List P := open Classical in if h : ∃ l, Row s t l then hsL h.choose else []
theorem rwO_of {s : Shp} {t : Nat} {l : List (Nat × Int)} (r : Row s t l) : rwO s t = hsL l := by
  have e : ∃ l, Row s t l := ⟨l, r⟩
  unfold rwO
  rw [dif_pos e]
  have := e.choose_spec.2.2.det r.2.2
  rw [this]
def tps (s : Shp) : List Nat := (List.range s.length).filter fun k => !sonB s k
theorem tps_mem {s : Shp} (R : RS s) {t : Nat} (m : t ∈ tps s) : t < s.length ∧ ¬ Son s t ∧ sonB s t = false := by
  obtain ⟨a, b⟩ := List.mem_filter.mp m
  have b : sonB s t = false := by simpa using b
  exact ⟨List.mem_range.mp a, (fun z => by rw [R.sonB.mpr z] at b; cases b), b⟩
theorem fm_filter {α : Type} (f : Nat → α) (p : Nat → Bool) (l : List Nat) : l.filterMap (fun k => if p k = true then some (f k) else none) = (l.filter p).map f := by
  induction l with
  | nil => rfl
  | cons a l ih =>
    rw [List.filterMap_cons, List.filter_cons, ih]
    cases p a <;> rfl
end W3
namespace W3
open PySem PySem.Spec PyProof.Rows L2 M3
/-! ### the law's own readings of a shape -/
theorem Pt.rev {s : Shp} {d : Nat} {o : Option Nat} {b : Bool} {acc : Int} {l : List (Nat × Int)} (p : Pt s d o b acc l) : Pt s d o (!b) acc l.reverse := by
  induction p with
  | nil => exact .nil
  | @node d h x b acc l r e pl pr ih1 ih2 =>
    have hx : (!xor b x.turned) = xor (!b) x.turned := by cases b <;> cases x.turned <;> rfl
    rw [hx] at ih1 ih2
    have := Pt.node e ih1 ih2
    have eq : (if xor b x.turned = true then r ++ (h, x.value + acc) :: l else l ++ (h, x.value + acc) :: r).reverse = (if xor (!b) x.turned = true then r.reverse ++ (h, x.value + acc) :: l.reverse else l.reverse ++ (h, x.value + acc) :: r.reverse) := by
      cases b <;> cases x.turned <;> simp
    rw [eq]
    exact this
theorem hs0 {S : Store} {x : Hs} : aIx S (.dat (hsP x)) (.dat (.int 0)) = some (.dat (ov x.up)) := rfl
theorem hs1 {S : Store} {x : Hs} : aIx S (.dat (hsP x)) (.dat (.int 1)) = some (.dat (ov x.left)) := rfl
theorem hs2 {S : Store} {x : Hs} : aIx S (.dat (hsP x)) (.dat (.int 2)) = some (.dat (ov x.right)) := rfl
theorem hs3 {S : Store} {x : Hs} : aIx S (.dat (hsP x)) (.dat (.int 3)) = some (.dat (.bl x.turned)) := rfl
theorem hs4 {S : Store} {x : Hs} : aIx S (.dat (hsP x)) (.dat (.int 4)) = some (.dat (.int x.added)) := rfl
theorem hs5 {S : Store} {x : Hs} : aIx S (.dat (hsP x)) (.dat (.int 5)) = some (.dat (.int x.value)) := rfl
theorem hs13 {S : Store} {x : Hs} : aSl S (.dat (hsP x)) (some 1) (some 3) = some (.dat (.tup [ov x.left, ov x.right])) := rfl
theorem shP_len {S : Store} {s : Shp} : aLen S [.dat (shP s)] = some (.dat (.int (s.length : Int))) := by unfold shP; rw [len_t, List.length_map]
theorem ov_some {S : Store} {q : Nat} : aNotN S (.dat (ov (some q))) (.dat .non) = some (.dat (.bl true)) := rfl
theorem ov_none {S : Store} : aNotN S (.dat (ov none)) (.dat .non) = some (.dat (.bl false)) := rfl
section
variable {g : G} {s : Shp} (R : RS s)
include R
theorem l_is_son {h : Nat} (hh : h < s.length) (S : Store) : mPure (m_L_is_son g) [.dat (shP s), .dat (nv h)] S = .ok (.dat (.bl (sonB s h))) S := by
  obtain ⟨x, ex⟩ := at_of hh
  refine pure_dat rfl (S' := []) ?_
  unfold m_L_is_son mSl moS
  cases eu : x.up with
  | none =>
    have sb : sonB s h = false := by unfold sonB; rw [ex]; simp only [eu]
    dsimp! [hsP_at ex, hs0, eu, ov_none, sb]
  | some u =>
    have hu := R.up_lt ex eu
    obtain ⟨y, ey⟩ := at_of hu
    have sb : sonB s h = (decide (y.left = some h) || decide (y.right = some h)) := by unfold sonB; rw [ex]; simp only [eu, ey]
    have e1 : aIx ([] : Store) (.dat (shP s)) (.dat (ov (some u))) = some (.dat (hsP y)) := hsP_at ey
    dsimp! [hsP_at ex, hs0, eu, ov_some, e1, hs13, in_two, sb]
theorem l_tops (S : Store) : mPure (m_L_tops g) [.dat (shP s)] S = .ok (.dat (.lst ((tps s).map nv))) S := by
  have n64 := R.n64
  refine pure_dat rfl (S' := []) ?_
  have lc : mLc (mRng1 (mCons (mCall aLen (mCons (mVar 0) mNil)) mNil)) (gmName 1) (mNotT (mTst (mDef 2 (mPure (m_L_is_son g)) (mCons (mVar 0) (mCons (mVar 1) mNil))))) (mVar 1) [1] [some (.dat (shP s)), none] [] = .ok (((tps s).map nv).map .dat) [] := by
    rw [lc_map (xs := List.range s.length) (fun k => .dat (nv k)) (fun k => if (!sonB s k) = true then some (nv k) else none) (rng0_ok (n := s.length) (by dsimp! [shP_len] <;> rfl) (by omega)) (by rw [List.length_range]; omega) fun k m => ⟨_, rfl, by
      have hk := List.mem_range.mp m
      cases c : sonB s k with
      | true =>
        show mNotT _ _ _ = _
        dsimp! [l_is_son R hk, c]
      | false => exact ⟨by dsimp! [l_is_son R hk, c], by dsimp! []⟩⟩]
    rw [fm_filter]; rfl
  unfold m_L_tops
  dsimp! [lc]
theorem l_order {d : Nat} {o : Option Nat} {b : Bool} {acc : Int} {l : List (Nat × Int)} (p : Pt s d o b acc l) : ∀ {h : Nat}, o = some h → ∀ S, mPure (m_L_order g d) [.dat (shP s), .dat (nv h)] S = .ok (.dat (.lst (hsL (if b = true then l.reverse else l)))) S := by
  induction p with
  | nil => intro h e; cases e
  | @node d k x b acc l r e pl pr ih1 ih2 =>
    intro h eh S
    cases eh
    have lt : ∀ {c : Nat}, (x.left = some c ∨ x.right = some c) → c < s.length := fun {c} q => by
      obtain ⟨y, ey, _⟩ := R.son k c ⟨x, e, q⟩
      exact lt_at ey
    have ln : ∀ {o : Option Nat} {m : List (Nat × Int)} {acc : Int} {b : Bool}, Pt s d o b acc m → (∀ x, o = some x → x < s.length) → m.length ≤ 64 := fun {o m acc b} p ho => by
      have nd := R.nodup p ho
      have := W2.nodup_len (n := s.length) nd fun y m => by
        obtain ⟨z, mz, rfl⟩ := List.mem_map.mp m
        cases o with
        | none => cases p; cases mz
        | some x =>
          obtain ⟨_, y, _, ey, _⟩ := p.climb rfl z mz
          exact lt_at ey
      rw [List.length_map] at this
      have := R.n64
      omega
    have l1 := ln pl fun c q => lt (.inl q)
    have l2 := ln pr fun c q => lt (.inr q)
    -- the parts of the sons, read forward
    let L := if xor b x.turned = true then l.reverse else l
    let Q := if xor b x.turned = true then r.reverse else r
    have lL : L.length ≤ 64 := by show (if xor b x.turned = true then l.reverse else l).length ≤ 64; split; exact (by rw [List.length_reverse]; exact l1); exact l1
    have lQ : Q.length ≤ 64 := by show (if xor b x.turned = true then r.reverse else r).length ≤ 64; split; exact (by rw [List.length_reverse]; exact l2); exact l2
    have eq : hsL (if b = true then (if xor b x.turned = true then r ++ (k, x.value + acc) :: l else l ++ (k, x.value + acc) :: r).reverse else (if xor b x.turned = true then r ++ (k, x.value + acc) :: l else l ++ (k, x.value + acc) :: r)) = (if x.turned = true then (hsL L ++ [nv k] ++ hsL Q).reverse else hsL L ++ [nv k] ++ hsL Q) := by
      show _ = (if x.turned = true then (hsL (if xor b x.turned = true then l.reverse else l) ++ [nv k] ++ hsL (if xor b x.turned = true then r.reverse else r)).reverse else hsL (if xor b x.turned = true then l.reverse else l) ++ [nv k] ++ hsL (if xor b x.turned = true then r.reverse else r))
      unfold hsL
      cases b <;> cases x.turned <;> simp
    rw [eq]
    have o1 : (1 : Nat) ≤ 100000 := by decide
    have o0 : (0 : Nat) ≤ 100000 := by decide
    refine pure_dat rfl (S' := []) ?_
    have fin : ∀ (f : List P), f = hsL L ++ [nv k] ++ hsL Q → (pick2 x.turned (mRev (mVar 2)) (mVar 2) : DE) [some (.dat (shP s)), some (.dat (nv k)), some (.dat (.lst f))] [] = .ok (.dat (.lst (if x.turned = true then (hsL L ++ [nv k] ++ hsL Q).reverse else hsL L ++ [nv k] ++ hsL Q))) [] := fun f ef => by
      subst ef
      cases x.turned with
      | true => unfold mRev; dsimp! [listP_l] <;> rfl
      | false => dsimp! [] <;> rfl
    have a1 : ∀ (S : Store), aAdd S (.dat (.lst (hsL L))) (.dat (.lst [nv k])) = some (.dat (.lst (hsL L ++ [nv k]))) := fun S => add_ll (by rw [hsL_len]; simp; omega)
    have a2 : ∀ (S : Store), aAdd S (.dat (.lst (hsL L ++ [nv k]))) (.dat (.lst (hsL Q))) = some (.dat (.lst (hsL L ++ [nv k] ++ hsL Q))) := fun S => add_ll (by rw [List.length_append, hsL_len, hsL_len]; simp; omega)
    have eL : x.left = none → hsL L = [] := fun q => by
      rw [q] at pl; cases pl
      show hsL (if _ then _ else _) = _
      split <;> rfl
    have eQ : x.right = none → hsL Q = [] := fun q => by
      rw [q] at pr; cases pr
      show hsL (if _ then _ else _) = _
      split <;> rfl
    have ix := fun S => hsP_at (S := S) e
    unfold m_L_order
    cases cl : x.left with
    | none =>
      have e1 := eL cl
      rw [e1] at a1 a2
      have a1' : ∀ (S : Store), aAdd S (.dat (.lst [])) (.dat (.lst [nv k])) = some (.dat (.lst [nv k])) := a1
      cases cr : x.right with
      | none =>
        have e2 := eQ cr
        dsimp! [o0, o1, ix, hs1, hs2, hs3, cl, cr, ov_none, a1']
        rw [fin _ (by rw [e1, e2]; rfl)]; dsimp! []
      | some c =>
        have o2 : ∀ S, mPure (m_L_order g d) [.dat (shP s), .dat (ov (some c))] S = .ok (.dat (.lst (hsL Q))) S := fun S => ih2 cr S
        have a2' : ∀ (S : Store), aAdd S (.dat (.lst [nv k])) (.dat (.lst (hsL Q))) = some (.dat (.lst ([] ++ [nv k] ++ hsL Q))) := a2
        dsimp! [o0, o1, ix, hs1, hs2, hs3, cl, cr, ov_none, ov_some, a1', o2, a2']
        rw [fin _ (by rw [e1]; rfl)]; dsimp! []
    | some c1 =>
      have o3 : ∀ S, mPure (m_L_order g d) [.dat (shP s), .dat (ov (some c1))] S = .ok (.dat (.lst (hsL L))) S := fun S => ih1 cl S
      cases cr : x.right with
      | none =>
        have e2 := eQ cr
        dsimp! [o0, o1, ix, hs1, hs2, hs3, cl, cr, ov_none, ov_some, o3, a1]
        rw [fin _ (by rw [e2, List.append_nil])]
        dsimp! []
      | some c =>
        have o2 : ∀ S, mPure (m_L_order g d) [.dat (shP s), .dat (ov (some c))] S = .ok (.dat (.lst (hsL Q))) S := fun S => ih2 cr S
        dsimp! [o0, o1, ix, hs1, hs2, hs3, cl, cr, ov_none, ov_some, o3, a1, o2, a2]
        rw [fin _ rfl]; dsimp! []
theorem l_row {t : Nat} {l : List (Nat × Int)} (r : Row s t l) (S : Store) : mPure (m_L_order g 70) [.dat (shP s), .dat (nv t)] S = .ok (.dat (.lst (hsL l))) S := l_order R (r.2.2.mono (d' := 70) (by omega)) rfl S
end
end W3
namespace W3
open PySem PySem.Spec PyProof.Rows L2 M3
/-! ### alike, by the law -/
theorem isiT_of {K : PySem.W.Frag} {CS : List Addr} {S : Store} {x : D} {t : Value} {a b : Bool} (ht : tyD CS S x = some t) (h1 : PySem.W.kitOne K t (.type "tuple") = some a) (h2 : PySem.W.kitOne K t (.type "list") = some b) :
    aIsiT K CS S [x, .dat (.tup [.con (.ty "tuple"), .con (.ty "list")])] = some (.dat (.bl (a || b))) := by
  show (match tyD CS S x, clssD [.con (.ty "tuple"), .con (.ty "list")] with | some t, some us => (PySem.W.kitAny K t us).map dBl | _, _ => none) = _
  rw [ht]
  show (PySem.W.kitAny K t [.type "tuple", .type "list"]).map dBl = _
  unfold PySem.W.kitAny
  rw [h1]
  cases a with
  | true => rfl
  | false =>
    unfold PySem.W.kitAny
    simp only [h2]
    cases b <;> rfl
section
variable {K : PySem.W.Frag} {CS : List Addr} {S : Store}
theorem isiT_non : aIsiT K CS S [.dat .non, .dat (.tup [.con (.ty "tuple"), .con (.ty "list")])] = some (.dat (.bl false)) := isiT_of rfl (kit_ty (r := false) (by decide +kernel)) (kit_ty (r := false) (by decide +kernel))
theorem isiT_int {i : Int} : aIsiT K CS S [.dat (.int i), .dat (.tup [.con (.ty "tuple"), .con (.ty "list")])] = some (.dat (.bl false)) := isiT_of rfl (kit_ty (r := false) (by decide +kernel)) (kit_ty (r := false) (by decide +kernel))
theorem isiT_bl {i : Bool} : aIsiT K CS S [.dat (.bl i), .dat (.tup [.con (.ty "tuple"), .con (.ty "list")])] = some (.dat (.bl false)) := isiT_of rfl (kit_ty (r := false) (by decide +kernel)) (kit_ty (r := false) (by decide +kernel))
theorem isiT_str {i : Str} : aIsiT K CS S [.dat (.str i), .dat (.tup [.con (.ty "tuple"), .con (.ty "list")])] = some (.dat (.bl false)) := isiT_of rfl (kit_ty (r := false) (by decide +kernel)) (kit_ty (r := false) (by decide +kernel))
theorem isiT_tup {i : List P} : aIsiT K CS S [.dat (.tup i), .dat (.tup [.con (.ty "tuple"), .con (.ty "list")])] = some (.dat (.bl true)) := isiT_of rfl (kit_ty (r := true) (by decide +kernel)) (kit_ty (r := false) (by decide +kernel))
theorem isiT_lst {i : List P} : aIsiT K CS S [.dat (.lst i), .dat (.tup [.con (.ty "tuple"), .con (.ty "list")])] = some (.dat (.bl true)) := isiT_of rfl (kit_ty (r := false) (by decide +kernel)) (kit_ty (r := true) (by decide +kernel))
theorem eq_non {S : Store} : aEq S (.dat .non) (.dat .non) = some (.dat (.bl true)) := rfl
end
inductive OkI : Nat → P → Prop
  | non {d : Nat} : OkI (d + 1) .non
  | int {d : Nat} {i : Int} : OkI (d + 1) (.int i)
  | bl {d : Nat} {b : Bool} : OkI (d + 1) (.bl b)
  | str {d : Nat} {z : Str} : OkI (d + 1) (.str z)
  | tup {d : Nat} {l : List P} : l.length ≤ 100000 → (∀ p ∈ l, OkI d p) → OkI (d + 1) (.tup l)
theorem is_t (g : G) : ∀ (d : Nat) (p : P) (S : Store), OkI d p → mPure (m_L_is g d) [.dat p, .dat p] S = .ok (.dat (.bl true)) S := by
  intro d
  induction d with
  | zero => intro p S h; cases h
  | succ d ih =>
    intro p S h
    refine pure_dat rfl (S' := []) ?_
    have o2 : (2 : Nat) ≤ 100000 := by decide
    have dt : ∀ b : Bool, decide (b = b) = true := fun b => decide_eq_true rfl
    unfold m_L_is
    cases h with
    | non => dsimp! [o2, isiT_non, dt, eq_non]
    | @int _ i =>
      have ei : decide (i = i) = true := decide_eq_true rfl
      dsimp! [o2, isiT_int, dt, ei]
    | @bl _ b => dsimp! [o2, isiT_bl, dt]
    | @str _ z =>
      have ez : decide (z = z) = true := decide_eq_true rfl
      dsimp! [o2, isiT_str, dt, ez]
    | @tup _ l hl ho =>
      have ez : mZip (mCons (mVar 0) (mCons (mVar 1) mNil)) [some (.dat (.tup l)), some (.dat (.tup l)), none, none] [] = .ok (.items ((l.zip l).map fun z => .dat (.tup [z.1, z.2]))) [] := by
        unfold mZip
        dsimp! []
        rfl
      have lc : mLc (mZip (mCons (mVar 0) (mCons (mVar 1) mNil))) (gmTup 2 (gmCons (gmName 2) (gmCons (gmName 3) gmNil))) mYes (mDef 2 (mPure (m_L_is g d)) (mCons (mVar 2) (mCons (mVar 3) mNil))) [2, 3] [some (.dat (.tup l)), some (.dat (.tup l)), none, none] [] = .ok (((l.zip l).map fun _ => P.bl true).map .dat) [] :=
        lc_all (xs := l.zip l) (fun z => .dat (.tup [z.1, z.2])) (fun _ => .bl true) ez (by rw [List.length_zip]; omega) fun z m => ⟨_, by dsimp! [] <;> rfl, rfl, by
          obtain ⟨i, hi⟩ := List.getElem?_of_mem m
          obtain ⟨a, b⟩ := List.getElem?_zip_eq_some.mp hi
          rw [a] at b
          have : z.1 = z.2 := Option.some.inj b
          rw [← this]
          dsimp! [ih z.1 [] (ho z.1 (List.mem_of_getElem? a))]⟩
      have aw : aAll ([] : Store) [.dat (.lst ((l.zip l).map fun _ => P.bl true))] = some (.dat (.bl true)) := by
        rw [show (l.zip l).map (fun _ => P.bl true) = ((l.zip l).map fun _ => true).map .bl by rw [List.map_map]; rfl, all_lst]; simp
      have el : decide ((l.length : Int) = (l.length : Int)) = true := decide_eq_true rfl
      dsimp! [o2, isiT_tup, dt, lc, aw, el]
end W3
namespace W3
open PySem PySem.Spec PyProof.Rows L2 M3
/-! ### a turn, by the law -/
theorem setMod {s : Shp} {k q : Nat} (n : q ≠ k) {v : Hs} {f : Hs → Hs} : modAt (s.set k v) q f = (modAt s q f).set k v := by
  unfold modAt
  rw [List.getElem?_set_ne (fun z => n z.symm)]
  cases s[q]? with
  | none => rfl
  | some y => simp only; rw [List.set_comm _ _ (fun z => n z.symm)]
/-- the one above is told -/
def farS (s : Shp) (a h : Nat) (y : Hs) : Shp := match y.up with
  | some q => modAt s q (renH a h)
  | none => s
section
variable {s : Shp} {a h : Nat} {x y : Hs} (p : Pre s a h x y)
include p
theorem far_len : (farS s a h y).length = s.length := by
  unfold farS
  split
  · exact modAt_len ..
  · rfl
theorem far_h : (farS s a h y)[h]? = some x := by
  unfold farS
  cases eu : y.up with
  | none => exact p.eh
  | some q => simp only; rw [modAt_at, if_neg fun z => (p.up_ne eu).2.1 z.symm]; exact p.eh
theorem far_a : (farS s a h y)[a]? = some y := by
  unfold farS
  cases eu : y.up with
  | none => exact p.ea
  | some q => simp only; rw [modAt_at, if_neg fun z => (p.up_ne eu).1 z.symm]; exact p.ea
theorem far_t : tSteps s a h x y = (farS s a h y).set h { x with up := y.up } := by
  unfold tSteps farS
  cases eu : y.up with
  | none => rfl
  | some q => exact setMod (p.up_ne eu).2.1
theorem far_r (x2 y2 : Hs) : ((tSteps s a h x y).set a y2).set h x2 = ((farS s a h y).set h x2).set a y2 := by
  rw [far_t p, List.set_comm _ _ (fun q => p.ah q.symm), List.set_set, List.set_comm _ _ (fun q => p.ah q)]
end
section
variable (g : G) {s : Shp} (R : RS s)
include R
theorem l_turn_up {a h : Nat} (so : SonOf s a h) : mScope (m_L_turn_up g) [.obj s.length, .dat (nv h)] (SL s) = .ok (.dat .non) (SL (turnUp s h)) := by
  suffices z : ∃ d S', m_L_turn_up g [.obj s.length, .dat (nv h)] (SL s) = .ok d S' ∧ d = .dat .non ∧ S' = SL (turnUp s h) by
    obtain ⟨d, S', e1, rfl, rfl⟩ := z
    exact scope_u (t := []) (by rw [List.append_nil]; exact e1) (by rw [SL_len, SL_len, (turnUp_rs R so).2]) SL_cs
  obtain ⟨x, y, p⟩ := pre_of R so
  obtain ⟨x0, ex0, hx0⟩ := R.son a h so
  obtain ⟨y0, ey0, hy0⟩ := id so
  have hh := lt_at ex0
  have ha := lt_at ey0
  have l1 : (handOn s a).length = s.length := handOn_len ey0
  have R1 := handOn_rs ey0 R
  obtain ⟨x1, ex1⟩ := at_of (s := handOn s a) (h := h) (by rw [l1]; exact hh)
  have l2 : (handOn (handOn s a) h).length = s.length := by rw [handOn_len ex1, l1]
  have r1 := l_hand_on g R ha
  have r2 := l_hand_on g R1 (h := h) (by rw [l1]; exact hh)
  rw [l1] at r2
  rw [turnUp_eq ex0 hx0, ← rSteps_eq p]
  have fu := SL_0 ex0
  rw [hx0] at fu
  have fu' : aIx (SL s) (.obj h) (.dat (.int 0)) = some (.dat (nv a)) := fu
  have ah := p.ah
  have ixn : ∀ {t : Shp} {k : Nat}, t.length = s.length → k < s.length → aIx (SL t) (.obj s.length) (.dat (nv k)) = some (.obj k) := fun l hk => by rw [← l]; exact SL_ix (by rw [l]; exact hk)
  have ixs : ∀ {t : Shp} {k : Nat}, t.length = s.length → k < s.length → aIx (SL t) (.obj s.length) (.dat (ov (some k))) = some (.obj k) := fun l hk => ixn l hk
  unfold m_L_turn_up
  rw [mBody_fin]
  refine Exists.imp (fun d h => Exists.imp (fun S' h => ⟨h.1, h.2⟩) h) (fin_nx_ends ?_)
  dsimp! [SL_ix hh, fu', r1, r2, ixn l2 hh, ixn l2 ha, SL_0 p.ea]
  refine then_ends (Q1 := fun o' S' => ∃ x6 : Option D, o' = .nx [some (.obj s.length), some (.dat (nv h)), some (.dat (nv a)), some (.obj h), some (.obj a), some (.dat (ov y.up)), x6, none, none, none] ∧ S' = SL (farS (handOn (handOn s a) h) a h y)) ?_ ?_
  · unfold farS
    cases eu : y.up with
    | none =>
      have nno : ∀ S : Store, aNotN S (.dat (ov none)) (.dat .non) = some (.dat (.bl false)) := fun _ => rfl
      dsimp! [nno]
      exact .of ⟨_, rfl, rfl⟩
    | some q =>
      have nns : ∀ S : Store, aNotN S (.dat (ov (some q))) (.dat .non) = some (.dat (.bl true)) := fun _ => rfl
      have hq := p.R.up_lt p.ea eu
      obtain ⟨z, ez⟩ := at_of hq
      have hq' : q < s.length := by rw [← l2]; exact hq
      simp only
      rw [modAt_eq ez]
      have fl := SL_1 ez
      have fr := SL_2 ez
      by_cases cl : z.left = some a
      · have nr : z.right ≠ some a := p.R.ne q a z ez cl
        have er : renH a h z = { z with left := some h } := by unfold renH ren; rw [if_pos cl, if_neg nr]
        have s2 : setD (.obj q) (.dat (.int 1)) (.dat (nv h)) (SL (handOn (handOn s a) h)) = _ := SL_s1 ez (o := some h)
        rw [er]
        dsimp! [nns, ixs l2 hq', fl, eq_on, decide_eq_true cl, s2]
        exact .of ⟨_, rfl, rfl⟩
      · by_cases cr : z.right = some a
        · have er : renH a h z = { z with right := some h } := by unfold renH ren; rw [if_neg cl, if_pos cr]
          have s2 : setD (.obj q) (.dat (.int 2)) (.dat (nv h)) (SL (handOn (handOn s a) h)) = _ := SL_s2 ez (o := some h)
          rw [er]
          dsimp! [nns, ixs l2 hq', fl, eq_on, decide_eq_false cl, fr, decide_eq_true cr, s2]
          exact .of ⟨_, rfl, rfl⟩
        · have er : renH a h z = z := by unfold renH ren; rw [if_neg cl, if_neg cr]
          rw [er, set_same ez]
          dsimp! [nns, ixs l2 hq', fl, eq_on, decide_eq_false cl, fr, decide_eq_false cr]
          exact .of ⟨_, rfl, rfl⟩
  · rintro o' S' ⟨x6, rfl, rfl⟩
    have lF : (farS (handOn (handOn s a) h) a h y).length = s.length := by rw [far_len p, l2]
    have eh := far_h p
    have ea := far_a p
    unfold rSteps
    simp only [far_r p]
    generalize farS (handOn (handOn s a) h) a h y = F at lF eh ea ⊢
    have fr := SL_2 ea
    have a31 : ∀ S : Store, aSub S (.dat (.int 3)) (.dat (.int 1)) = some (.dat (.int 2)) := fun _ => rfl
    have a32 : ∀ S : Store, aSub S (.dat (.int 3)) (.dat (.int 2)) = some (.dat (.int 1)) := fun _ => rfl
    have s1 := SL_s0 eh (o := y.up)
    have eh1 : (F.set h { x with up := y.up })[h]? = some { x with up := y.up } := List.getElem?_set_self (by rw [lF]; exact hh)
    by_cases r : y.right = some h
    · have em : mid x y h = x.left := if_pos r
      rw [em]
      simp only [r, if_true]
      have eq1 : ∀ S : Store, aEq S (.dat (ov y.right)) (.dat (nv h)) = some (.dat (.bl true)) := fun S => by rw [eq_on, decide_eq_true r]
      have fm := SL_1 eh
      have s2 : setD (.obj h) (.dat (.int 1)) (.dat (nv a)) (SL (F.set h { x with up := y.up })) = some (SL (F.set h { x with up := y.up, left := some a })) := by
        have q := SL_s1 eh1 (o := some a)
        rw [List.set_set] at q
        exact q
      have ea2 : (F.set h { x with up := y.up, left := some a })[a]? = some y := by rw [List.getElem?_set_ne (fun q => ah q.symm)]; exact ea
      have s3 : setD (.obj a) (.dat (.int 0)) (.dat (nv h)) (SL (F.set h { x with up := y.up, left := some a })) = some (SL ((F.set h { x with up := y.up, left := some a }).set a { y with up := some h })) := SL_s0 ea2 (o := some h)
      have ea3 : ((F.set h { x with up := y.up, left := some a }).set a { y with up := some h })[a]? = some { y with up := some h } := List.getElem?_set_self (by rw [List.length_set, lF]; exact ha)
      have s4 : setD (.obj a) (.dat (.int 2)) (.dat (ov x.left)) (SL ((F.set h { x with up := y.up, left := some a }).set a { y with up := some h })) = some (SL ((F.set h { x with up := y.up, left := some a }).set a { y with right := x.left, up := some h })) := by
        have q := SL_s2 ea3 (o := x.left)
        rw [List.set_set] at q
        exact q
      have lG : ((F.set h { x with up := y.up, left := some a }).set a { y with right := x.left, up := some h }).length = s.length := by rw [List.length_set, List.length_set, lF]
      cases el : x.left with
      | none =>
        have nno : ∀ S : Store, aNotN S (.dat (ov none)) (.dat .non) = some (.dat (.bl false)) := fun _ => rfl
        rw [el] at fm s4
        dsimp! [fr, eq1, fm, s1, s2, s3, a31, s4, nno]
        exact .of ⟨_, rfl, rfl⟩
      | some m =>
        have nns : ∀ S : Store, aNotN S (.dat (ov (some m))) (.dat .non) = some (.dat (.bl true)) := fun _ => rfl
        have sm : SonOf (handOn (handOn s a) h) h m := ⟨x, p.eh, .inl el⟩
        obtain ⟨w, ew, _⟩ := p.R.son h m sm
        have hm : m < s.length := by have := lt_at ew; rwa [l2] at this
        rw [el] at fm s4 lG
        obtain ⟨w3, ew3⟩ := at_of (s := (F.set h { x with up := y.up, left := some a }).set a { y with right := some m, up := some h }) (h := m) (by rw [lG]; exact hm)
        have s5 : setD (.obj m) (.dat (.int 0)) (.dat (nv a)) (SL ((F.set h { x with up := y.up, left := some a }).set a { y with right := some m, up := some h })) = _ := SL_s0 ew3 (o := some a)
        simp only
        rw [modAt_eq ew3]
        dsimp! [fr, eq1, fm, s1, s2, s3, a31, s4, nns, ixs lG hm, s5]
        exact .of ⟨_, rfl, rfl⟩
    · have em : mid x y h = x.right := if_neg r
      rw [em]
      simp only [r, if_false]
      have eq1 : ∀ S : Store, aEq S (.dat (ov y.right)) (.dat (nv h)) = some (.dat (.bl false)) := fun S => by rw [eq_on, decide_eq_false r]
      have fm := SL_2 eh
      have s2 : setD (.obj h) (.dat (.int 2)) (.dat (nv a)) (SL (F.set h { x with up := y.up })) = some (SL (F.set h { x with up := y.up, right := some a })) := by
        have q := SL_s2 eh1 (o := some a)
        rw [List.set_set] at q
        exact q
      have ea2 : (F.set h { x with up := y.up, right := some a })[a]? = some y := by rw [List.getElem?_set_ne (fun q => ah q.symm)]; exact ea
      have s3 : setD (.obj a) (.dat (.int 0)) (.dat (nv h)) (SL (F.set h { x with up := y.up, right := some a })) = some (SL ((F.set h { x with up := y.up, right := some a }).set a { y with up := some h })) := SL_s0 ea2 (o := some h)
      have ea3 : ((F.set h { x with up := y.up, right := some a }).set a { y with up := some h })[a]? = some { y with up := some h } := List.getElem?_set_self (by rw [List.length_set, lF]; exact ha)
      have s4 : setD (.obj a) (.dat (.int 1)) (.dat (ov x.right)) (SL ((F.set h { x with up := y.up, right := some a }).set a { y with up := some h })) = some (SL ((F.set h { x with up := y.up, right := some a }).set a { y with left := x.right, up := some h })) := by
        have q := SL_s1 ea3 (o := x.right)
        rw [List.set_set] at q
        exact q
      have lG : ((F.set h { x with up := y.up, right := some a }).set a { y with left := x.right, up := some h }).length = s.length := by rw [List.length_set, List.length_set, lF]
      cases el : x.right with
      | none =>
        have nno : ∀ S : Store, aNotN S (.dat (ov none)) (.dat .non) = some (.dat (.bl false)) := fun _ => rfl
        rw [el] at fm s4
        dsimp! [fr, eq1, fm, s1, s2, s3, a32, s4, nno]
        exact .of ⟨_, rfl, rfl⟩
      | some m =>
        have nns : ∀ S : Store, aNotN S (.dat (ov (some m))) (.dat .non) = some (.dat (.bl true)) := fun _ => rfl
        have sm : SonOf (handOn (handOn s a) h) h m := ⟨x, p.eh, .inr el⟩
        obtain ⟨w, ew, _⟩ := p.R.son h m sm
        have hm : m < s.length := by have := lt_at ew; rwa [l2] at this
        rw [el] at fm s4 lG
        obtain ⟨w3, ew3⟩ := at_of (s := (F.set h { x with up := y.up, right := some a }).set a { y with left := some m, up := some h }) (h := m) (by rw [lG]; exact hm)
        have s5 : setD (.obj m) (.dat (.int 0)) (.dat (nv a)) (SL ((F.set h { x with up := y.up, right := some a }).set a { y with left := some m, up := some h })) = _ := SL_s0 ew3 (o := some a)
        simp only
        rw [modAt_eq ew3]
        dsimp! [fr, eq1, fm, s1, s2, s3, a32, s4, nns, ixs lG hm, s5]
        exact .of ⟨_, rfl, rfl⟩
end
end W3
namespace W3
open PySem PySem.Spec PyProof.Rows L2 M3
/-! ### the law's own judges of handing on and of turns -/
theorem oki_ovs {d : Nat} (l : List (Option Nat)) (h : l.length ≤ 100000) : OkI (d + 2) (.tup (l.map ov)) := .tup (by rw [List.length_map]; exact h) fun p m => by
  obtain ⟨k, _, rfl⟩ := List.mem_map.mp m
  cases k with
  | none => exact .non
  | some k => exact .int
theorem oki_ints {d : Nat} (l : List Int) (h : l.length ≤ 100000) : OkI (d + 2) (.tup (l.map .int)) := .tup (by rw [List.length_map]; exact h) fun p m => by
  obtain ⟨k, _, rfl⟩ := List.mem_map.mp m
  exact .int
theorem oki_shape {d : Nat} {s : Shp} (h : s.length ≤ 100000) : OkI (d + 3) (shP s) := .tup (by rw [List.length_map]; exact h) fun p m => by
  obtain ⟨x, _, rfl⟩ := List.mem_map.mp m
  have oo : ∀ o : Option Nat, OkI (d + 1) (ov o) := fun o => by
    cases o with
    | none => exact .non
    | some k => exact .int
  refine .tup (by simp) fun q n => ?_
  simp only [List.mem_cons, List.mem_nil_iff, or_false] at n
  rcases n with rfl | rfl | rfl | rfl | rfl | rfl
  · exact oo _
  · exact oo _
  · exact oo _
  · exact .bl
  · exact .int
  · exact .int
theorem ne_tt {S : Store} {l k : List P} (h1 : okDs 59 l = true) (h2 : okDs 59 k = true) : aNe S (.dat (.tup l)) (.dat (.tup k)) = some (.dat (.bl (!eqB l k))) := by
  have e := eq_tt (S := S) h1 h2
  have e : (eqD S (.dat (.tup l)) (.dat (.tup k))).map dBl = some (.dat (.bl (eqB l k))) := e
  show (eqD S (.dat (.tup l)) (.dat (.tup k))).map (fun b => dBl (!b)) = _
  cases q : eqD S (.dat (.tup l)) (.dat (.tup k)) with
  | none => rw [q] at e; cases e
  | some b =>
    rw [q] at e
    have : b = eqB l k := by
      have e : some (D.dat (.bl b)) = some (.dat (.bl (eqB l k))) := e
      simpa using e
    rw [this]; rfl
theorem notin2 {S : Store} {k h a : Nat} : aNotIn S (.dat (nv k)) (.dat (.tup [nv h, nv a])) = some (.dat (.bl (!(decide (h = k) || decide (a = k))))) := by
  have e : ∀ i j : Nat, decide ((i : Int) = (j : Int)) = decide (i = j) := fun i j => by
    by_cases c : i = j
    · subst c; simp
    · rw [decide_eq_false c, decide_eq_false (by omega)]
  show some (D.dat (.bl (!(decide ((h : Int) = (k : Int)) || (decide ((a : Int) = (k : Int)) || false))))) = _
  rw [e, e, Bool.or_false]
theorem wt_turn {s : Shp} (R : RS s) {a h : Nat} (so : SonOf s a h) : (∀ j, j ≠ a → j ≠ h → wt (turnUp s h) j = wt s j) ∧ wt (turnUp s h) h = wt s a := by
  have l := (turnUp_rs R so).2
  unfold wt cnt
  rw [l]
  refine ⟨fun j ja jh => ?_, ?_⟩
  · congr 1
    refine List.filter_congr fun k m => ?_
    have := (turnUp_up R so (List.mem_range.mp m)).1 j ja jh
    exact decide_eq_decide.mpr this
  · congr 1
    refine List.filter_congr fun k m => ?_
    exact decide_eq_decide.mpr (turnUp_up R so (List.mem_range.mp m)).2
section
variable {g : G} (X : Gx g) {s : Shp} (R : RS s)
include X R
theorem is_handed_t {h : Nat} (hh : h < s.length) (S : Store) : mPure (m_L_is_handed g) [.dat (shP s), .dat (nv h)] S = .ok (.dat (.tup [.bl true, shP (handOn s h)])) S := by
  have n64 := R.n64
  obtain ⟨x, ex⟩ := at_of hh
  have l1 : (handOn s h).length = s.length := handOn_len ex
  have tp := l_tupled g (s := handOn s h) (by rw [l1]; exact n64)
  rw [l1] at tp
  have l2 : (2 : Nat) ≤ 100000 := by decide
  refine pure_dat rfl (S' := SL (handOn s h)) ?_
  have is1 := is_t g 60 (shP (handOn s h)) (SL (handOn s h)) (oki_shape (by omega))
  unfold m_L_is_handed
  dsimp! [l_listed g n64, l_hand_on g R hh, handed_on_t X R hh, tp, is1, l2]
theorem is_turned_t {a h : Nat} (so : SonOf s a h) (S : Store) : mPure (m_L_is_turned g) [.dat (shP s), .dat (nv h)] S = .ok (.dat (.tup [.bl true, shP (turnUp s h)])) S := by
  have n64 := R.n64
  obtain ⟨x0, ex0, hx0⟩ := R.son a h so
  obtain ⟨y0, ey0, hy0⟩ := id so
  have hh := lt_at ex0
  have ha := lt_at ey0
  obtain ⟨R', l1⟩ := turnUp_rs R so
  have tp := l_tupled g (s := turnUp s h) (by rw [l1]; exact n64)
  rw [l1] at tp
  have l2 : (2 : Nat) ≤ 100000 := by decide
  have is1 := is_t g 60 (shP (turnUp s h)) (SL (turnUp s h)) (oki_shape (by omega))
  obtain ⟨fs, lf, hf, ew⟩ := weights_t X R (SL (turnUp s h))
  obtain ⟨fs', lf', hf', ew'⟩ := weights_t X R' (SL (turnUp s h))
  rw [l1] at lf' hf'
  obtain ⟨w1, w2⟩ := wt_turn R so
  have i0 : aIx ([] : Store) (.dat (shP s)) (.dat (nv h)) = some (.dat (hsP x0)) := hsP_at ex0
  have i1 : aIx ([] : Store) (.dat (hsP x0)) (.dat (.int 0)) = some (.dat (nv a)) := by rw [hs0, hx0]; rfl
  have f1 : ∀ {k : Nat}, k < s.length → aIx (SL (turnUp s h)) (.dat (.tup (fs.map nv))) (.dat (nv k)) = some (.dat (nv (wt s k))) := fun hk => ix_t (atN (map_get (hf _ hk)))
  have f2 : ∀ {k : Nat}, k < s.length → aIx (SL (turnUp s h)) (.dat (.tup (fs'.map nv))) (.dat (nv k)) = some (.dat (nv (wt (turnUp s h) k))) := fun hk => ix_t (atN (map_get (hf' _ hk)))
  have lc : mLc (mRng1 (mCons (mCall aLen (mCons (mVar 0) mNil)) mNil)) (gmName 7) (mAndT (mTst (mOp aNotIn (mVar 7) (mTup (mCons (mVar 1) (mCons (mVar 2) mNil))))) (mTst (mOp aNe (mOp aIx (mVar 4) (mVar 7)) (mOp aIx (mVar 5) (mVar 7))))) (mVar 7) [7] [some (.dat (shP s)), some (.dat (nv h)), some (.dat (nv a)), some (.dat (shP (turnUp s h))), some (.dat (.tup (fs.map nv))), some (.dat (.tup (fs'.map nv))), none, none] (SL (turnUp s h)) = .ok (([] : List P).map .dat) (SL (turnUp s h)) := by
    rw [lc_map (xs := List.range s.length) (fun k => .dat (nv k)) (fun _ => none) (rng0_ok (n := s.length) (by dsimp! [shP_len] <;> rfl) (by omega)) (by rw [List.length_range]; omega) fun k m => ⟨_, rfl, by
      have hk := List.mem_range.mp m
      show mAndT _ _ _ _ = _
      by_cases c : h = k ∨ a = k
      · have nn : ∀ S : Store, aNotIn S (.dat (nv k)) (.dat (.tup [nv h, nv a])) = some (.dat (.bl false)) := fun S => by
          rw [notin2]
          rcases c with c | c <;> simp [c]
        dsimp! [nn, l2]
      · have nn : ∀ S : Store, aNotIn S (.dat (nv k)) (.dat (.tup [nv h, nv a])) = some (.dat (.bl true)) := fun S => by
          rw [notin2, decide_eq_false (fun q => c (.inl q)), decide_eq_false (fun q => c (.inr q))]; rfl
        have ew : wt (turnUp s h) k = wt s k := w1 k (fun q => c (.inr q.symm)) (fun q => c (.inl q.symm))
        have n2 : ∀ S : Store, aNe S (.dat (nv (wt s k))) (.dat (nv (wt s k))) = some (.dat (.bl false)) := fun S => by
          show some (D.dat (.bl (!decide ((wt s k : Int) = (wt s k : Int))))) = _
          rw [decide_eq_true rfl]; rfl
        have g1 := f1 hk
        have g2 := f2 hk
        rw [ew] at g2
        dsimp! [nn, l2, g1, g2, n2]⟩]
    rw [List.filterMap_eq_nil_iff.mpr fun _ _ => rfl]
  have n0 : decide ((0 : Int) = 0) = true := rfl
  have f2h := f2 hh
  rw [w2] at f2h
  have e2 : ∀ S : Store, aEq S (.dat (nv (wt s a))) (.dat (nv (wt s a))) = some (.dat (.bl true)) := fun S => by
    show some (D.dat (.bl (decide ((wt s a : Int) = (wt s a : Int))))) = _
    rw [decide_eq_true rfl]
  have ln0 : ∀ S : Store, aLen S [.dat (.lst [])] = some (.dat (.int 0)) := fun _ => rfl
  refine pure_dat rfl (S' := SL (turnUp s h)) ?_
  unfold m_L_is_turned
  dsimp! [i0, i1, l_listed g n64, l_turn_up g R so, tp, turned_up_t X R so, is1, l2, ew, ew', lc, ln0, f2h, f1 ha, e2]
end
end W3
namespace W3
open PySem PySem.Spec PyProof.Rows L2 M3
/-! ### the law's telling -/
section
variable {g : G} {s : Shp} (R : RS s)
include R
theorem l_told {ps : List (Option Nat)} {ws : List Int} (W : Told s ps ws) (S : Store) : mPure (m_L_told g) [.dat (shP s)] S = .ok (.dat (.tup [.tup (ps.map ov), .tup (ws.map .int)])) S := by
  have n64 := R.n64
  suffices z : ∃ d S', m_L_told g [.dat (shP s)] [] = .ok d S' ∧ d = .dat (.tup [.tup (ps.map ov), .tup (ws.map .int)]) from let ⟨d, S', e, z⟩ := z; pure_dat rfl (z ▸ e)
  have em : (s.length : Int) ≤ 1000000 ∧ (0 : Int) ≤ (s.length : Int) ∧ 1 * s.length ≤ 100000 := by omega
  have el : ∀ S : Store, listD S (.dat (.lst [.non])) = some [.dat .non] := fun _ => rfl
  have o0 : (0 : Nat) ≤ 100000 := by decide
  have o1 : (1 : Nat) ≤ 100000 := by decide
  have o2 : (2 : Nat) ≤ 100000 := by decide
  have ro : repD s.length [.dat .non] = ((List.replicate s.length none).map ov).map .dat := by
    unfold repD
    rw [List.map_replicate, List.map_replicate]
    generalize s.length = n
    induction n with
    | zero => rfl
    | succ n ih => rw [List.replicate_succ, List.flatten_cons, ih]; rfl
  unfold m_L_told
  rw [mBody_fin]
  refine fin_ends ?_
  unfold mMulL
  dsimp! [o1, el, shP_len, if_pos em, Int.toNat_natCast, ro]
  rw [for_items (walk_l (l := (tps s).map nv) (by dsimp! [l_tops R] <;> rfl))]
  refine then_ends (Q1 := fun o' S' => ∃ x2 x3 x4, o' = .nx [some (.dat (shP s)), some (.obj 0), x2, x3, x4, none, none, none, none] ∧ S' = [.lst ((ps.map ov).map .dat)]) ?_ ?_
  · refine forL_ends (fun i δ S' => ∃ (x2 x3 x4 : Option D) (fs : List (Option Nat)), δ = [some (.dat (shP s)), some (.obj 0), x2, x3, x4, none, none, none, none] ∧ S' = [.lst ((fs.map ov).map .dat)] ∧ fs.length = s.length ∧ ∀ (j t : Nat) (l : List (Nat × Int)), j < i → (tps s)[j]? = some t → Row s t l → ∀ z ∈ l, fs[z.1]? = ps[z.1]?) (i := 0) ⟨_, _, _, List.replicate s.length none, rfl, rfl, by simp, fun j t l q => (nomatch q)⟩ ?_ ?_
    · rintro i d δ S' hd ⟨x2, x3, x4, fs, rfl, rfl, lf, hf⟩
      rw [Nat.zero_add] at hf
      rw [List.getElem?_map, List.getElem?_map] at hd
      cases et : (tps s)[i]? with
      | none => rw [et] at hd; cases hd
      | some t =>
        rw [et] at hd
        cases hd
        obtain ⟨ct, nt, sb⟩ := tps_mem R (List.mem_of_getElem? et)
        obtain ⟨l, r⟩ := R.row_ex ct nt
        obtain ⟨x, ex⟩ := at_of ct
        have lt : ∀ z ∈ l, z.1 < s.length := fun z m => by
          obtain ⟨_, y, _, ey, _⟩ := r.2.2.climb rfl z m
          exact lt_at ey
        dsimp! [hsP_at ex, hs0]
        rw [for_items (walk_l (l := hsL l) (by dsimp! [l_row R r] <;> rfl))]
        refine forL_ends (fun j δ S' => ∃ (x4 : Option D) (fs' : List (Option Nat)), δ = [some (.dat (shP s)), some (.obj 0), some (.dat (nv t)), some (.dat (ov (if j = 0 then x.up else (l[j - 1]?).map Prod.fst))), x4, none, none, none, none] ∧ S' = [.lst ((fs'.map ov).map .dat)] ∧ fs'.length = s.length ∧ (∀ (j t : Nat) (l : List (Nat × Int)), j < i → (tps s)[j]? = some t → Row s t l → ∀ z ∈ l, fs'[z.1]? = ps[z.1]?) ∧ ∀ (m : Nat) (z : Nat × Int), m < j → l[m]? = some z → fs'[z.1]? = ps[z.1]?) (i := 0) ⟨_, fs, rfl, rfl, lf, hf, fun m z q => (nomatch q)⟩ ?_ ?_
        · rintro j d δ S' hd ⟨x4, fs', rfl, rfl, lf', hf', hm⟩
          rw [Nat.zero_add] at hm
          rw [Nat.zero_add]
          unfold hsL at hd
          rw [List.getElem?_map, List.getElem?_map, List.getElem?_map] at hd
          cases ez : l[j]? with
          | none => rw [ez] at hd; cases hd
          | some z =>
            rw [ez] at hd
            cases hd
            have hz := lt z (List.mem_of_getElem? ez)
            have ep := W.par t l x r ex j z.1 z.2 ez
            have es : setD (.obj 0) (.dat (nv z.1)) (.dat (ov (if j = 0 then x.up else (l[j - 1]?).map Prod.fst))) [O.lst ((fs'.map ov).map .dat)] = some [O.lst (((fs'.set z.1 (if j = 0 then x.up else (l[j - 1]?).map Prod.fst)).map ov).map .dat)] := by
              show setD (.obj 0) (.dat (.int (z.1 : Int))) _ _ = _
              rw [setD_o (l := (fs'.map ov).map .dat) rfl (ixN_nat (by rw [List.length_map, List.length_map]; omega))]
              rw [List.map_set, List.map_set]; rfl
            dsimp! [es]
            have keep : ∀ y : Nat, fs'[y]? = ps[y]? → (fs'.set z.1 (if j = 0 then x.up else (l[j - 1]?).map Prod.fst))[y]? = ps[y]? := fun y q => by
              by_cases c : z.1 = y
              · subst c; rw [List.getElem?_set_self (by omega), ep]
              · rw [List.getElem?_set_ne c]; exact q
            refine .of (tm ⟨some (.dat (nv z.1)), _, ?_, rfl, by rw [List.length_set]; exact lf', fun j' t l q et r z m => keep _ (hf' j' t l q et r z m), fun m y q e => ?_⟩)
            · rw [Nat.add_sub_cancel, ez]; rfl
            · by_cases c : m < j
              · exact keep _ (hm m y c e)
              · have : m = j := by omega
                subst this
                rw [ez] at e
                cases e
                rw [List.getElem?_set_self (by omega), ep]
        · rintro δ S' ⟨x4, fs', rfl, rfl, lf', hf', hm⟩
          refine tm ⟨_, _, _, fs', rfl, rfl, lf', fun j t' l' q et' r' z m => ?_⟩
          by_cases c : j < i
          · exact hf' j t' l' c et' r' z m
          · have : j = i := by omega
            subst this
            rw [et] at et'
            cases et'
            have := r.2.2.det r'.2.2
            subst this
            obtain ⟨k, hk⟩ := List.getElem?_of_mem m
            exact hm k z (by have := lt_at hk; rw [List.length_map, hsL_len]; omega) hk
    · rintro δ S' ⟨x2, x3, x4, fs, rfl, rfl, lf, hf⟩
      refine ⟨_, _, _, rfl, ?_⟩
      have : fs = ps := List.ext_getElem? fun h => by
        by_cases hh : h < s.length
        · obtain ⟨t, l, w, r, m⟩ := R.in_row hh
          have mt : t ∈ tps s := List.mem_filter.mpr ⟨List.mem_range.mpr r.1, by
            cases c : sonB s t with
            | true => exact absurd (R.sonB.mp c) r.2.1
            | false => rfl⟩
          obtain ⟨j, hj⟩ := List.getElem?_of_mem mt
          exact hf j t l (by have := lt_at hj; simp; exact this) hj r _ m
        · rw [List.getElem?_eq_none (by omega), List.getElem?_eq_none (by rw [W.lp]; omega)]
      rw [this]
  rintro o' S' ⟨x2, x3, x4, rfl, rfl⟩
  dsimp! [o0]
  rw [for_items (rng0_ok (n := s.length) (by dsimp! [shP_len] <;> rfl) (by omega))]
  refine then_ends (Q1 := fun o' S' => ∃ x2 x3 x4 x6 x7 x8, o' = .nx [some (.dat (shP s)), some (.obj 0), x2, x3, x4, some (.obj 1), x6, x7, x8] ∧ S' = [.lst ((ps.map ov).map .dat), .lst ((ws.map .int).map .dat)]) ?_ ?_
  · refine forL_ends (fun i δ S' => ∃ (x4 x6 x7 x8 : Option D), δ = [some (.dat (shP s)), some (.obj 0), x2, x3, x4, some (.obj 1), x6, x7, x8] ∧ S' = [.lst ((ps.map ov).map .dat), .lst (((ws.take i).map .int).map .dat)]) (i := 0) ⟨_, _, _, _, rfl, by simp⟩ ?_ ?_
    · rintro i d δ S' hd ⟨x4, x6, x7, x8, rfl, rfl⟩
      rw [Nat.zero_add]
      rw [List.getElem?_map] at hd
      by_cases ci : i < s.length
      · rw [List.getElem?_range ci] at hd
        cases hd
        obtain ⟨t, l, w, r, m⟩ := R.in_row ci
        obtain ⟨c, y, cx, ey, ew⟩ := r.2.2.climb rfl _ m
        have ew : w = y.value + 0 + c := ew
        have ey : s[i]? = some y := ey
        have cx : Cx s t i c := cx
        have ewi := W.wor t l r i w m
        dsimp! [hsP_at ey, hs5]
        rw [for_items (rng0_ok (n := s.length) (by dsimp! [shP_len] <;> rfl) (by omega))]
        refine then_ends (Q1 := fun o' S' => ∃ x7 x8, o' = .nx [some (.dat (shP s)), some (.obj 0), x2, x3, some (.dat (nv i)), some (.obj 1), some (.dat (.int w)), x7, x8] ∧ S' = [.lst ((ps.map ov).map .dat), .lst (((ws.take i).map .int).map .dat)]) ?_ ?_
        · refine forL_ends (fun j δ S' => ∃ (a : Nat) (c' : Int) (x8 : Option D), δ = [some (.dat (shP s)), some (.obj 0), x2, x3, some (.dat (nv i)), some (.obj 1), some (.dat (.int (w - c'))), some (.dat (nv a)), x8] ∧ S' = [.lst ((ps.map ov).map .dat), .lst (((ws.take i).map .int).map .dat)] ∧ a < s.length ∧ Cx s t a c' ∧ (¬ Son s a ∨ (W2.up (ups s) a).length + j = (W2.up (ups s) i).length)) (i := 0) ⟨i, c, _, by rw [ew, show y.value + 0 + c - c = y.value by omega], rfl, ci, cx, .inr rfl⟩ ?_ ?_
          · rintro j d δ S' hd ⟨a, c', x8, rfl, rfl, ha, cx', hj⟩
            rw [Nat.zero_add] at hj
            rw [Nat.zero_add]
            cases sb : sonB s a with
            | false =>
              dsimp! [l_is_son R ha, sb]
              exact .of (tm ⟨a, c', _, rfl, rfl, ha, cx', .inl fun z => by rw [R.sonB.mpr z] at sb; cases sb⟩)
            | true =>
              have so := R.sonB.mp sb
              cases cx' with
              | here => exact absurd so r.2.1
              | @step _ u z c2 ez hz cx2 =>
                have sof : SonOf s u a := ⟨z, ez, hz⟩
                obtain ⟨q, eq, eu⟩ := R.son u a sof
                have i1 : aIx ([.lst ((ps.map ov).map .dat), .lst (((ws.take i).map .int).map .dat)] : Store) (.dat (hsP q)) (.dat (.int 0)) = some (.dat (nv u)) := by rw [hs0, eu]; rfl
                have hj' := hj.resolve_left fun z => z so
                dsimp! [l_is_son R ha, sb, hsP_at eq, i1, hsP_at ez, hs4]
                refine .of (tm ⟨u, c2, _, by rw [show w - (c2 + z.added) + z.added = w - c2 by omega], rfl, lt_at ez, cx2, .inr ?_⟩)
                rw [R.upc sof, List.length_cons] at hj'
                omega
          · rintro δ S' ⟨a, c', x8, rfl, rfl, ha, cx', hj⟩
            have na : ¬ Son s a := by
              rcases hj with hj | hj
              · exact hj
              · have l1 := (R.chain ha).2.2
                have l2 := (R.chain ci).2.1
                simp at hj
                omega
            have : c' = 0 := by
              cases cx' with
              | here => rfl
              | step ez hz _ => exact absurd ⟨_, _, ez, hz⟩ na
            subst this
            exact ⟨_, _, by rw [Int.sub_zero], rfl⟩
        · rintro o' S' ⟨x7, x8, rfl, rfl⟩
          have eap := app_o (S := [.lst ((ps.map ov).map .dat), .lst (((ws.take i).map .int).map .dat)]) (o := 1) (x := .dat (.int w)) rfl (by rw [List.length_map, List.length_map, List.length_take]; omega)
          have tk : ws.take (i + 1) = ws.take i ++ [w] := by rw [List.take_add_one, ewi]; rfl
          unfold mBM
          dsimp! [kind_o (S := [.lst ((ps.map ov).map .dat), .lst (((ws.take i).map .int).map .dat)]) (o := 1) rfl, eap]
          refine .of (tm ⟨_, _, _, _, rfl, ?_⟩)
          rw [tk]; simp
      · rw [List.getElem?_eq_none (by simpa using ci)] at hd; cases hd
    · rintro δ S' ⟨x4, x6, x7, x8, rfl, rfl⟩
      refine ⟨_, _, _, _, _, _, rfl, ?_⟩
      rw [List.take_of_length_le (by rw [W.lw]; simp)]
  · rintro o' S' ⟨x2, x3, x4, x6, x7, x8, rfl, rfl⟩
    have t0 := tuple_o (S := [.lst ((ps.map ov).map .dat), .lst ((ws.map .int).map .dat)]) (o := 0) (l := ps.map ov) rfl
    have t1 := tuple_o (S := [.lst ((ps.map ov).map .dat), .lst ((ws.map .int).map .dat)]) (o := 1) (l := ws.map .int) rfl
    dsimp! [t0, t1, o2]
    exact .of ⟨_, rfl, rfl⟩
end
end W3
namespace W3
open PySem PySem.Spec PyProof.Rows L2 M3
theorem law_true (g : G) (X : Gx g) : ∀ ns : List Int, ns.length ≤ 63 → ∃ S, m_law g [.dat (.scr ns)] [] = .ok (.dat (.bl true)) S := by
  intro ns _
  obtain ⟨h0, H0, e0⟩ := hand8 g ns
  obtain ⟨n, h1, n1, n64, H1, e1⟩ := many8 g H0 cs_nil
  obtain ⟨s, h2, R, ls, H2, e2⟩ := shape8 g H1 n1 n64
  subst ls
  obtain ⟨ps, ws, W⟩ := R.told_ex
  have lp : ps.length ≤ 100000 := by rw [W.lp]; omega
  have lw : ws.length ≤ 100000 := by rw [W.lw]; omega
  have l2 : (2 : Nat) ≤ 100000 := by decide
  obtain ⟨r, h3, hr, H3, e3⟩ := draw_s g H2 (n := 20) (by omega) (by omega) cs_nil
  have er : (1 : Int) + (r : Int) = ((r + 1 : Nat) : Int) := by omega
  have is1 : ∀ S, mPure (m_L_is g 60) [.dat (.tup [.tup (ps.map ov), .tup (ws.map .int)]), .dat (.tup [.tup (ps.map ov), .tup (ws.map .int)])] S = .ok (.dat (.bl true)) S := fun S => is_t g 60 _ S (.tup (by simp) fun p m => by
    rcases List.mem_cons.mp m with rfl | m
    · exact oki_ovs _ lp
    · rw [List.mem_singleton.mp m]; exact oki_ints _ lw)
  have ne0 : ∀ S : Store, aNe S (.dat (.tup [.tup (ps.map ov), .tup (ws.map .int)])) (.dat (.tup [.tup (ps.map ov), .tup (ws.map .int)])) = some (.dat (.bl false)) := fun S => by
    rw [ne_tt (ok_two (ok_ovs _) (ok_ints _)) (ok_two (ok_ovs _) (ok_ints _)), eqB_two, eqB_ovs, eqB_ints]; rfl
  suffices z : ∃ d S', m_law g [.dat (.scr ns)] [] = .ok d S' ∧ d = .dat (.bl true) by
    obtain ⟨d, S', e, rfl⟩ := z
    exact ⟨S', e⟩
  unfold m_law mFld
  rw [mBody_fin]
  refine fin_ends ?_
  dsimp! [e0, e1, e2, l_told R W]
  rw [for_items (rng1_ok (n := r + 1) (S1 := [h3]) (by dsimp! [e3, er] <;> rfl) (by omega))]
  refine then_ends (Q1 := fun o S => ∃ (s : Shp) (h : O) (x4 x5 x6 x8 : Option D), o = .nx [some (.dat (.scr ns)), some (.obj 0), some (.dat (shP s)), some (.dat (.tup [.tup (ps.map ov), .tup (ws.map .int)])), x4, x5, x6, none, x8, none] ∧ S = [h] ∧ Hd h ∧ RS s ∧ Told s ps ws) ?_ ?_
  · refine forL_ends (fun i δ S => ∃ (s : Shp) (h : O) (x4 x5 x6 x8 : Option D), δ = [some (.dat (.scr ns)), some (.obj 0), some (.dat (shP s)), some (.dat (.tup [.tup (ps.map ov), .tup (ws.map .int)])), x4, x5, x6, none, x8, none] ∧ S = [h] ∧ Hd h ∧ RS s ∧ Told s ps ws) (i := 0) ⟨s, h3, _, _, _, _, rfl, rfl, H3, R, W⟩ ?_ (fun δ S ⟨s, h, x4, x5, x6, x8, a, b⟩ => ⟨s, h, x4, x5, x6, x8, by rw [a], b⟩)
    clear e2 R W H2 H3 e3 e1 e0 H0 H1
    rintro i d δ S hd ⟨s, h, x4, x5, x6, x8, rfl, rfl, H, R, W⟩
    obtain ⟨_, rfl⟩ := rngD_get hd
    have n64 := R.n64
    have n1 := R.n1
    obtain ⟨k, h1, hk, H1, e1⟩ := draw_s g H (n := (s.length : Int)) (by omega) (by omega) cs_nil
    have hk' : k < s.length := by omega
    obtain ⟨q, h2, hq, H2, e2⟩ := draw_s g H1 (n := 3) (by omega) (by omega) cs_nil
    obtain ⟨sn, hsn⟩ : ∃ sn, sn = (List.range s.length).filter fun k => sonB s k := ⟨_, rfl⟩
    have lc : ∀ x8, mLc (mRng1 (mCons (mCall aLen (mCons (mVar 2) mNil)) mNil)) (gmName 7) (mTst (mDef 2 (mPure (m_L_is_son g)) (mCons (mVar 2) (mCons (mVar 7) mNil)))) (mVar 7) [7] [some (.dat (.scr ns)), some (.obj 0), some (.dat (shP s)), some (.dat (.tup [.tup (ps.map ov), .tup (ws.map .int)])), some (.dat (.int (0 + (i : Int)))), some (.dat (.int (k : Int))), x6, none, x8, none] [h1] = .ok ((sn.map nv).map .dat) [h1] := fun x8 => by
      rw [lc_map (xs := List.range s.length) (fun k => .dat (nv k)) (fun k => if sonB s k = true then some (nv k) else none) (rng0_ok (n := s.length) (by dsimp! [shP_len] <;> rfl) (by omega)) (by rw [List.length_range]; omega) fun k m => ⟨_, rfl, by
        have hk := List.mem_range.mp m
        cases c : sonB s k with
        | true => exact ⟨by dsimp! [l_is_son R hk, c], by dsimp! []⟩
        | false =>
          show mTst _ _ _ = _
          dsimp! [l_is_son R hk, c]⟩]
      rw [fm_filter, hsn]
    have lsn : sn.length ≤ 64 := by
      rw [hsn]
      have := List.length_filter_le (fun k => sonB s k) (List.range s.length)
      rw [List.length_range] at this
      omega
    simp only [Int.zero_add] at lc ⊢
    have k' : ∀ S : Store, mPure (m_L_is_handed g) [.dat (shP s), .dat (.int (k : Int))] S = .ok (.dat (.tup [.bl true, shP (handOn s k)])) S := is_handed_t X R hk'
    obtain ⟨xk, exk⟩ := at_of hk'
    dsimp! [shP_len, e1, lc, e2]
    refine then_ends (Q1 := fun o S => ∃ (s : Shp) (h : O), o = .nx [some (.dat (.scr ns)), some (.obj 0), some (.dat (shP s)), some (.dat (.tup [.tup (ps.map ov), .tup (ws.map .int)])), some (.dat (.int (i : Int))), some (.dat (.int (k : Int))), some (.dat (.lst (sn.map nv))), none, some (.dat (.bl true)), none] ∧ S = [h] ∧ Hd h ∧ RS s ∧ Told s ps ws) ?_ ?_
    · by_cases c : (q : Int) = 0
      · dsimp! [decide_eq_true c, k', l2]
        exact .of ⟨_, _, rfl, rfl, H2, handOn_rs exk R, handOn_told exk R W⟩
      · by_cases c2 : ((sn.map nv).length : Int) = 0
        · dsimp! [decide_eq_false c, len_l, decide_eq_true c2, k', l2]
          exact .of ⟨_, _, rfl, rfl, H2, handOn_rs exk R, handOn_told exk R W⟩
        · obtain ⟨j, h3, hj, H3, e3⟩ := draw_s g H2 (n := ((sn.map nv).length : Int)) (by omega) (by rw [List.length_map]; omega) cs_nil
          have hj' : j < sn.length := by rw [List.length_map] at hj; omega
          have ej : sn[j]? = some sn[j] := List.getElem?_eq_getElem hj'
          have mj := List.mem_of_getElem? ej
          generalize sn[j] = t at ej mj
          rw [hsn] at mj
          obtain ⟨_, bt⟩ := List.mem_filter.mp mj
          obtain ⟨a, so⟩ := R.sonB.mp bt
          have ix : ∀ S : Store, aIx S (.dat (.lst (sn.map nv))) (.dat (.int (j : Int))) = some (.dat (nv t)) := fun S => ix_l (atN (map_get ej))
          dsimp! [decide_eq_false c, len_l, decide_eq_false c2, e3, ix, is_turned_t X R so, l2]
          exact .of ⟨_, _, rfl, rfl, H3, (turnUp_rs R so).1, turnUp_told R so W⟩
    · rintro o S ⟨s, h, rfl, rfl, H, R, W⟩
      dsimp! [l_told R W, ne0]
      exact .of (tm ⟨s, h, _, _, _, _, rfl, rfl, H, R, W⟩)
  · rintro o S ⟨s, h, x4, x5, x6, x8, rfl, rfl, H, R, W⟩
    dsimp! [told_t X R W, fld_parents X, fld_worths X, l2, is1]
    exact .of ⟨_, rfl, rfl⟩
end W3
namespace W3
open PySem PySem.Spec PyProof.Rows L2 M3
theorem def_mk {K : PySem.W.Frag} {h : Heap} {mg : Str → Option Value} (X : K.In h) (G : h.Ns mainGlobals mg) {x : Str} {st : Stmt} {ps : List Str} {f : Addr} {oc : Value} {od an : Option Addr} {osl : Array (Option Value)} {kV doc pm cdv ct : Value}
    (a : PySem.W.nsIn K mainGlobals x = some (some (.ref f))) (l : K.lookup f = some ⟨oc, od, .func (PySem.W.fnOf x x (defArgs st) (defBody st) (defScope st) .none kV doc pm an cdv ct), osl⟩) (c : PySem.W.codeIn K cdv x = true) (k : PySem.W.keepIn K (.ref f) = true)
    (b : ∀ (kV doc pm : Value) (an : Option Addr) (cdv ct : Value) (us : List Value), us.length = ps.length → bindArgs (PySem.W.fnOf x x (defArgs st) (defBody st) (defScope st) .none kV doc pm an cdv ct) ⟨us, []⟩ = pure (ps.zip us)) : M3.Def K mg x st ps :=
  ⟨f, _, fun_mk (st := st) l c k, PySem.W.mg_of X G a, (fun_mk (st := st) l c k).binds b⟩
section
variable {P : Program} {w : World} {g : G} {mg : Str → Option Value} {base : Heap} {f_eBadForest f_eNoHouse f_eNoShape f_eNoTurn f_iForest f_iStand : Addr}

theorem ok_all (T : Txt mg) (Z : Fx g w mg f_eBadForest f_eNoHouse f_eNoShape f_eNoTurn f_iForest f_iStand) (GX : Gx g) {fd_Stand_init : FuncData} (FN_Stand_init : Fun g.K "__init__" "Stand.__init__" s_Stand_init f_iStand fd_Stand_init) (B_Stand_init : Binds g.K fd_Stand_init ["self", "part"] []) {fd_Forest_init : FuncData} (FN_Forest_init : Fun g.K "__init__" "Forest.__init__" s_Forest_init f_iForest fd_Forest_init) (B_Forest_init : Binds g.K fd_Forest_init ["self", "parents", "worths"] []) {f0 : Addr} {fd0 : FuncData} (FL : Fun g.K "law" "law" s_law f0 fd0) (D_is_integer : M3.Def g.K mg "is_integer" s_is_integer ["thing"]) (D_come_to_roots : M3.Def g.K mg "come_to_roots" s_come_to_roots ["parents"]) (D_has_its_sons : M3.Def g.K mg "_has_its_sons" s_has_its_sons ["parts", "house"]) (D_shape_of : M3.Def g.K mg "shape_of" s_shape_of ["stands"]) (D_is_top : M3.Def g.K mg "is_top" s_is_top ["stands", "house"]) (D_line_up : M3.Def g.K mg "line_up" s_line_up ["stands", "house"]) (D_hand_on : M3.Def g.K mg "hand_on" s_hand_on ["stands", "house"]) (D_take_place : M3.Def g.K mg "_take_place" s_take_place ["stands", "house", "ahead"]) (D_L_hand : M3.Def g.K mg "_law_hand" s_L_hand ["_law_script"]) (D_L_draw : M3.Def g.K mg "_law_draw" s_L_draw ["_law_hand_here", "_law_many_here"]) (D_L_house : M3.Def g.K mg "_law_house" s_L_house ["_law_up", "_law_value_here"]) (D_L_is_son : M3.Def g.K mg "_law_is_son" s_L_is_son ["_law_shape_here", "_law_house_here"]) (D_L_hand_on : M3.Def g.K mg "_law_hand_on" s_L_hand_on ["_law_shape_here", "_law_house_here"]) (D_L_listed : M3.Def g.K mg "_law_listed" s_L_listed ["_law_shape_here"]) (D_L_tupled : M3.Def g.K mg "_law_tupled" s_L_tupled ["_law_shape_here"]) (D_is_between : M3.Def g.K mg "is_between" s_is_between ["least", "most", "thing"]) (D_are_worths : M3.Def g.K mg "_are_worths" s_are_worths ["thing", "houses"]) (D_told_worth : M3.Def g.K mg "_told_worth" s_told_worth ["stands", "house"]) (D_weights_of : M3.Def g.K mg "_weights_of" s_weights_of ["stands"]) (D_turn_up : M3.Def g.K mg "turn_up" s_turn_up ["stands", "house"]) (D_L_value : M3.Def g.K mg "_law_value" s_L_value ["_law_hand_here"]) (D_L_many : M3.Def g.K mg "_law_many" s_L_many ["_law_hand_here", "_law_most"]) (D_L_shuffled : M3.Def g.K mg "_law_shuffled" s_L_shuffled ["_law_hand_here", "_law_many_here"]) (D_L_tops : M3.Def g.K mg "_law_tops" s_L_tops ["_law_shape_here"]) (D_L_turn_up : M3.Def g.K mg "_law_turn_up" s_L_turn_up ["_law_shape_here", "_law_house_here"]) (D_is_house : M3.Def g.K mg "is_house" s_is_house ["many", "thing"]) (D_is_many : M3.Def g.K mg "is_many" s_is_many ["thing"]) (D_told_worths : M3.Def g.K mg "told_worths" s_told_worths ["stands"]) (D_L_shape : M3.Def g.K mg "_law_shape" s_L_shape ["_law_hand_here", "_law_many_here"]) (D_are_parents : M3.Def g.K mg "_are_parents" s_are_parents ["thing"]) (D_is_part : M3.Def g.K mg "_is_part" s_is_part ["many", "thing"]) (D_need_house : M3.Def g.K mg "need_house" s_need_house ["stands", "thing"]) (D_is_shape : M3.Def g.K mg "is_shape" s_is_shape ["thing"]) (D_stands_of : M3.Def g.K mg "stands_of" s_stands_of ["shape"]) (D_weights : M3.Def g.K mg "weights" s_weights ["shape"]) (D_handed_on : M3.Def g.K mg "handed_on" s_handed_on ["shape", "house"]) (D_turned_up : M3.Def g.K mg "turned_up" s_turned_up ["shape", "house"]) (D_L_is : M3.Def g.K mg "_law_is" s_L_is ["_law_told_here", "_law_due"]) (D_L_is_handed : M3.Def g.K mg "_law_is_handed" s_L_is_handed ["_law_shape_here", "_law_house_here"]) (D_L_is_turned : M3.Def g.K mg "_law_is_turned" s_L_is_turned ["_law_shape_here", "_law_house_here"]) (D_part_in_order : M3.Def g.K mg "_part_in_order" s_part_in_order ["stands", "house", "backwards"]) (D_L_order : M3.Def g.K mg "_law_order" s_L_order ["_law_shape_here", "_law_house_here"]) (D_row_in_order : M3.Def g.K mg "row_in_order" s_row_in_order ["stands", "top"]) (D_L_told : M3.Def g.K mg "_law_told" s_L_told ["_law_shape_here"]) (D_forest_of : M3.Def g.K mg "forest_of" s_forest_of ["stands"]) (D_told_forest : M3.Def g.K mg "told_forest" s_told_forest ["shape"]) : FnOk P w g.K mg base (L2.CX P w) 75 f0 fd0 ["_law_script"] (spLaw g.K) := by
  have C_is_integer := ok_is_integer (P := P) (w := w) (base := base) D_is_integer T Z
  have C_come_to_roots := ok_come_to_roots (P := P) (w := w) (base := base) D_come_to_roots T Z
  have F_Stand_init := (ok_Stand_init (P := P) (w := w) (base := base) FN_Stand_init T Z)
  have C_has_its_sons := ok_has_its_sons (P := P) (w := w) (base := base) D_has_its_sons T Z
  have C_shape_of := ok_shape_of (P := P) (w := w) (base := base) D_shape_of T Z
  have C_is_top := ok_is_top (P := P) (w := w) (base := base) D_is_top T Z
  have C_line_up := ok_line_up (P := P) (w := w) (base := base) D_line_up T Z
  have C_hand_on := ok_hand_on (P := P) (w := w) (base := base) D_hand_on T Z
  have C_take_place := ok_take_place (P := P) (w := w) (base := base) D_take_place T Z
  have C_L_hand := ok_L_hand (P := P) (w := w) (base := base) D_L_hand T Z
  have C_L_draw := ok_L_draw (P := P) (w := w) (base := base) D_L_draw T Z
  have C_L_house := ok_L_house (P := P) (w := w) (base := base) D_L_house T Z
  have C_L_is_son := ok_L_is_son (P := P) (w := w) (base := base) D_L_is_son T Z
  have C_L_hand_on := ok_L_hand_on (P := P) (w := w) (base := base) D_L_hand_on T Z
  have C_L_listed := ok_L_listed (P := P) (w := w) (base := base) D_L_listed T Z
  have C_L_tupled := ok_L_tupled (P := P) (w := w) (base := base) D_L_tupled T Z
  have C_is_between := ok_is_between (P := P) (w := w) (base := base) D_is_between T Z C_is_integer
  have C_are_worths := ok_are_worths (P := P) (w := w) (base := base) D_are_worths T Z C_is_integer
  have C_told_worth := ok_told_worth (P := P) (w := w) (base := base) D_told_worth T Z C_is_top
  have C_weights_of := ok_weights_of (P := P) (w := w) (base := base) D_weights_of T Z C_line_up
  have C_turn_up := ok_turn_up (P := P) (w := w) (base := base) D_turn_up T Z C_take_place C_hand_on
  have C_L_value := ok_L_value (P := P) (w := w) (base := base) D_L_value T Z C_L_draw
  have C_L_many := ok_L_many (P := P) (w := w) (base := base) D_L_many T Z C_L_draw
  have C_L_shuffled := ok_L_shuffled (P := P) (w := w) (base := base) D_L_shuffled T Z C_L_draw
  have C_L_tops := ok_L_tops (P := P) (w := w) (base := base) D_L_tops T Z C_L_is_son
  have C_L_turn_up := ok_L_turn_up (P := P) (w := w) (base := base) D_L_turn_up T Z C_L_hand_on
  have C_is_house := ok_is_house (P := P) (w := w) (base := base) D_is_house T Z C_is_between
  have C_is_many := ok_is_many (P := P) (w := w) (base := base) D_is_many T Z C_is_between
  have C_told_worths := ok_told_worths (P := P) (w := w) (base := base) D_told_worths T Z C_told_worth
  have C_L_shape := ok_L_shape (P := P) (w := w) (base := base) D_L_shape T Z C_L_draw C_L_house C_L_value C_L_shuffled
  have C_are_parents := ok_are_parents (P := P) (w := w) (base := base) D_are_parents T Z C_come_to_roots C_is_house C_is_many
  have C_is_part := ok_is_part (P := P) (w := w) (base := base) D_is_part T Z C_is_integer C_is_house
  have C_need_house := ok_need_house (P := P) (w := w) (base := base) D_need_house T Z C_is_house
  have F_Forest_init := (ok_Forest_init (P := P) (w := w) (base := base) FN_Forest_init T Z C_are_worths C_are_parents)
  have C_is_shape := ok_is_shape (P := P) (w := w) (base := base) D_is_shape T Z C_come_to_roots C_has_its_sons C_is_part C_is_many
  have C_stands_of := ok_stands_of (P := P) (w := w) (base := base) D_stands_of T Z F_Stand_init B_Stand_init C_is_shape
  have C_weights := ok_weights (P := P) (w := w) (base := base) D_weights T Z C_weights_of C_stands_of
  have C_handed_on := ok_handed_on (P := P) (w := w) (base := base) D_handed_on T Z C_shape_of C_hand_on C_need_house C_stands_of
  have C_turned_up := ok_turned_up (P := P) (w := w) (base := base) D_turned_up T Z C_shape_of C_turn_up C_is_top C_need_house C_stands_of
  have C_L_is := ok_L_is (P := P) (w := w) (base := base) D_L_is T Z 60
  have C_L_is_handed := ok_L_is_handed (P := P) (w := w) (base := base) D_L_is_handed T Z C_L_tupled C_L_is C_handed_on C_L_hand_on C_L_listed
  have C_L_is_turned := ok_L_is_turned (P := P) (w := w) (base := base) D_L_is_turned T Z C_weights C_L_is C_turned_up C_L_tupled C_L_turn_up C_L_listed
  have C_part_in_order := ok_part_in_order (P := P) (w := w) (base := base) D_part_in_order T Z 70
  have C_L_order := ok_L_order (P := P) (w := w) (base := base) D_L_order T Z 70
  have C_row_in_order := ok_row_in_order (P := P) (w := w) (base := base) D_row_in_order T Z C_part_in_order
  have C_L_told := ok_L_told (P := P) (w := w) (base := base) D_L_told T Z C_L_is_son C_L_tops C_L_order
  have C_forest_of := ok_forest_of (P := P) (w := w) (base := base) D_forest_of T Z F_Forest_init B_Forest_init C_told_worths C_is_top C_row_in_order
  have C_told_forest := ok_told_forest (P := P) (w := w) (base := base) D_told_forest T Z C_forest_of C_stands_of
  exact (ok_law FL T Z C_L_is C_told_forest C_L_draw C_L_told C_L_is_handed C_L_is_turned C_L_is_son C_L_shape C_L_many C_L_hand).imp fun vs H Q E h => law_sp (law_true g GX) vs H Q E h
end
theorem walk {l : PySem.W.OpenLaw} {q : Program} {loose : List Str} {XP : (Str → Option Value) → Heap → Prop} {YP : World → Heap → Prop} {d : DefRec} {K : Params → PySem.W.Frag} (hn : l.most = some 63) (hdf : d.params.defaults = [])
    (hY : ∀ (w : World) (h : Heap), YP w h → (K w.params).In h)
    (F : ∀ (w : World) (mg : Str → Option Value) (fa : Addr) (h : Heap), (K w.params).In h → h.Ns mainGlobals mg → mg d.name = some (.ref fa) →
      ∃ fd : FuncData, (∀ (s : Shared) (u : Value), BindsTo s fd ⟨[u], []⟩ [("_law_script", u)]) ∧ ∀ base : Heap, (K w.params).In base → base.Ns mainGlobals mg → FnOk l.prog w (K w.params) mg base (L2.CX l.prog w) 75 fa fd ["_law_script"] (spLaw (K w.params))) :
    PySem.W.WalkO q loose XP YP l.row.toRowW d [] (fun f vs => PySem.call f vs) :=
  L2.walk_of (n := 63) (k := 75) (x := "_law_script") (CX := fun w => L2.CX l.prog w) (sp := fun w => spLaw (K w.params)) hn (by decide) hdf ⟨rfl, by decide, by decide⟩ hY F (fun _ _ a ns hl _ hS => ⟨a, ns, rfl, hS, hl, fun _ => rfl⟩) fun _ _ _ _ _ ⟨_, _, _, _, _, _, _, _, _, _, _, _, z⟩ => z.elim
def mkG (K : PySem.W.Frag) (A_Forest A_Stand A_BadForest A_NoHouse A_NoShape A_NoTurn : Addr) : G := { K := K, CS := [A_Forest, A_Stand], FL := [(A_Forest, ("parents" : Str)), (A_Forest, ("worths" : Str)), (A_Stand, ("up" : Str)), (A_Stand, ("left" : Str)), (A_Stand, ("right" : Str)), (A_Stand, ("turned" : Str)), (A_Stand, ("added" : Str)), (A_Stand, ("value" : Str))], ForestError := 0, BadForest := A_BadForest, NoHouse := A_NoHouse, NoDeed := 0, BadDeeds := 0, NoNumber := 0, NoAsk := 0, NoShape := A_NoShape, NoTurn := A_NoTurn, BadAccount := 0, NoMoment := 0, NoWeight := 0, Full := 0, BadHistory := 0, NoParcel := 0, NoRow := 0, BadRow := 0, NoCut := 0, NoBlocks := 0, NoDisk := 0, OtherForest := 0, NoThing := 0, BadThing := 0, BadText := 0, NothingDone := 0, NoLine := 0, NoName := 0, Forest := A_Forest, Stand := A_Stand, Kept := 0, Account := 0, Roads := 0, History := 0, Disk := 0, SavedKept := 0, Reel := 0, Work := 0, Desk := 0, FORMS := 0, FLAGS := 0, OF_FORESTS := 0, OF_ACCOUNTS := 0 }
theorem all_mk {P : Program} {w : World} {K : PySem.W.Frag} {h : Heap} {mg : Str → Option Value} {fa A_Forest A_Stand A_BadForest A_NoHouse A_NoShape A_NoTurn f_eBadForest f_eNoHouse f_eNoShape f_eNoTurn f_iForest f_iStand f_is_integer f_come_to_roots f_has_its_sons f_shape_of f_is_top f_line_up f_hand_on f_take_place f_L_hand f_L_draw f_L_house f_L_is_son f_L_hand_on f_L_listed f_L_tupled f_is_between f_are_worths f_told_worth f_weights_of f_turn_up f_L_value f_L_many f_L_shuffled f_L_tops f_L_turn_up f_is_house f_is_many f_told_worths f_L_shape f_are_parents f_is_part f_need_house f_is_shape f_stands_of f_weights f_handed_on f_turned_up f_L_is f_L_is_handed f_L_is_turned f_part_in_order f_L_order f_row_in_order f_L_told f_forest_of f_told_forest f_law : Addr} (X : K.In h) (G : h.Ns mainGlobals mg) (hfa : mg "law" = some (.ref fa))
        {od_Stand_init an_Stand_init : Option Addr} {sl_Stand_init : Array (Option Value)} {oc_Stand_init kV_Stand_init dc_Stand_init pm_Stand_init cd_Stand_init ct_Stand_init : Value}
    {od_Forest_init an_Forest_init : Option Addr} {sl_Forest_init : Array (Option Value)} {oc_Forest_init kV_Forest_init dc_Forest_init pm_Forest_init cd_Forest_init ct_Forest_init : Value}
    {od_is_integer an_is_integer : Option Addr} {sl_is_integer : Array (Option Value)} {oc_is_integer kV_is_integer dc_is_integer pm_is_integer cd_is_integer ct_is_integer : Value}
    {od_come_to_roots an_come_to_roots : Option Addr} {sl_come_to_roots : Array (Option Value)} {oc_come_to_roots kV_come_to_roots dc_come_to_roots pm_come_to_roots cd_come_to_roots ct_come_to_roots : Value}
    {od_has_its_sons an_has_its_sons : Option Addr} {sl_has_its_sons : Array (Option Value)} {oc_has_its_sons kV_has_its_sons dc_has_its_sons pm_has_its_sons cd_has_its_sons ct_has_its_sons : Value}
    {od_shape_of an_shape_of : Option Addr} {sl_shape_of : Array (Option Value)} {oc_shape_of kV_shape_of dc_shape_of pm_shape_of cd_shape_of ct_shape_of : Value}
    {od_is_top an_is_top : Option Addr} {sl_is_top : Array (Option Value)} {oc_is_top kV_is_top dc_is_top pm_is_top cd_is_top ct_is_top : Value}
    {od_line_up an_line_up : Option Addr} {sl_line_up : Array (Option Value)} {oc_line_up kV_line_up dc_line_up pm_line_up cd_line_up ct_line_up : Value}
    {od_hand_on an_hand_on : Option Addr} {sl_hand_on : Array (Option Value)} {oc_hand_on kV_hand_on dc_hand_on pm_hand_on cd_hand_on ct_hand_on : Value}
    {od_take_place an_take_place : Option Addr} {sl_take_place : Array (Option Value)} {oc_take_place kV_take_place dc_take_place pm_take_place cd_take_place ct_take_place : Value}
    {od_L_hand an_L_hand : Option Addr} {sl_L_hand : Array (Option Value)} {oc_L_hand kV_L_hand dc_L_hand pm_L_hand cd_L_hand ct_L_hand : Value}
    {od_L_draw an_L_draw : Option Addr} {sl_L_draw : Array (Option Value)} {oc_L_draw kV_L_draw dc_L_draw pm_L_draw cd_L_draw ct_L_draw : Value}
    {od_L_house an_L_house : Option Addr} {sl_L_house : Array (Option Value)} {oc_L_house kV_L_house dc_L_house pm_L_house cd_L_house ct_L_house : Value}
    {od_L_is_son an_L_is_son : Option Addr} {sl_L_is_son : Array (Option Value)} {oc_L_is_son kV_L_is_son dc_L_is_son pm_L_is_son cd_L_is_son ct_L_is_son : Value}
    {od_L_hand_on an_L_hand_on : Option Addr} {sl_L_hand_on : Array (Option Value)} {oc_L_hand_on kV_L_hand_on dc_L_hand_on pm_L_hand_on cd_L_hand_on ct_L_hand_on : Value}
    {od_L_listed an_L_listed : Option Addr} {sl_L_listed : Array (Option Value)} {oc_L_listed kV_L_listed dc_L_listed pm_L_listed cd_L_listed ct_L_listed : Value}
    {od_L_tupled an_L_tupled : Option Addr} {sl_L_tupled : Array (Option Value)} {oc_L_tupled kV_L_tupled dc_L_tupled pm_L_tupled cd_L_tupled ct_L_tupled : Value}
    {od_is_between an_is_between : Option Addr} {sl_is_between : Array (Option Value)} {oc_is_between kV_is_between dc_is_between pm_is_between cd_is_between ct_is_between : Value}
    {od_are_worths an_are_worths : Option Addr} {sl_are_worths : Array (Option Value)} {oc_are_worths kV_are_worths dc_are_worths pm_are_worths cd_are_worths ct_are_worths : Value}
    {od_told_worth an_told_worth : Option Addr} {sl_told_worth : Array (Option Value)} {oc_told_worth kV_told_worth dc_told_worth pm_told_worth cd_told_worth ct_told_worth : Value}
    {od_weights_of an_weights_of : Option Addr} {sl_weights_of : Array (Option Value)} {oc_weights_of kV_weights_of dc_weights_of pm_weights_of cd_weights_of ct_weights_of : Value}
    {od_turn_up an_turn_up : Option Addr} {sl_turn_up : Array (Option Value)} {oc_turn_up kV_turn_up dc_turn_up pm_turn_up cd_turn_up ct_turn_up : Value}
    {od_L_value an_L_value : Option Addr} {sl_L_value : Array (Option Value)} {oc_L_value kV_L_value dc_L_value pm_L_value cd_L_value ct_L_value : Value}
    {od_L_many an_L_many : Option Addr} {sl_L_many : Array (Option Value)} {oc_L_many kV_L_many dc_L_many pm_L_many cd_L_many ct_L_many : Value}
    {od_L_shuffled an_L_shuffled : Option Addr} {sl_L_shuffled : Array (Option Value)} {oc_L_shuffled kV_L_shuffled dc_L_shuffled pm_L_shuffled cd_L_shuffled ct_L_shuffled : Value}
    {od_L_tops an_L_tops : Option Addr} {sl_L_tops : Array (Option Value)} {oc_L_tops kV_L_tops dc_L_tops pm_L_tops cd_L_tops ct_L_tops : Value}
    {od_L_turn_up an_L_turn_up : Option Addr} {sl_L_turn_up : Array (Option Value)} {oc_L_turn_up kV_L_turn_up dc_L_turn_up pm_L_turn_up cd_L_turn_up ct_L_turn_up : Value}
    {od_is_house an_is_house : Option Addr} {sl_is_house : Array (Option Value)} {oc_is_house kV_is_house dc_is_house pm_is_house cd_is_house ct_is_house : Value}
    {od_is_many an_is_many : Option Addr} {sl_is_many : Array (Option Value)} {oc_is_many kV_is_many dc_is_many pm_is_many cd_is_many ct_is_many : Value}
    {od_told_worths an_told_worths : Option Addr} {sl_told_worths : Array (Option Value)} {oc_told_worths kV_told_worths dc_told_worths pm_told_worths cd_told_worths ct_told_worths : Value}
    {od_L_shape an_L_shape : Option Addr} {sl_L_shape : Array (Option Value)} {oc_L_shape kV_L_shape dc_L_shape pm_L_shape cd_L_shape ct_L_shape : Value}
    {od_are_parents an_are_parents : Option Addr} {sl_are_parents : Array (Option Value)} {oc_are_parents kV_are_parents dc_are_parents pm_are_parents cd_are_parents ct_are_parents : Value}
    {od_is_part an_is_part : Option Addr} {sl_is_part : Array (Option Value)} {oc_is_part kV_is_part dc_is_part pm_is_part cd_is_part ct_is_part : Value}
    {od_need_house an_need_house : Option Addr} {sl_need_house : Array (Option Value)} {oc_need_house kV_need_house dc_need_house pm_need_house cd_need_house ct_need_house : Value}
    {od_is_shape an_is_shape : Option Addr} {sl_is_shape : Array (Option Value)} {oc_is_shape kV_is_shape dc_is_shape pm_is_shape cd_is_shape ct_is_shape : Value}
    {od_stands_of an_stands_of : Option Addr} {sl_stands_of : Array (Option Value)} {oc_stands_of kV_stands_of dc_stands_of pm_stands_of cd_stands_of ct_stands_of : Value}
    {od_weights an_weights : Option Addr} {sl_weights : Array (Option Value)} {oc_weights kV_weights dc_weights pm_weights cd_weights ct_weights : Value}
    {od_handed_on an_handed_on : Option Addr} {sl_handed_on : Array (Option Value)} {oc_handed_on kV_handed_on dc_handed_on pm_handed_on cd_handed_on ct_handed_on : Value}
    {od_turned_up an_turned_up : Option Addr} {sl_turned_up : Array (Option Value)} {oc_turned_up kV_turned_up dc_turned_up pm_turned_up cd_turned_up ct_turned_up : Value}
    {od_L_is an_L_is : Option Addr} {sl_L_is : Array (Option Value)} {oc_L_is kV_L_is dc_L_is pm_L_is cd_L_is ct_L_is : Value}
    {od_L_is_handed an_L_is_handed : Option Addr} {sl_L_is_handed : Array (Option Value)} {oc_L_is_handed kV_L_is_handed dc_L_is_handed pm_L_is_handed cd_L_is_handed ct_L_is_handed : Value}
    {od_L_is_turned an_L_is_turned : Option Addr} {sl_L_is_turned : Array (Option Value)} {oc_L_is_turned kV_L_is_turned dc_L_is_turned pm_L_is_turned cd_L_is_turned ct_L_is_turned : Value}
    {od_part_in_order an_part_in_order : Option Addr} {sl_part_in_order : Array (Option Value)} {oc_part_in_order kV_part_in_order dc_part_in_order pm_part_in_order cd_part_in_order ct_part_in_order : Value}
    {od_L_order an_L_order : Option Addr} {sl_L_order : Array (Option Value)} {oc_L_order kV_L_order dc_L_order pm_L_order cd_L_order ct_L_order : Value}
    {od_row_in_order an_row_in_order : Option Addr} {sl_row_in_order : Array (Option Value)} {oc_row_in_order kV_row_in_order dc_row_in_order pm_row_in_order cd_row_in_order ct_row_in_order : Value}
    {od_L_told an_L_told : Option Addr} {sl_L_told : Array (Option Value)} {oc_L_told kV_L_told dc_L_told pm_L_told cd_L_told ct_L_told : Value}
    {od_forest_of an_forest_of : Option Addr} {sl_forest_of : Array (Option Value)} {oc_forest_of kV_forest_of dc_forest_of pm_forest_of cd_forest_of ct_forest_of : Value}
    {od_told_forest an_told_forest : Option Addr} {sl_told_forest : Array (Option Value)} {oc_told_forest kV_told_forest dc_told_forest pm_told_forest cd_told_forest ct_told_forest : Value}
    {od_law an_law : Option Addr} {sl_law : Array (Option Value)} {oc_law kV_law dc_law pm_law cd_law ct_law : Value}
    {nm_BadForest qn_BadForest : Str} {N_BadForest B_BadForest : Addr} {bs_BadForest : List Value} {sn_BadForest : List Str} {su_BadForest : List Value} {ab_BadForest : Bool} {co_BadForest : Option Bool} {dd_BadForest : Option Addr} {m0_BadForest m1_BadForest m2_BadForest m3_BadForest m5_BadForest : Option Value} {odx_BadForest anx_BadForest : Option Addr} {slx_BadForest : Array (Option Value)} {ocx_BadForest dcx_BadForest pmx_BadForest cdx_BadForest ctx_BadForest : Value}
    {nm_NoHouse qn_NoHouse : Str} {N_NoHouse B_NoHouse : Addr} {bs_NoHouse : List Value} {sn_NoHouse : List Str} {su_NoHouse : List Value} {ab_NoHouse : Bool} {co_NoHouse : Option Bool} {dd_NoHouse : Option Addr} {m0_NoHouse m1_NoHouse m2_NoHouse m3_NoHouse m5_NoHouse : Option Value} {odx_NoHouse anx_NoHouse : Option Addr} {slx_NoHouse : Array (Option Value)} {ocx_NoHouse dcx_NoHouse pmx_NoHouse cdx_NoHouse ctx_NoHouse : Value}
    {nm_NoShape qn_NoShape : Str} {N_NoShape B_NoShape : Addr} {bs_NoShape : List Value} {sn_NoShape : List Str} {su_NoShape : List Value} {ab_NoShape : Bool} {co_NoShape : Option Bool} {dd_NoShape : Option Addr} {m0_NoShape m1_NoShape m2_NoShape m3_NoShape m5_NoShape : Option Value} {odx_NoShape anx_NoShape : Option Addr} {slx_NoShape : Array (Option Value)} {ocx_NoShape dcx_NoShape pmx_NoShape cdx_NoShape ctx_NoShape : Value}
    {nm_NoTurn qn_NoTurn : Str} {N_NoTurn B_NoTurn : Addr} {bs_NoTurn : List Value} {sn_NoTurn : List Str} {su_NoTurn : List Value} {ab_NoTurn : Bool} {co_NoTurn : Option Bool} {dd_NoTurn : Option Addr} {m0_NoTurn m1_NoTurn m2_NoTurn m3_NoTurn m5_NoTurn : Option Value} {odx_NoTurn anx_NoTurn : Option Addr} {slx_NoTurn : Array (Option Value)} {ocx_NoTurn dcx_NoTurn pmx_NoTurn cdx_NoTurn ctx_NoTurn : Value}
    {t_MOST_HOUSES : Tok}
    (aC_Forest : PySem.W.nsIn K mainGlobals "Forest" = some (some (.ref A_Forest)))
    (aC_Stand : PySem.W.nsIn K mainGlobals "Stand" = some (some (.ref A_Stand)))
    (aE_BadForest : PySem.W.nsIn K mainGlobals "BadForest" = some (some (.ref A_BadForest)))
    (aE_NoHouse : PySem.W.nsIn K mainGlobals "NoHouse" = some (some (.ref A_NoHouse)))
    (aE_NoShape : PySem.W.nsIn K mainGlobals "NoShape" = some (some (.ref A_NoShape)))
    (aE_NoTurn : PySem.W.nsIn K mainGlobals "NoTurn" = some (some (.ref A_NoTurn)))
    (a_Stand_init : PySem.W.findIn K (.ref A_Stand) "__init__" = some (some (.ref f_iStand)))
    (l_Stand_init : K.lookup f_iStand = some ⟨oc_Stand_init, od_Stand_init, .func (PySem.W.fnOf "__init__" "Stand.__init__" (defArgs s_Stand_init) (defBody s_Stand_init) (defScope s_Stand_init) .none kV_Stand_init dc_Stand_init pm_Stand_init an_Stand_init cd_Stand_init ct_Stand_init), sl_Stand_init⟩)
    (c_Stand_init : PySem.W.codeIn K cd_Stand_init "Stand.__init__" = true)
    (k_Stand_init : PySem.W.keepIn K (.ref f_iStand) = true)
    (a_Forest_init : PySem.W.findIn K (.ref A_Forest) "__init__" = some (some (.ref f_iForest)))
    (l_Forest_init : K.lookup f_iForest = some ⟨oc_Forest_init, od_Forest_init, .func (PySem.W.fnOf "__init__" "Forest.__init__" (defArgs s_Forest_init) (defBody s_Forest_init) (defScope s_Forest_init) .none kV_Forest_init dc_Forest_init pm_Forest_init an_Forest_init cd_Forest_init ct_Forest_init), sl_Forest_init⟩)
    (c_Forest_init : PySem.W.codeIn K cd_Forest_init "Forest.__init__" = true)
    (k_Forest_init : PySem.W.keepIn K (.ref f_iForest) = true)
    (a_is_integer : PySem.W.nsIn K mainGlobals "is_integer" = some (some (.ref f_is_integer)))
    (l_is_integer : K.lookup f_is_integer = some ⟨oc_is_integer, od_is_integer, .func (PySem.W.fnOf "is_integer" "is_integer" (defArgs s_is_integer) (defBody s_is_integer) (defScope s_is_integer) .none kV_is_integer dc_is_integer pm_is_integer an_is_integer cd_is_integer ct_is_integer), sl_is_integer⟩)
    (c_is_integer : PySem.W.codeIn K cd_is_integer "is_integer" = true)
    (k_is_integer : PySem.W.keepIn K (.ref f_is_integer) = true)
    (a_come_to_roots : PySem.W.nsIn K mainGlobals "come_to_roots" = some (some (.ref f_come_to_roots)))
    (l_come_to_roots : K.lookup f_come_to_roots = some ⟨oc_come_to_roots, od_come_to_roots, .func (PySem.W.fnOf "come_to_roots" "come_to_roots" (defArgs s_come_to_roots) (defBody s_come_to_roots) (defScope s_come_to_roots) .none kV_come_to_roots dc_come_to_roots pm_come_to_roots an_come_to_roots cd_come_to_roots ct_come_to_roots), sl_come_to_roots⟩)
    (c_come_to_roots : PySem.W.codeIn K cd_come_to_roots "come_to_roots" = true)
    (k_come_to_roots : PySem.W.keepIn K (.ref f_come_to_roots) = true)
    (a_has_its_sons : PySem.W.nsIn K mainGlobals "_has_its_sons" = some (some (.ref f_has_its_sons)))
    (l_has_its_sons : K.lookup f_has_its_sons = some ⟨oc_has_its_sons, od_has_its_sons, .func (PySem.W.fnOf "_has_its_sons" "_has_its_sons" (defArgs s_has_its_sons) (defBody s_has_its_sons) (defScope s_has_its_sons) .none kV_has_its_sons dc_has_its_sons pm_has_its_sons an_has_its_sons cd_has_its_sons ct_has_its_sons), sl_has_its_sons⟩)
    (c_has_its_sons : PySem.W.codeIn K cd_has_its_sons "_has_its_sons" = true)
    (k_has_its_sons : PySem.W.keepIn K (.ref f_has_its_sons) = true)
    (a_shape_of : PySem.W.nsIn K mainGlobals "shape_of" = some (some (.ref f_shape_of)))
    (l_shape_of : K.lookup f_shape_of = some ⟨oc_shape_of, od_shape_of, .func (PySem.W.fnOf "shape_of" "shape_of" (defArgs s_shape_of) (defBody s_shape_of) (defScope s_shape_of) .none kV_shape_of dc_shape_of pm_shape_of an_shape_of cd_shape_of ct_shape_of), sl_shape_of⟩)
    (c_shape_of : PySem.W.codeIn K cd_shape_of "shape_of" = true)
    (k_shape_of : PySem.W.keepIn K (.ref f_shape_of) = true)
    (a_is_top : PySem.W.nsIn K mainGlobals "is_top" = some (some (.ref f_is_top)))
    (l_is_top : K.lookup f_is_top = some ⟨oc_is_top, od_is_top, .func (PySem.W.fnOf "is_top" "is_top" (defArgs s_is_top) (defBody s_is_top) (defScope s_is_top) .none kV_is_top dc_is_top pm_is_top an_is_top cd_is_top ct_is_top), sl_is_top⟩)
    (c_is_top : PySem.W.codeIn K cd_is_top "is_top" = true)
    (k_is_top : PySem.W.keepIn K (.ref f_is_top) = true)
    (a_line_up : PySem.W.nsIn K mainGlobals "line_up" = some (some (.ref f_line_up)))
    (l_line_up : K.lookup f_line_up = some ⟨oc_line_up, od_line_up, .func (PySem.W.fnOf "line_up" "line_up" (defArgs s_line_up) (defBody s_line_up) (defScope s_line_up) .none kV_line_up dc_line_up pm_line_up an_line_up cd_line_up ct_line_up), sl_line_up⟩)
    (c_line_up : PySem.W.codeIn K cd_line_up "line_up" = true)
    (k_line_up : PySem.W.keepIn K (.ref f_line_up) = true)
    (a_hand_on : PySem.W.nsIn K mainGlobals "hand_on" = some (some (.ref f_hand_on)))
    (l_hand_on : K.lookup f_hand_on = some ⟨oc_hand_on, od_hand_on, .func (PySem.W.fnOf "hand_on" "hand_on" (defArgs s_hand_on) (defBody s_hand_on) (defScope s_hand_on) .none kV_hand_on dc_hand_on pm_hand_on an_hand_on cd_hand_on ct_hand_on), sl_hand_on⟩)
    (c_hand_on : PySem.W.codeIn K cd_hand_on "hand_on" = true)
    (k_hand_on : PySem.W.keepIn K (.ref f_hand_on) = true)
    (a_take_place : PySem.W.nsIn K mainGlobals "_take_place" = some (some (.ref f_take_place)))
    (l_take_place : K.lookup f_take_place = some ⟨oc_take_place, od_take_place, .func (PySem.W.fnOf "_take_place" "_take_place" (defArgs s_take_place) (defBody s_take_place) (defScope s_take_place) .none kV_take_place dc_take_place pm_take_place an_take_place cd_take_place ct_take_place), sl_take_place⟩)
    (c_take_place : PySem.W.codeIn K cd_take_place "_take_place" = true)
    (k_take_place : PySem.W.keepIn K (.ref f_take_place) = true)
    (a_L_hand : PySem.W.nsIn K mainGlobals "_law_hand" = some (some (.ref f_L_hand)))
    (l_L_hand : K.lookup f_L_hand = some ⟨oc_L_hand, od_L_hand, .func (PySem.W.fnOf "_law_hand" "_law_hand" (defArgs s_L_hand) (defBody s_L_hand) (defScope s_L_hand) .none kV_L_hand dc_L_hand pm_L_hand an_L_hand cd_L_hand ct_L_hand), sl_L_hand⟩)
    (c_L_hand : PySem.W.codeIn K cd_L_hand "_law_hand" = true)
    (k_L_hand : PySem.W.keepIn K (.ref f_L_hand) = true)
    (a_L_draw : PySem.W.nsIn K mainGlobals "_law_draw" = some (some (.ref f_L_draw)))
    (l_L_draw : K.lookup f_L_draw = some ⟨oc_L_draw, od_L_draw, .func (PySem.W.fnOf "_law_draw" "_law_draw" (defArgs s_L_draw) (defBody s_L_draw) (defScope s_L_draw) .none kV_L_draw dc_L_draw pm_L_draw an_L_draw cd_L_draw ct_L_draw), sl_L_draw⟩)
    (c_L_draw : PySem.W.codeIn K cd_L_draw "_law_draw" = true)
    (k_L_draw : PySem.W.keepIn K (.ref f_L_draw) = true)
    (a_L_house : PySem.W.nsIn K mainGlobals "_law_house" = some (some (.ref f_L_house)))
    (l_L_house : K.lookup f_L_house = some ⟨oc_L_house, od_L_house, .func (PySem.W.fnOf "_law_house" "_law_house" (defArgs s_L_house) (defBody s_L_house) (defScope s_L_house) .none kV_L_house dc_L_house pm_L_house an_L_house cd_L_house ct_L_house), sl_L_house⟩)
    (c_L_house : PySem.W.codeIn K cd_L_house "_law_house" = true)
    (k_L_house : PySem.W.keepIn K (.ref f_L_house) = true)
    (a_L_is_son : PySem.W.nsIn K mainGlobals "_law_is_son" = some (some (.ref f_L_is_son)))
    (l_L_is_son : K.lookup f_L_is_son = some ⟨oc_L_is_son, od_L_is_son, .func (PySem.W.fnOf "_law_is_son" "_law_is_son" (defArgs s_L_is_son) (defBody s_L_is_son) (defScope s_L_is_son) .none kV_L_is_son dc_L_is_son pm_L_is_son an_L_is_son cd_L_is_son ct_L_is_son), sl_L_is_son⟩)
    (c_L_is_son : PySem.W.codeIn K cd_L_is_son "_law_is_son" = true)
    (k_L_is_son : PySem.W.keepIn K (.ref f_L_is_son) = true)
    (a_L_hand_on : PySem.W.nsIn K mainGlobals "_law_hand_on" = some (some (.ref f_L_hand_on)))
    (l_L_hand_on : K.lookup f_L_hand_on = some ⟨oc_L_hand_on, od_L_hand_on, .func (PySem.W.fnOf "_law_hand_on" "_law_hand_on" (defArgs s_L_hand_on) (defBody s_L_hand_on) (defScope s_L_hand_on) .none kV_L_hand_on dc_L_hand_on pm_L_hand_on an_L_hand_on cd_L_hand_on ct_L_hand_on), sl_L_hand_on⟩)
    (c_L_hand_on : PySem.W.codeIn K cd_L_hand_on "_law_hand_on" = true)
    (k_L_hand_on : PySem.W.keepIn K (.ref f_L_hand_on) = true)
    (a_L_listed : PySem.W.nsIn K mainGlobals "_law_listed" = some (some (.ref f_L_listed)))
    (l_L_listed : K.lookup f_L_listed = some ⟨oc_L_listed, od_L_listed, .func (PySem.W.fnOf "_law_listed" "_law_listed" (defArgs s_L_listed) (defBody s_L_listed) (defScope s_L_listed) .none kV_L_listed dc_L_listed pm_L_listed an_L_listed cd_L_listed ct_L_listed), sl_L_listed⟩)
    (c_L_listed : PySem.W.codeIn K cd_L_listed "_law_listed" = true)
    (k_L_listed : PySem.W.keepIn K (.ref f_L_listed) = true)
    (a_L_tupled : PySem.W.nsIn K mainGlobals "_law_tupled" = some (some (.ref f_L_tupled)))
    (l_L_tupled : K.lookup f_L_tupled = some ⟨oc_L_tupled, od_L_tupled, .func (PySem.W.fnOf "_law_tupled" "_law_tupled" (defArgs s_L_tupled) (defBody s_L_tupled) (defScope s_L_tupled) .none kV_L_tupled dc_L_tupled pm_L_tupled an_L_tupled cd_L_tupled ct_L_tupled), sl_L_tupled⟩)
    (c_L_tupled : PySem.W.codeIn K cd_L_tupled "_law_tupled" = true)
    (k_L_tupled : PySem.W.keepIn K (.ref f_L_tupled) = true)
    (a_is_between : PySem.W.nsIn K mainGlobals "is_between" = some (some (.ref f_is_between)))
    (l_is_between : K.lookup f_is_between = some ⟨oc_is_between, od_is_between, .func (PySem.W.fnOf "is_between" "is_between" (defArgs s_is_between) (defBody s_is_between) (defScope s_is_between) .none kV_is_between dc_is_between pm_is_between an_is_between cd_is_between ct_is_between), sl_is_between⟩)
    (c_is_between : PySem.W.codeIn K cd_is_between "is_between" = true)
    (k_is_between : PySem.W.keepIn K (.ref f_is_between) = true)
    (a_are_worths : PySem.W.nsIn K mainGlobals "_are_worths" = some (some (.ref f_are_worths)))
    (l_are_worths : K.lookup f_are_worths = some ⟨oc_are_worths, od_are_worths, .func (PySem.W.fnOf "_are_worths" "_are_worths" (defArgs s_are_worths) (defBody s_are_worths) (defScope s_are_worths) .none kV_are_worths dc_are_worths pm_are_worths an_are_worths cd_are_worths ct_are_worths), sl_are_worths⟩)
    (c_are_worths : PySem.W.codeIn K cd_are_worths "_are_worths" = true)
    (k_are_worths : PySem.W.keepIn K (.ref f_are_worths) = true)
    (a_told_worth : PySem.W.nsIn K mainGlobals "_told_worth" = some (some (.ref f_told_worth)))
    (l_told_worth : K.lookup f_told_worth = some ⟨oc_told_worth, od_told_worth, .func (PySem.W.fnOf "_told_worth" "_told_worth" (defArgs s_told_worth) (defBody s_told_worth) (defScope s_told_worth) .none kV_told_worth dc_told_worth pm_told_worth an_told_worth cd_told_worth ct_told_worth), sl_told_worth⟩)
    (c_told_worth : PySem.W.codeIn K cd_told_worth "_told_worth" = true)
    (k_told_worth : PySem.W.keepIn K (.ref f_told_worth) = true)
    (a_weights_of : PySem.W.nsIn K mainGlobals "_weights_of" = some (some (.ref f_weights_of)))
    (l_weights_of : K.lookup f_weights_of = some ⟨oc_weights_of, od_weights_of, .func (PySem.W.fnOf "_weights_of" "_weights_of" (defArgs s_weights_of) (defBody s_weights_of) (defScope s_weights_of) .none kV_weights_of dc_weights_of pm_weights_of an_weights_of cd_weights_of ct_weights_of), sl_weights_of⟩)
    (c_weights_of : PySem.W.codeIn K cd_weights_of "_weights_of" = true)
    (k_weights_of : PySem.W.keepIn K (.ref f_weights_of) = true)
    (a_turn_up : PySem.W.nsIn K mainGlobals "turn_up" = some (some (.ref f_turn_up)))
    (l_turn_up : K.lookup f_turn_up = some ⟨oc_turn_up, od_turn_up, .func (PySem.W.fnOf "turn_up" "turn_up" (defArgs s_turn_up) (defBody s_turn_up) (defScope s_turn_up) .none kV_turn_up dc_turn_up pm_turn_up an_turn_up cd_turn_up ct_turn_up), sl_turn_up⟩)
    (c_turn_up : PySem.W.codeIn K cd_turn_up "turn_up" = true)
    (k_turn_up : PySem.W.keepIn K (.ref f_turn_up) = true)
    (a_L_value : PySem.W.nsIn K mainGlobals "_law_value" = some (some (.ref f_L_value)))
    (l_L_value : K.lookup f_L_value = some ⟨oc_L_value, od_L_value, .func (PySem.W.fnOf "_law_value" "_law_value" (defArgs s_L_value) (defBody s_L_value) (defScope s_L_value) .none kV_L_value dc_L_value pm_L_value an_L_value cd_L_value ct_L_value), sl_L_value⟩)
    (c_L_value : PySem.W.codeIn K cd_L_value "_law_value" = true)
    (k_L_value : PySem.W.keepIn K (.ref f_L_value) = true)
    (a_L_many : PySem.W.nsIn K mainGlobals "_law_many" = some (some (.ref f_L_many)))
    (l_L_many : K.lookup f_L_many = some ⟨oc_L_many, od_L_many, .func (PySem.W.fnOf "_law_many" "_law_many" (defArgs s_L_many) (defBody s_L_many) (defScope s_L_many) .none kV_L_many dc_L_many pm_L_many an_L_many cd_L_many ct_L_many), sl_L_many⟩)
    (c_L_many : PySem.W.codeIn K cd_L_many "_law_many" = true)
    (k_L_many : PySem.W.keepIn K (.ref f_L_many) = true)
    (a_L_shuffled : PySem.W.nsIn K mainGlobals "_law_shuffled" = some (some (.ref f_L_shuffled)))
    (l_L_shuffled : K.lookup f_L_shuffled = some ⟨oc_L_shuffled, od_L_shuffled, .func (PySem.W.fnOf "_law_shuffled" "_law_shuffled" (defArgs s_L_shuffled) (defBody s_L_shuffled) (defScope s_L_shuffled) .none kV_L_shuffled dc_L_shuffled pm_L_shuffled an_L_shuffled cd_L_shuffled ct_L_shuffled), sl_L_shuffled⟩)
    (c_L_shuffled : PySem.W.codeIn K cd_L_shuffled "_law_shuffled" = true)
    (k_L_shuffled : PySem.W.keepIn K (.ref f_L_shuffled) = true)
    (a_L_tops : PySem.W.nsIn K mainGlobals "_law_tops" = some (some (.ref f_L_tops)))
    (l_L_tops : K.lookup f_L_tops = some ⟨oc_L_tops, od_L_tops, .func (PySem.W.fnOf "_law_tops" "_law_tops" (defArgs s_L_tops) (defBody s_L_tops) (defScope s_L_tops) .none kV_L_tops dc_L_tops pm_L_tops an_L_tops cd_L_tops ct_L_tops), sl_L_tops⟩)
    (c_L_tops : PySem.W.codeIn K cd_L_tops "_law_tops" = true)
    (k_L_tops : PySem.W.keepIn K (.ref f_L_tops) = true)
    (a_L_turn_up : PySem.W.nsIn K mainGlobals "_law_turn_up" = some (some (.ref f_L_turn_up)))
    (l_L_turn_up : K.lookup f_L_turn_up = some ⟨oc_L_turn_up, od_L_turn_up, .func (PySem.W.fnOf "_law_turn_up" "_law_turn_up" (defArgs s_L_turn_up) (defBody s_L_turn_up) (defScope s_L_turn_up) .none kV_L_turn_up dc_L_turn_up pm_L_turn_up an_L_turn_up cd_L_turn_up ct_L_turn_up), sl_L_turn_up⟩)
    (c_L_turn_up : PySem.W.codeIn K cd_L_turn_up "_law_turn_up" = true)
    (k_L_turn_up : PySem.W.keepIn K (.ref f_L_turn_up) = true)
    (a_is_house : PySem.W.nsIn K mainGlobals "is_house" = some (some (.ref f_is_house)))
    (l_is_house : K.lookup f_is_house = some ⟨oc_is_house, od_is_house, .func (PySem.W.fnOf "is_house" "is_house" (defArgs s_is_house) (defBody s_is_house) (defScope s_is_house) .none kV_is_house dc_is_house pm_is_house an_is_house cd_is_house ct_is_house), sl_is_house⟩)
    (c_is_house : PySem.W.codeIn K cd_is_house "is_house" = true)
    (k_is_house : PySem.W.keepIn K (.ref f_is_house) = true)
    (a_is_many : PySem.W.nsIn K mainGlobals "is_many" = some (some (.ref f_is_many)))
    (l_is_many : K.lookup f_is_many = some ⟨oc_is_many, od_is_many, .func (PySem.W.fnOf "is_many" "is_many" (defArgs s_is_many) (defBody s_is_many) (defScope s_is_many) .none kV_is_many dc_is_many pm_is_many an_is_many cd_is_many ct_is_many), sl_is_many⟩)
    (c_is_many : PySem.W.codeIn K cd_is_many "is_many" = true)
    (k_is_many : PySem.W.keepIn K (.ref f_is_many) = true)
    (a_told_worths : PySem.W.nsIn K mainGlobals "told_worths" = some (some (.ref f_told_worths)))
    (l_told_worths : K.lookup f_told_worths = some ⟨oc_told_worths, od_told_worths, .func (PySem.W.fnOf "told_worths" "told_worths" (defArgs s_told_worths) (defBody s_told_worths) (defScope s_told_worths) .none kV_told_worths dc_told_worths pm_told_worths an_told_worths cd_told_worths ct_told_worths), sl_told_worths⟩)
    (c_told_worths : PySem.W.codeIn K cd_told_worths "told_worths" = true)
    (k_told_worths : PySem.W.keepIn K (.ref f_told_worths) = true)
    (a_L_shape : PySem.W.nsIn K mainGlobals "_law_shape" = some (some (.ref f_L_shape)))
    (l_L_shape : K.lookup f_L_shape = some ⟨oc_L_shape, od_L_shape, .func (PySem.W.fnOf "_law_shape" "_law_shape" (defArgs s_L_shape) (defBody s_L_shape) (defScope s_L_shape) .none kV_L_shape dc_L_shape pm_L_shape an_L_shape cd_L_shape ct_L_shape), sl_L_shape⟩)
    (c_L_shape : PySem.W.codeIn K cd_L_shape "_law_shape" = true)
    (k_L_shape : PySem.W.keepIn K (.ref f_L_shape) = true)
    (a_are_parents : PySem.W.nsIn K mainGlobals "_are_parents" = some (some (.ref f_are_parents)))
    (l_are_parents : K.lookup f_are_parents = some ⟨oc_are_parents, od_are_parents, .func (PySem.W.fnOf "_are_parents" "_are_parents" (defArgs s_are_parents) (defBody s_are_parents) (defScope s_are_parents) .none kV_are_parents dc_are_parents pm_are_parents an_are_parents cd_are_parents ct_are_parents), sl_are_parents⟩)
    (c_are_parents : PySem.W.codeIn K cd_are_parents "_are_parents" = true)
    (k_are_parents : PySem.W.keepIn K (.ref f_are_parents) = true)
    (a_is_part : PySem.W.nsIn K mainGlobals "_is_part" = some (some (.ref f_is_part)))
    (l_is_part : K.lookup f_is_part = some ⟨oc_is_part, od_is_part, .func (PySem.W.fnOf "_is_part" "_is_part" (defArgs s_is_part) (defBody s_is_part) (defScope s_is_part) .none kV_is_part dc_is_part pm_is_part an_is_part cd_is_part ct_is_part), sl_is_part⟩)
    (c_is_part : PySem.W.codeIn K cd_is_part "_is_part" = true)
    (k_is_part : PySem.W.keepIn K (.ref f_is_part) = true)
    (a_need_house : PySem.W.nsIn K mainGlobals "need_house" = some (some (.ref f_need_house)))
    (l_need_house : K.lookup f_need_house = some ⟨oc_need_house, od_need_house, .func (PySem.W.fnOf "need_house" "need_house" (defArgs s_need_house) (defBody s_need_house) (defScope s_need_house) .none kV_need_house dc_need_house pm_need_house an_need_house cd_need_house ct_need_house), sl_need_house⟩)
    (c_need_house : PySem.W.codeIn K cd_need_house "need_house" = true)
    (k_need_house : PySem.W.keepIn K (.ref f_need_house) = true)
    (a_is_shape : PySem.W.nsIn K mainGlobals "is_shape" = some (some (.ref f_is_shape)))
    (l_is_shape : K.lookup f_is_shape = some ⟨oc_is_shape, od_is_shape, .func (PySem.W.fnOf "is_shape" "is_shape" (defArgs s_is_shape) (defBody s_is_shape) (defScope s_is_shape) .none kV_is_shape dc_is_shape pm_is_shape an_is_shape cd_is_shape ct_is_shape), sl_is_shape⟩)
    (c_is_shape : PySem.W.codeIn K cd_is_shape "is_shape" = true)
    (k_is_shape : PySem.W.keepIn K (.ref f_is_shape) = true)
    (a_stands_of : PySem.W.nsIn K mainGlobals "stands_of" = some (some (.ref f_stands_of)))
    (l_stands_of : K.lookup f_stands_of = some ⟨oc_stands_of, od_stands_of, .func (PySem.W.fnOf "stands_of" "stands_of" (defArgs s_stands_of) (defBody s_stands_of) (defScope s_stands_of) .none kV_stands_of dc_stands_of pm_stands_of an_stands_of cd_stands_of ct_stands_of), sl_stands_of⟩)
    (c_stands_of : PySem.W.codeIn K cd_stands_of "stands_of" = true)
    (k_stands_of : PySem.W.keepIn K (.ref f_stands_of) = true)
    (a_weights : PySem.W.nsIn K mainGlobals "weights" = some (some (.ref f_weights)))
    (l_weights : K.lookup f_weights = some ⟨oc_weights, od_weights, .func (PySem.W.fnOf "weights" "weights" (defArgs s_weights) (defBody s_weights) (defScope s_weights) .none kV_weights dc_weights pm_weights an_weights cd_weights ct_weights), sl_weights⟩)
    (c_weights : PySem.W.codeIn K cd_weights "weights" = true)
    (k_weights : PySem.W.keepIn K (.ref f_weights) = true)
    (a_handed_on : PySem.W.nsIn K mainGlobals "handed_on" = some (some (.ref f_handed_on)))
    (l_handed_on : K.lookup f_handed_on = some ⟨oc_handed_on, od_handed_on, .func (PySem.W.fnOf "handed_on" "handed_on" (defArgs s_handed_on) (defBody s_handed_on) (defScope s_handed_on) .none kV_handed_on dc_handed_on pm_handed_on an_handed_on cd_handed_on ct_handed_on), sl_handed_on⟩)
    (c_handed_on : PySem.W.codeIn K cd_handed_on "handed_on" = true)
    (k_handed_on : PySem.W.keepIn K (.ref f_handed_on) = true)
    (a_turned_up : PySem.W.nsIn K mainGlobals "turned_up" = some (some (.ref f_turned_up)))
    (l_turned_up : K.lookup f_turned_up = some ⟨oc_turned_up, od_turned_up, .func (PySem.W.fnOf "turned_up" "turned_up" (defArgs s_turned_up) (defBody s_turned_up) (defScope s_turned_up) .none kV_turned_up dc_turned_up pm_turned_up an_turned_up cd_turned_up ct_turned_up), sl_turned_up⟩)
    (c_turned_up : PySem.W.codeIn K cd_turned_up "turned_up" = true)
    (k_turned_up : PySem.W.keepIn K (.ref f_turned_up) = true)
    (a_L_is : PySem.W.nsIn K mainGlobals "_law_is" = some (some (.ref f_L_is)))
    (l_L_is : K.lookup f_L_is = some ⟨oc_L_is, od_L_is, .func (PySem.W.fnOf "_law_is" "_law_is" (defArgs s_L_is) (defBody s_L_is) (defScope s_L_is) .none kV_L_is dc_L_is pm_L_is an_L_is cd_L_is ct_L_is), sl_L_is⟩)
    (c_L_is : PySem.W.codeIn K cd_L_is "_law_is" = true)
    (k_L_is : PySem.W.keepIn K (.ref f_L_is) = true)
    (a_L_is_handed : PySem.W.nsIn K mainGlobals "_law_is_handed" = some (some (.ref f_L_is_handed)))
    (l_L_is_handed : K.lookup f_L_is_handed = some ⟨oc_L_is_handed, od_L_is_handed, .func (PySem.W.fnOf "_law_is_handed" "_law_is_handed" (defArgs s_L_is_handed) (defBody s_L_is_handed) (defScope s_L_is_handed) .none kV_L_is_handed dc_L_is_handed pm_L_is_handed an_L_is_handed cd_L_is_handed ct_L_is_handed), sl_L_is_handed⟩)
    (c_L_is_handed : PySem.W.codeIn K cd_L_is_handed "_law_is_handed" = true)
    (k_L_is_handed : PySem.W.keepIn K (.ref f_L_is_handed) = true)
    (a_L_is_turned : PySem.W.nsIn K mainGlobals "_law_is_turned" = some (some (.ref f_L_is_turned)))
    (l_L_is_turned : K.lookup f_L_is_turned = some ⟨oc_L_is_turned, od_L_is_turned, .func (PySem.W.fnOf "_law_is_turned" "_law_is_turned" (defArgs s_L_is_turned) (defBody s_L_is_turned) (defScope s_L_is_turned) .none kV_L_is_turned dc_L_is_turned pm_L_is_turned an_L_is_turned cd_L_is_turned ct_L_is_turned), sl_L_is_turned⟩)
    (c_L_is_turned : PySem.W.codeIn K cd_L_is_turned "_law_is_turned" = true)
    (k_L_is_turned : PySem.W.keepIn K (.ref f_L_is_turned) = true)
    (a_part_in_order : PySem.W.nsIn K mainGlobals "_part_in_order" = some (some (.ref f_part_in_order)))
    (l_part_in_order : K.lookup f_part_in_order = some ⟨oc_part_in_order, od_part_in_order, .func (PySem.W.fnOf "_part_in_order" "_part_in_order" (defArgs s_part_in_order) (defBody s_part_in_order) (defScope s_part_in_order) .none kV_part_in_order dc_part_in_order pm_part_in_order an_part_in_order cd_part_in_order ct_part_in_order), sl_part_in_order⟩)
    (c_part_in_order : PySem.W.codeIn K cd_part_in_order "_part_in_order" = true)
    (k_part_in_order : PySem.W.keepIn K (.ref f_part_in_order) = true)
    (a_L_order : PySem.W.nsIn K mainGlobals "_law_order" = some (some (.ref f_L_order)))
    (l_L_order : K.lookup f_L_order = some ⟨oc_L_order, od_L_order, .func (PySem.W.fnOf "_law_order" "_law_order" (defArgs s_L_order) (defBody s_L_order) (defScope s_L_order) .none kV_L_order dc_L_order pm_L_order an_L_order cd_L_order ct_L_order), sl_L_order⟩)
    (c_L_order : PySem.W.codeIn K cd_L_order "_law_order" = true)
    (k_L_order : PySem.W.keepIn K (.ref f_L_order) = true)
    (a_row_in_order : PySem.W.nsIn K mainGlobals "row_in_order" = some (some (.ref f_row_in_order)))
    (l_row_in_order : K.lookup f_row_in_order = some ⟨oc_row_in_order, od_row_in_order, .func (PySem.W.fnOf "row_in_order" "row_in_order" (defArgs s_row_in_order) (defBody s_row_in_order) (defScope s_row_in_order) .none kV_row_in_order dc_row_in_order pm_row_in_order an_row_in_order cd_row_in_order ct_row_in_order), sl_row_in_order⟩)
    (c_row_in_order : PySem.W.codeIn K cd_row_in_order "row_in_order" = true)
    (k_row_in_order : PySem.W.keepIn K (.ref f_row_in_order) = true)
    (a_L_told : PySem.W.nsIn K mainGlobals "_law_told" = some (some (.ref f_L_told)))
    (l_L_told : K.lookup f_L_told = some ⟨oc_L_told, od_L_told, .func (PySem.W.fnOf "_law_told" "_law_told" (defArgs s_L_told) (defBody s_L_told) (defScope s_L_told) .none kV_L_told dc_L_told pm_L_told an_L_told cd_L_told ct_L_told), sl_L_told⟩)
    (c_L_told : PySem.W.codeIn K cd_L_told "_law_told" = true)
    (k_L_told : PySem.W.keepIn K (.ref f_L_told) = true)
    (a_forest_of : PySem.W.nsIn K mainGlobals "forest_of" = some (some (.ref f_forest_of)))
    (l_forest_of : K.lookup f_forest_of = some ⟨oc_forest_of, od_forest_of, .func (PySem.W.fnOf "forest_of" "forest_of" (defArgs s_forest_of) (defBody s_forest_of) (defScope s_forest_of) .none kV_forest_of dc_forest_of pm_forest_of an_forest_of cd_forest_of ct_forest_of), sl_forest_of⟩)
    (c_forest_of : PySem.W.codeIn K cd_forest_of "forest_of" = true)
    (k_forest_of : PySem.W.keepIn K (.ref f_forest_of) = true)
    (a_told_forest : PySem.W.nsIn K mainGlobals "told_forest" = some (some (.ref f_told_forest)))
    (l_told_forest : K.lookup f_told_forest = some ⟨oc_told_forest, od_told_forest, .func (PySem.W.fnOf "told_forest" "told_forest" (defArgs s_told_forest) (defBody s_told_forest) (defScope s_told_forest) .none kV_told_forest dc_told_forest pm_told_forest an_told_forest cd_told_forest ct_told_forest), sl_told_forest⟩)
    (c_told_forest : PySem.W.codeIn K cd_told_forest "told_forest" = true)
    (k_told_forest : PySem.W.keepIn K (.ref f_told_forest) = true)
    (a_law : PySem.W.nsIn K mainGlobals "law" = some (some (.ref f_law)))
    (l_law : K.lookup f_law = some ⟨oc_law, od_law, .func (PySem.W.fnOf "law" "law" (defArgs s_law) (defBody s_law) (defScope s_law) .none kV_law dc_law pm_law an_law cd_law ct_law), sl_law⟩)
    (c_law : PySem.W.codeIn K cd_law "law" = true)
    (k_law : PySem.W.keepIn K (.ref f_law) = true)
    (pg_Forest : PySem.W.plainGet K A_Forest Str.empty = true)
    (hd_Forest : PySem.W.hasDictIn K A_Forest = true)
    (po_Forest : PySem.W.plainOver K A_Forest = true)
    (sa_Forest : PySem.W.findIn K (.ref A_Forest) "__setattr__" = some (some (.builtin "object.__setattr__")))
    (mk_Forest : PySem.W.makesIn K A_Forest = true)
    (kc_Forest : PySem.W.keepIn K (.ref A_Forest) = true)
    (iI_Forest : PySem.W.isFn K (.ref f_iForest) = true)
    (ha_Forest : PySem.W.findIn K (.ref A_Forest) "__class__" = some (some (.builtin "object.__class__")))
    (hn_Forest : PySem.W.specialIn K (.builtin "object.__class__") "__get__" = some (some (.builtin "getset_descriptor.__get__")))
    (htk_Forest : PySem.W.takesIn K (.builtin "object.__class__") = some true)
    (hm_Forest : PySem.W.mroIn K A_Forest (.type "object") = some true)
    (n_Forest_parents : PySem.W.findIn K (.ref A_Forest) "parents" = some none)
    (n_Forest_worths : PySem.W.findIn K (.ref A_Forest) "worths" = some none)
    (pg_Stand : PySem.W.plainGet K A_Stand Str.empty = true)
    (hd_Stand : PySem.W.hasDictIn K A_Stand = true)
    (po_Stand : PySem.W.plainOver K A_Stand = true)
    (sa_Stand : PySem.W.findIn K (.ref A_Stand) "__setattr__" = some (some (.builtin "object.__setattr__")))
    (mk_Stand : PySem.W.makesIn K A_Stand = true)
    (kc_Stand : PySem.W.keepIn K (.ref A_Stand) = true)
    (iI_Stand : PySem.W.isFn K (.ref f_iStand) = true)
    (ha_Stand : PySem.W.findIn K (.ref A_Stand) "__class__" = some (some (.builtin "object.__class__")))
    (hn_Stand : PySem.W.specialIn K (.builtin "object.__class__") "__get__" = some (some (.builtin "getset_descriptor.__get__")))
    (htk_Stand : PySem.W.takesIn K (.builtin "object.__class__") = some true)
    (hm_Stand : PySem.W.mroIn K A_Stand (.type "object") = some true)
    (n_Stand_up : PySem.W.findIn K (.ref A_Stand) "up" = some none)
    (n_Stand_left : PySem.W.findIn K (.ref A_Stand) "left" = some none)
    (n_Stand_right : PySem.W.findIn K (.ref A_Stand) "right" = some none)
    (n_Stand_turned : PySem.W.findIn K (.ref A_Stand) "turned" = some none)
    (n_Stand_added : PySem.W.findIn K (.ref A_Stand) "added" = some none)
    (n_Stand_value : PySem.W.findIn K (.ref A_Stand) "value" = some none)
    (xl_BadForest : K.lookup A_BadForest = some (excClassObj nm_BadForest qn_BadForest A_BadForest N_BadForest bs_BadForest [.ref B_BadForest, .type "ValueError", .type "Exception", .type "BaseException", .type "object"] true sn_BadForest su_BadForest ab_BadForest co_BadForest dd_BadForest m0_BadForest m1_BadForest m2_BadForest m3_BadForest m5_BadForest "ValueError.__new__"))
    (xi_BadForest : PySem.W.findIn K (.ref A_BadForest) "__init__" = some (some (.ref f_eBadForest)))
    (xt_BadForest : PySem.W.typeIn K (.ref f_eBadForest) = some (.type "function"))
    (xf_BadForest : K.lookup f_eBadForest = some ⟨ocx_BadForest, odx_BadForest, .func (PySem.W.fnOf "__init__" "BadForest.__init__" (PySem.XBadForest.iA ⟨6, 17, 6, 21⟩ ⟨6, 23, 6, 27⟩) (PySem.XBadForest.iB ⟨7, 8, 7, 12⟩ ⟨7, 8, 7, 17⟩ ⟨7, 20, 7, 24⟩ ⟨7, 8, 7, 24⟩) PySem.XBadForest.iS .none .none dcx_BadForest pmx_BadForest anx_BadForest cdx_BadForest ctx_BadForest), slx_BadForest⟩)
    (xc_BadForest : PySem.W.codeIn K cdx_BadForest "BadForest.__init__" = true)
    (xk_BadForest : PySem.W.keepIn K (.ref A_BadForest) = true)
    (xe_BadForest : PySem.W.subIn K (.ref A_BadForest) (.type "BaseException") = some true)
    (xy_BadForest : PySem.W.typeIn K (.ref A_BadForest) = some (.type "type"))
    (xo_BadForest : PySem.W.isClsIn K A_BadForest = true)
    (xs_BadForest : PySem.W.subIn K (.ref A_BadForest) (.ref A_BadForest) = some true)
    (xsa_BadForest : PySem.W.findIn K (.ref A_BadForest) "__setattr__" = some (some (.builtin "object.__setattr__")))
    (xga_BadForest : PySem.W.findIn K (.ref A_BadForest) "__getattribute__" = some (some (.builtin "BaseException.__getattribute__")))
    (xgg_BadForest : PySem.W.findIn K (.ref A_BadForest) "__getattr__" = some none)
    (xnb_BadForest : PySem.W.findIn K (.ref A_BadForest) "part" = some none)
    (xhc_BadForest : PySem.W.hasDictIn K A_BadForest = true)
    (xl_NoHouse : K.lookup A_NoHouse = some (excClassObj nm_NoHouse qn_NoHouse A_NoHouse N_NoHouse bs_NoHouse [.ref B_NoHouse, .type "ValueError", .type "Exception", .type "BaseException", .type "object"] true sn_NoHouse su_NoHouse ab_NoHouse co_NoHouse dd_NoHouse m0_NoHouse m1_NoHouse m2_NoHouse m3_NoHouse m5_NoHouse "ValueError.__new__"))
    (xi_NoHouse : PySem.W.findIn K (.ref A_NoHouse) "__init__" = some (some (.ref f_eNoHouse)))
    (xt_NoHouse : PySem.W.typeIn K (.ref f_eNoHouse) = some (.type "function"))
    (xf_NoHouse : K.lookup f_eNoHouse = some ⟨ocx_NoHouse, odx_NoHouse, .func (PySem.W.fnOf "__init__" "NoHouse.__init__" (PySem.XNoHouse.iA ⟨10, 17, 10, 21⟩) (PySem.XNoHouse.iB ⟨11, 8, 11, 12⟩) PySem.XNoHouse.iS .none .none dcx_NoHouse pmx_NoHouse anx_NoHouse cdx_NoHouse ctx_NoHouse), slx_NoHouse⟩)
    (xc_NoHouse : PySem.W.codeIn K cdx_NoHouse "NoHouse.__init__" = true)
    (xk_NoHouse : PySem.W.keepIn K (.ref A_NoHouse) = true)
    (xe_NoHouse : PySem.W.subIn K (.ref A_NoHouse) (.type "BaseException") = some true)
    (xy_NoHouse : PySem.W.typeIn K (.ref A_NoHouse) = some (.type "type"))
    (xo_NoHouse : PySem.W.isClsIn K A_NoHouse = true)
    (xs_NoHouse : PySem.W.subIn K (.ref A_NoHouse) (.ref A_NoHouse) = some true)
    (xl_NoShape : K.lookup A_NoShape = some (excClassObj nm_NoShape qn_NoShape A_NoShape N_NoShape bs_NoShape [.ref B_NoShape, .type "ValueError", .type "Exception", .type "BaseException", .type "object"] true sn_NoShape su_NoShape ab_NoShape co_NoShape dd_NoShape m0_NoShape m1_NoShape m2_NoShape m3_NoShape m5_NoShape "ValueError.__new__"))
    (xi_NoShape : PySem.W.findIn K (.ref A_NoShape) "__init__" = some (some (.ref f_eNoShape)))
    (xt_NoShape : PySem.W.typeIn K (.ref f_eNoShape) = some (.type "function"))
    (xf_NoShape : K.lookup f_eNoShape = some ⟨ocx_NoShape, odx_NoShape, .func (PySem.W.fnOf "__init__" "NoShape.__init__" (PySem.XNoShape.iA ⟨14, 17, 14, 21⟩) (PySem.XNoShape.iB ⟨15, 8, 15, 12⟩) PySem.XNoShape.iS .none .none dcx_NoShape pmx_NoShape anx_NoShape cdx_NoShape ctx_NoShape), slx_NoShape⟩)
    (xc_NoShape : PySem.W.codeIn K cdx_NoShape "NoShape.__init__" = true)
    (xk_NoShape : PySem.W.keepIn K (.ref A_NoShape) = true)
    (xe_NoShape : PySem.W.subIn K (.ref A_NoShape) (.type "BaseException") = some true)
    (xy_NoShape : PySem.W.typeIn K (.ref A_NoShape) = some (.type "type"))
    (xo_NoShape : PySem.W.isClsIn K A_NoShape = true)
    (xs_NoShape : PySem.W.subIn K (.ref A_NoShape) (.ref A_NoShape) = some true)
    (xl_NoTurn : K.lookup A_NoTurn = some (excClassObj nm_NoTurn qn_NoTurn A_NoTurn N_NoTurn bs_NoTurn [.ref B_NoTurn, .type "ValueError", .type "Exception", .type "BaseException", .type "object"] true sn_NoTurn su_NoTurn ab_NoTurn co_NoTurn dd_NoTurn m0_NoTurn m1_NoTurn m2_NoTurn m3_NoTurn m5_NoTurn "ValueError.__new__"))
    (xi_NoTurn : PySem.W.findIn K (.ref A_NoTurn) "__init__" = some (some (.ref f_eNoTurn)))
    (xt_NoTurn : PySem.W.typeIn K (.ref f_eNoTurn) = some (.type "function"))
    (xf_NoTurn : K.lookup f_eNoTurn = some ⟨ocx_NoTurn, odx_NoTurn, .func (PySem.W.fnOf "__init__" "NoTurn.__init__" (PySem.XNoTurn.iA ⟨18, 17, 18, 21⟩) (PySem.XNoTurn.iB ⟨19, 8, 19, 12⟩) PySem.XNoTurn.iS .none .none dcx_NoTurn pmx_NoTurn anx_NoTurn cdx_NoTurn ctx_NoTurn), slx_NoTurn⟩)
    (xc_NoTurn : PySem.W.codeIn K cdx_NoTurn "NoTurn.__init__" = true)
    (xk_NoTurn : PySem.W.keepIn K (.ref A_NoTurn) = true)
    (xe_NoTurn : PySem.W.subIn K (.ref A_NoTurn) (.type "BaseException") = some true)
    (xy_NoTurn : PySem.W.typeIn K (.ref A_NoTurn) = some (.type "type"))
    (xo_NoTurn : PySem.W.isClsIn K A_NoTurn = true)
    (xs_NoTurn : PySem.W.subIn K (.ref A_NoTurn) (.ref A_NoTurn) = some true)
    (gx_k_Forest_int : PySem.W.kitOne K (.ref A_Forest) (.type "int") = some false)
    (gx_k_Forest_bool : PySem.W.kitOne K (.ref A_Forest) (.type "bool") = some false)
    (gx_k_Forest_tuple : PySem.W.kitOne K (.ref A_Forest) (.type "tuple") = some false)
    (gx_k_Forest_list : PySem.W.kitOne K (.ref A_Forest) (.type "list") = some false)
    (gx_kk_Forest_Forest : PySem.W.kitOne K (.ref A_Forest) (.ref A_Forest) = some true)
    (gx_k_Stand_int : PySem.W.kitOne K (.ref A_Stand) (.type "int") = some false)
    (gx_k_Stand_bool : PySem.W.kitOne K (.ref A_Stand) (.type "bool") = some false)
    (gx_k_Stand_tuple : PySem.W.kitOne K (.ref A_Stand) (.type "tuple") = some false)
    (gx_k_Stand_list : PySem.W.kitOne K (.ref A_Stand) (.type "list") = some false)
    (gx_kk_Stand_Forest : PySem.W.kitOne K (.ref A_Stand) (.ref A_Forest) = some false)
    (gx_t_NoneType_Forest : PySem.W.kitOne K (.type "NoneType") (.ref A_Forest) = some false)
    (gx_t_int_Forest : PySem.W.kitOne K (.type "int") (.ref A_Forest) = some false)
    (gx_t_bool_Forest : PySem.W.kitOne K (.type "bool") (.ref A_Forest) = some false)
    (gx_t_tuple_Forest : PySem.W.kitOne K (.type "tuple") (.ref A_Forest) = some false)
    (gx_t_list_Forest : PySem.W.kitOne K (.type "list") (.ref A_Forest) = some false)
    (gx_t_str_Forest : PySem.W.kitOne K (.type "str") (.ref A_Forest) = some false)
    (gx_t_dict_Forest : PySem.W.kitOne K (.type "dict") (.ref A_Forest) = some false)
    (nb_range : PySem.W.nsIn K mainGlobals "range" = some none)
    (nb_all : PySem.W.nsIn K mainGlobals "all" = some none)
    (nb_tuple : PySem.W.nsIn K mainGlobals "tuple" = some none)
    (nb_isinstance : PySem.W.nsIn K mainGlobals "isinstance" = some none)
    (nb_list : PySem.W.nsIn K mainGlobals "list" = some none)
    (nb_int : PySem.W.nsIn K mainGlobals "int" = some none)
    (nb_len : PySem.W.nsIn K mainGlobals "len" = some none)
    (nb_bool : PySem.W.nsIn K mainGlobals "bool" = some none)
    (nb_zip : PySem.W.nsIn K mainGlobals "zip" = some none)
    (nb_min : PySem.W.nsIn K mainGlobals "min" = some none)
    (gc_MOST_HOUSES : PySem.W.nsIn K mainGlobals "MOST_HOUSES" = some (some (.int 64 t_MOST_HOUSES))) :
    ∃ fd : FuncData, (∀ (s : Shared) (v : Value), BindsTo s fd ⟨[v], []⟩ [("_law_script", v)]) ∧ ∀ base : Heap, K.In base → base.Ns mainGlobals mg → FnOk P w K mg base (L2.CX P w) 75 fa fd ["_law_script"] (spLaw K) := by
  have FN_Stand_init := fun_mk (st := s_Stand_init) l_Stand_init c_Stand_init k_Stand_init
  have B_Stand_init := FN_Stand_init.binds (ps := ["self", "part"]) fun _ _ _ _ _ _ us hl => match us, hl with | [_, _], _ => rfl
  have FN_Forest_init := fun_mk (st := s_Forest_init) l_Forest_init c_Forest_init k_Forest_init
  have B_Forest_init := FN_Forest_init.binds (ps := ["self", "parents", "worths"]) fun _ _ _ _ _ _ us hl => match us, hl with | [_, _, _], _ => rfl
  have D_is_integer := def_mk (st := s_is_integer) (ps := ["thing"]) X G a_is_integer l_is_integer c_is_integer k_is_integer fun _ _ _ _ _ _ us hl => match us, hl with | [_], _ => rfl
  have D_come_to_roots := def_mk (st := s_come_to_roots) (ps := ["parents"]) X G a_come_to_roots l_come_to_roots c_come_to_roots k_come_to_roots fun _ _ _ _ _ _ us hl => match us, hl with | [_], _ => rfl
  have D_has_its_sons := def_mk (st := s_has_its_sons) (ps := ["parts", "house"]) X G a_has_its_sons l_has_its_sons c_has_its_sons k_has_its_sons fun _ _ _ _ _ _ us hl => match us, hl with | [_, _], _ => rfl
  have D_shape_of := def_mk (st := s_shape_of) (ps := ["stands"]) X G a_shape_of l_shape_of c_shape_of k_shape_of fun _ _ _ _ _ _ us hl => match us, hl with | [_], _ => rfl
  have D_is_top := def_mk (st := s_is_top) (ps := ["stands", "house"]) X G a_is_top l_is_top c_is_top k_is_top fun _ _ _ _ _ _ us hl => match us, hl with | [_, _], _ => rfl
  have D_line_up := def_mk (st := s_line_up) (ps := ["stands", "house"]) X G a_line_up l_line_up c_line_up k_line_up fun _ _ _ _ _ _ us hl => match us, hl with | [_, _], _ => rfl
  have D_hand_on := def_mk (st := s_hand_on) (ps := ["stands", "house"]) X G a_hand_on l_hand_on c_hand_on k_hand_on fun _ _ _ _ _ _ us hl => match us, hl with | [_, _], _ => rfl
  have D_take_place := def_mk (st := s_take_place) (ps := ["stands", "house", "ahead"]) X G a_take_place l_take_place c_take_place k_take_place fun _ _ _ _ _ _ us hl => match us, hl with | [_, _, _], _ => rfl
  have D_L_hand := def_mk (st := s_L_hand) (ps := ["_law_script"]) X G a_L_hand l_L_hand c_L_hand k_L_hand fun _ _ _ _ _ _ us hl => match us, hl with | [_], _ => rfl
  have D_L_draw := def_mk (st := s_L_draw) (ps := ["_law_hand_here", "_law_many_here"]) X G a_L_draw l_L_draw c_L_draw k_L_draw fun _ _ _ _ _ _ us hl => match us, hl with | [_, _], _ => rfl
  have D_L_house := def_mk (st := s_L_house) (ps := ["_law_up", "_law_value_here"]) X G a_L_house l_L_house c_L_house k_L_house fun _ _ _ _ _ _ us hl => match us, hl with | [_, _], _ => rfl
  have D_L_is_son := def_mk (st := s_L_is_son) (ps := ["_law_shape_here", "_law_house_here"]) X G a_L_is_son l_L_is_son c_L_is_son k_L_is_son fun _ _ _ _ _ _ us hl => match us, hl with | [_, _], _ => rfl
  have D_L_hand_on := def_mk (st := s_L_hand_on) (ps := ["_law_shape_here", "_law_house_here"]) X G a_L_hand_on l_L_hand_on c_L_hand_on k_L_hand_on fun _ _ _ _ _ _ us hl => match us, hl with | [_, _], _ => rfl
  have D_L_listed := def_mk (st := s_L_listed) (ps := ["_law_shape_here"]) X G a_L_listed l_L_listed c_L_listed k_L_listed fun _ _ _ _ _ _ us hl => match us, hl with | [_], _ => rfl
  have D_L_tupled := def_mk (st := s_L_tupled) (ps := ["_law_shape_here"]) X G a_L_tupled l_L_tupled c_L_tupled k_L_tupled fun _ _ _ _ _ _ us hl => match us, hl with | [_], _ => rfl
  have D_is_between := def_mk (st := s_is_between) (ps := ["least", "most", "thing"]) X G a_is_between l_is_between c_is_between k_is_between fun _ _ _ _ _ _ us hl => match us, hl with | [_, _, _], _ => rfl
  have D_are_worths := def_mk (st := s_are_worths) (ps := ["thing", "houses"]) X G a_are_worths l_are_worths c_are_worths k_are_worths fun _ _ _ _ _ _ us hl => match us, hl with | [_, _], _ => rfl
  have D_told_worth := def_mk (st := s_told_worth) (ps := ["stands", "house"]) X G a_told_worth l_told_worth c_told_worth k_told_worth fun _ _ _ _ _ _ us hl => match us, hl with | [_, _], _ => rfl
  have D_weights_of := def_mk (st := s_weights_of) (ps := ["stands"]) X G a_weights_of l_weights_of c_weights_of k_weights_of fun _ _ _ _ _ _ us hl => match us, hl with | [_], _ => rfl
  have D_turn_up := def_mk (st := s_turn_up) (ps := ["stands", "house"]) X G a_turn_up l_turn_up c_turn_up k_turn_up fun _ _ _ _ _ _ us hl => match us, hl with | [_, _], _ => rfl
  have D_L_value := def_mk (st := s_L_value) (ps := ["_law_hand_here"]) X G a_L_value l_L_value c_L_value k_L_value fun _ _ _ _ _ _ us hl => match us, hl with | [_], _ => rfl
  have D_L_many := def_mk (st := s_L_many) (ps := ["_law_hand_here", "_law_most"]) X G a_L_many l_L_many c_L_many k_L_many fun _ _ _ _ _ _ us hl => match us, hl with | [_, _], _ => rfl
  have D_L_shuffled := def_mk (st := s_L_shuffled) (ps := ["_law_hand_here", "_law_many_here"]) X G a_L_shuffled l_L_shuffled c_L_shuffled k_L_shuffled fun _ _ _ _ _ _ us hl => match us, hl with | [_, _], _ => rfl
  have D_L_tops := def_mk (st := s_L_tops) (ps := ["_law_shape_here"]) X G a_L_tops l_L_tops c_L_tops k_L_tops fun _ _ _ _ _ _ us hl => match us, hl with | [_], _ => rfl
  have D_L_turn_up := def_mk (st := s_L_turn_up) (ps := ["_law_shape_here", "_law_house_here"]) X G a_L_turn_up l_L_turn_up c_L_turn_up k_L_turn_up fun _ _ _ _ _ _ us hl => match us, hl with | [_, _], _ => rfl
  have D_is_house := def_mk (st := s_is_house) (ps := ["many", "thing"]) X G a_is_house l_is_house c_is_house k_is_house fun _ _ _ _ _ _ us hl => match us, hl with | [_, _], _ => rfl
  have D_is_many := def_mk (st := s_is_many) (ps := ["thing"]) X G a_is_many l_is_many c_is_many k_is_many fun _ _ _ _ _ _ us hl => match us, hl with | [_], _ => rfl
  have D_told_worths := def_mk (st := s_told_worths) (ps := ["stands"]) X G a_told_worths l_told_worths c_told_worths k_told_worths fun _ _ _ _ _ _ us hl => match us, hl with | [_], _ => rfl
  have D_L_shape := def_mk (st := s_L_shape) (ps := ["_law_hand_here", "_law_many_here"]) X G a_L_shape l_L_shape c_L_shape k_L_shape fun _ _ _ _ _ _ us hl => match us, hl with | [_, _], _ => rfl
  have D_are_parents := def_mk (st := s_are_parents) (ps := ["thing"]) X G a_are_parents l_are_parents c_are_parents k_are_parents fun _ _ _ _ _ _ us hl => match us, hl with | [_], _ => rfl
  have D_is_part := def_mk (st := s_is_part) (ps := ["many", "thing"]) X G a_is_part l_is_part c_is_part k_is_part fun _ _ _ _ _ _ us hl => match us, hl with | [_, _], _ => rfl
  have D_need_house := def_mk (st := s_need_house) (ps := ["stands", "thing"]) X G a_need_house l_need_house c_need_house k_need_house fun _ _ _ _ _ _ us hl => match us, hl with | [_, _], _ => rfl
  have D_is_shape := def_mk (st := s_is_shape) (ps := ["thing"]) X G a_is_shape l_is_shape c_is_shape k_is_shape fun _ _ _ _ _ _ us hl => match us, hl with | [_], _ => rfl
  have D_stands_of := def_mk (st := s_stands_of) (ps := ["shape"]) X G a_stands_of l_stands_of c_stands_of k_stands_of fun _ _ _ _ _ _ us hl => match us, hl with | [_], _ => rfl
  have D_weights := def_mk (st := s_weights) (ps := ["shape"]) X G a_weights l_weights c_weights k_weights fun _ _ _ _ _ _ us hl => match us, hl with | [_], _ => rfl
  have D_handed_on := def_mk (st := s_handed_on) (ps := ["shape", "house"]) X G a_handed_on l_handed_on c_handed_on k_handed_on fun _ _ _ _ _ _ us hl => match us, hl with | [_, _], _ => rfl
  have D_turned_up := def_mk (st := s_turned_up) (ps := ["shape", "house"]) X G a_turned_up l_turned_up c_turned_up k_turned_up fun _ _ _ _ _ _ us hl => match us, hl with | [_, _], _ => rfl
  have D_L_is := def_mk (st := s_L_is) (ps := ["_law_told_here", "_law_due"]) X G a_L_is l_L_is c_L_is k_L_is fun _ _ _ _ _ _ us hl => match us, hl with | [_, _], _ => rfl
  have D_L_is_handed := def_mk (st := s_L_is_handed) (ps := ["_law_shape_here", "_law_house_here"]) X G a_L_is_handed l_L_is_handed c_L_is_handed k_L_is_handed fun _ _ _ _ _ _ us hl => match us, hl with | [_, _], _ => rfl
  have D_L_is_turned := def_mk (st := s_L_is_turned) (ps := ["_law_shape_here", "_law_house_here"]) X G a_L_is_turned l_L_is_turned c_L_is_turned k_L_is_turned fun _ _ _ _ _ _ us hl => match us, hl with | [_, _], _ => rfl
  have D_part_in_order := def_mk (st := s_part_in_order) (ps := ["stands", "house", "backwards"]) X G a_part_in_order l_part_in_order c_part_in_order k_part_in_order fun _ _ _ _ _ _ us hl => match us, hl with | [_, _, _], _ => rfl
  have D_L_order := def_mk (st := s_L_order) (ps := ["_law_shape_here", "_law_house_here"]) X G a_L_order l_L_order c_L_order k_L_order fun _ _ _ _ _ _ us hl => match us, hl with | [_, _], _ => rfl
  have D_row_in_order := def_mk (st := s_row_in_order) (ps := ["stands", "top"]) X G a_row_in_order l_row_in_order c_row_in_order k_row_in_order fun _ _ _ _ _ _ us hl => match us, hl with | [_, _], _ => rfl
  have D_L_told := def_mk (st := s_L_told) (ps := ["_law_shape_here"]) X G a_L_told l_L_told c_L_told k_L_told fun _ _ _ _ _ _ us hl => match us, hl with | [_], _ => rfl
  have D_forest_of := def_mk (st := s_forest_of) (ps := ["stands"]) X G a_forest_of l_forest_of c_forest_of k_forest_of fun _ _ _ _ _ _ us hl => match us, hl with | [_], _ => rfl
  have D_told_forest := def_mk (st := s_told_forest) (ps := ["shape"]) X G a_told_forest l_told_forest c_told_forest k_told_forest fun _ _ _ _ _ _ us hl => match us, hl with | [_], _ => rfl
  have CL_Forest : Cls K A_Forest := ⟨pg_Forest, hd_Forest, po_Forest, sa_Forest⟩
  have CL_Stand : Cls K A_Stand := ⟨pg_Stand, hd_Stand, po_Stand, sa_Stand⟩
  have X_BadForest : PySem.XBadForest.TxtBadForest K mg A_BadForest f_eBadForest := { gC := PySem.W.mg_of X G aE_BadForest, cls := ⟨nm_BadForest, qn_BadForest, N_BadForest, bs_BadForest, _, sn_BadForest, su_BadForest, ab_BadForest, co_BadForest, dd_BadForest, m0_BadForest, m1_BadForest, m2_BadForest, m3_BadForest, m5_BadForest, xl_BadForest, rfl⟩, sa := xsa_BadForest, ga := xga_BadForest, gg := xgg_BadForest, noN := xnb_BadForest, iC := xi_BadForest, tC := xt_BadForest, kC := xk_BadForest, exC := xe_BadForest, tyC := xy_BadForest, hdC := xhc_BadForest, te := exm_ab true xe_BadForest xo_BadForest xy_BadForest xs_BadForest, fn := ⟨_, _, _, _, _, _, _, _, _, _, _, _, _, _, xf_BadForest, xc_BadForest⟩ }
  have X_NoHouse : PySem.XNoHouse.TxtNoHouse K mg A_NoHouse f_eNoHouse := { gC := PySem.W.mg_of X G aE_NoHouse, cls := ⟨nm_NoHouse, qn_NoHouse, N_NoHouse, bs_NoHouse, _, sn_NoHouse, su_NoHouse, ab_NoHouse, co_NoHouse, dd_NoHouse, m0_NoHouse, m1_NoHouse, m2_NoHouse, m3_NoHouse, m5_NoHouse, xl_NoHouse, rfl⟩, iC := xi_NoHouse, tC := xt_NoHouse, kC := xk_NoHouse, exC := xe_NoHouse, tyC := xy_NoHouse, te := exm_ab true xe_NoHouse xo_NoHouse xy_NoHouse xs_NoHouse, fn := ⟨_, _, _, _, _, _, _, _, _, _, xf_NoHouse, xc_NoHouse⟩ }
  have X_NoShape : PySem.XNoShape.TxtNoShape K mg A_NoShape f_eNoShape := { gC := PySem.W.mg_of X G aE_NoShape, cls := ⟨nm_NoShape, qn_NoShape, N_NoShape, bs_NoShape, _, sn_NoShape, su_NoShape, ab_NoShape, co_NoShape, dd_NoShape, m0_NoShape, m1_NoShape, m2_NoShape, m3_NoShape, m5_NoShape, xl_NoShape, rfl⟩, iC := xi_NoShape, tC := xt_NoShape, kC := xk_NoShape, exC := xe_NoShape, tyC := xy_NoShape, te := exm_ab true xe_NoShape xo_NoShape xy_NoShape xs_NoShape, fn := ⟨_, _, _, _, _, _, _, _, _, _, xf_NoShape, xc_NoShape⟩ }
  have X_NoTurn : PySem.XNoTurn.TxtNoTurn K mg A_NoTurn f_eNoTurn := { gC := PySem.W.mg_of X G aE_NoTurn, cls := ⟨nm_NoTurn, qn_NoTurn, N_NoTurn, bs_NoTurn, _, sn_NoTurn, su_NoTurn, ab_NoTurn, co_NoTurn, dd_NoTurn, m0_NoTurn, m1_NoTurn, m2_NoTurn, m3_NoTurn, m5_NoTurn, xl_NoTurn, rfl⟩, iC := xi_NoTurn, tC := xt_NoTurn, kC := xk_NoTurn, exC := xe_NoTurn, tyC := xy_NoTurn, te := exm_ab true xe_NoTurn xo_NoTurn xy_NoTurn xs_NoTurn, fn := ⟨_, _, _, _, _, _, _, _, _, _, xf_NoTurn, xc_NoTurn⟩ }
  have T : Txt mg := ⟨PySem.W.mg_none_of X G nb_range, PySem.W.mg_none_of X G nb_all, PySem.W.mg_none_of X G nb_tuple, PySem.W.mg_none_of X G nb_isinstance, PySem.W.mg_none_of X G nb_list, PySem.W.mg_none_of X G nb_int, PySem.W.mg_none_of X G nb_len, PySem.W.mg_none_of X G nb_bool, PySem.W.mg_none_of X G nb_zip, PySem.W.mg_none_of X G nb_min, ⟨t_MOST_HOUSES, PySem.W.mg_of X G gc_MOST_HOUSES⟩⟩
  have GX : Gx (mkG K A_Forest A_Stand A_BadForest A_NoHouse A_NoShape A_NoTurn) := { CS := rfl, FL := rfl, k_Forest_int := gx_k_Forest_int, k_Forest_bool := gx_k_Forest_bool, k_Forest_tuple := gx_k_Forest_tuple, k_Forest_list := gx_k_Forest_list, kk_Forest_Forest := gx_kk_Forest_Forest, k_Stand_int := gx_k_Stand_int, k_Stand_bool := gx_k_Stand_bool, k_Stand_tuple := gx_k_Stand_tuple, k_Stand_list := gx_k_Stand_list, kk_Stand_Forest := gx_kk_Stand_Forest, t_NoneType_Forest := gx_t_NoneType_Forest, t_int_Forest := gx_t_int_Forest, t_bool_Forest := gx_t_bool_Forest, t_tuple_Forest := gx_t_tuple_Forest, t_list_Forest := gx_t_list_Forest, t_str_Forest := gx_t_str_Forest, t_dict_Forest := gx_t_dict_Forest }
  have Z : Fx (mkG K A_Forest A_Stand A_BadForest A_NoHouse A_NoShape A_NoTurn) w mg f_eBadForest f_eNoHouse f_eNoShape f_eNoTurn f_iForest f_iStand := { CSO := (ownCs_mk (.cons ⟨CL_Forest, ha_Forest, hn_Forest, htk_Forest, hm_Forest⟩ (.cons ⟨CL_Stand, ha_Stand, hn_Stand, htk_Stand, hm_Stand⟩ (.nil)))), FO := (flOk_mk (.cons ⟨CL_Forest, n_Forest_parents⟩ (.cons ⟨CL_Forest, n_Forest_worths⟩ (.cons ⟨CL_Stand, n_Stand_up⟩ (.cons ⟨CL_Stand, n_Stand_left⟩ (.cons ⟨CL_Stand, n_Stand_right⟩ (.cons ⟨CL_Stand, n_Stand_turned⟩ (.cons ⟨CL_Stand, n_Stand_added⟩ (.cons ⟨CL_Stand, n_Stand_value⟩ (.nil)))))))))), Forest := PySem.W.mg_of X G aC_Forest, mk_Forest := ⟨mk_Forest, a_Forest_init, iI_Forest, kc_Forest⟩, Stand := PySem.W.mg_of X G aC_Stand, mk_Stand := ⟨mk_Stand, a_Stand_init, iI_Stand, kc_Stand⟩, BadForest := X_BadForest, NoHouse := X_NoHouse, NoShape := X_NoShape, NoTurn := X_NoTurn }
  have e := hfa.symm.trans (PySem.W.mg_of X G a_law)
  cases e
  refine ⟨PySem.W.fnOf "law" "law" (defArgs s_law) (defBody s_law) (defScope s_law) .none kV_law dc_law pm_law an_law cd_law ct_law, fun s v => .of_eq rfl, fun base _ _ => ?_⟩
  exact ok_all (P := P) (w := w) (base := base) T Z GX FN_Stand_init B_Stand_init FN_Forest_init B_Forest_init (fun_mk (st := s_law) l_law c_law k_law) D_is_integer D_come_to_roots D_has_its_sons D_shape_of D_is_top D_line_up D_hand_on D_take_place D_L_hand D_L_draw D_L_house D_L_is_son D_L_hand_on D_L_listed D_L_tupled D_is_between D_are_worths D_told_worth D_weights_of D_turn_up D_L_value D_L_many D_L_shuffled D_L_tops D_L_turn_up D_is_house D_is_many D_told_worths D_L_shape D_are_parents D_is_part D_need_house D_is_shape D_stands_of D_weights D_handed_on D_turned_up D_L_is D_L_is_handed D_L_is_turned D_part_in_order D_L_order D_row_in_order D_L_told D_forest_of D_told_forest
end W3
open PySem PySem.W PyProof.Rows in
set_option maxRecDepth 100000 in
set_option maxHeartbeats 0 in
theorem PySem.Challenge.cw_cutlinked_k09_whole_handing_on_and_turns_holds : PySem.Challenge.rw_cutlinked_k09_whole_handing_on_and_turns.Holds := by
  w_on; o_law; k_head; (case hw => w_witness2)
  k_fill
  refine W3.walk (l := PySem.Challenge.rw_cutlinked_k09_whole_handing_on_and_turns) rfl rfl (fun w h Y => PySem.W.kIn_of Y) ?F
  case F =>
    intro w mg fa h KX G hmg
    refine' W3.all_mk KX G hmg ?aC_Forest ?aC_Stand ?aE_BadForest ?aE_NoHouse ?aE_NoShape ?aE_NoTurn ?a_Stand_init ?l_Stand_init ?c_Stand_init ?k_Stand_init ?a_Forest_init ?l_Forest_init ?c_Forest_init ?k_Forest_init ?a_is_integer ?l_is_integer ?c_is_integer ?k_is_integer ?a_come_to_roots ?l_come_to_roots ?c_come_to_roots ?k_come_to_roots ?a_has_its_sons ?l_has_its_sons ?c_has_its_sons ?k_has_its_sons ?a_shape_of ?l_shape_of ?c_shape_of ?k_shape_of ?a_is_top ?l_is_top ?c_is_top ?k_is_top ?a_line_up ?l_line_up ?c_line_up ?k_line_up ?a_hand_on ?l_hand_on ?c_hand_on ?k_hand_on ?a_take_place ?l_take_place ?c_take_place ?k_take_place ?a_L_hand ?l_L_hand ?c_L_hand ?k_L_hand ?a_L_draw ?l_L_draw ?c_L_draw ?k_L_draw ?a_L_house ?l_L_house ?c_L_house ?k_L_house ?a_L_is_son ?l_L_is_son ?c_L_is_son ?k_L_is_son ?a_L_hand_on ?l_L_hand_on ?c_L_hand_on ?k_L_hand_on ?a_L_listed ?l_L_listed ?c_L_listed ?k_L_listed ?a_L_tupled ?l_L_tupled ?c_L_tupled ?k_L_tupled ?a_is_between ?l_is_between ?c_is_between ?k_is_between ?a_are_worths ?l_are_worths ?c_are_worths ?k_are_worths ?a_told_worth ?l_told_worth ?c_told_worth ?k_told_worth ?a_weights_of ?l_weights_of ?c_weights_of ?k_weights_of ?a_turn_up ?l_turn_up ?c_turn_up ?k_turn_up ?a_L_value ?l_L_value ?c_L_value ?k_L_value ?a_L_many ?l_L_many ?c_L_many ?k_L_many ?a_L_shuffled ?l_L_shuffled ?c_L_shuffled ?k_L_shuffled ?a_L_tops ?l_L_tops ?c_L_tops ?k_L_tops ?a_L_turn_up ?l_L_turn_up ?c_L_turn_up ?k_L_turn_up ?a_is_house ?l_is_house ?c_is_house ?k_is_house ?a_is_many ?l_is_many ?c_is_many ?k_is_many ?a_told_worths ?l_told_worths ?c_told_worths ?k_told_worths ?a_L_shape ?l_L_shape ?c_L_shape ?k_L_shape ?a_are_parents ?l_are_parents ?c_are_parents ?k_are_parents ?a_is_part ?l_is_part ?c_is_part ?k_is_part ?a_need_house ?l_need_house ?c_need_house ?k_need_house ?a_is_shape ?l_is_shape ?c_is_shape ?k_is_shape ?a_stands_of ?l_stands_of ?c_stands_of ?k_stands_of ?a_weights ?l_weights ?c_weights ?k_weights ?a_handed_on ?l_handed_on ?c_handed_on ?k_handed_on ?a_turned_up ?l_turned_up ?c_turned_up ?k_turned_up ?a_L_is ?l_L_is ?c_L_is ?k_L_is ?a_L_is_handed ?l_L_is_handed ?c_L_is_handed ?k_L_is_handed ?a_L_is_turned ?l_L_is_turned ?c_L_is_turned ?k_L_is_turned ?a_part_in_order ?l_part_in_order ?c_part_in_order ?k_part_in_order ?a_L_order ?l_L_order ?c_L_order ?k_L_order ?a_row_in_order ?l_row_in_order ?c_row_in_order ?k_row_in_order ?a_L_told ?l_L_told ?c_L_told ?k_L_told ?a_forest_of ?l_forest_of ?c_forest_of ?k_forest_of ?a_told_forest ?l_told_forest ?c_told_forest ?k_told_forest ?a_law ?l_law ?c_law ?k_law ?pg_Forest ?hd_Forest ?po_Forest ?sa_Forest ?mk_Forest ?kc_Forest ?iI_Forest ?ha_Forest ?hn_Forest ?htk_Forest ?hm_Forest ?n_Forest_parents ?n_Forest_worths ?pg_Stand ?hd_Stand ?po_Stand ?sa_Stand ?mk_Stand ?kc_Stand ?iI_Stand ?ha_Stand ?hn_Stand ?htk_Stand ?hm_Stand ?n_Stand_up ?n_Stand_left ?n_Stand_right ?n_Stand_turned ?n_Stand_added ?n_Stand_value ?xl_BadForest ?xi_BadForest ?xt_BadForest ?xf_BadForest ?xc_BadForest ?xk_BadForest ?xe_BadForest ?xy_BadForest ?xo_BadForest ?xs_BadForest ?xsa_BadForest ?xga_BadForest ?xgg_BadForest ?xnb_BadForest ?xhc_BadForest ?xl_NoHouse ?xi_NoHouse ?xt_NoHouse ?xf_NoHouse ?xc_NoHouse ?xk_NoHouse ?xe_NoHouse ?xy_NoHouse ?xo_NoHouse ?xs_NoHouse ?xl_NoShape ?xi_NoShape ?xt_NoShape ?xf_NoShape ?xc_NoShape ?xk_NoShape ?xe_NoShape ?xy_NoShape ?xo_NoShape ?xs_NoShape ?xl_NoTurn ?xi_NoTurn ?xt_NoTurn ?xf_NoTurn ?xc_NoTurn ?xk_NoTurn ?xe_NoTurn ?xy_NoTurn ?xo_NoTurn ?xs_NoTurn ?gx_k_Forest_int ?gx_k_Forest_bool ?gx_k_Forest_tuple ?gx_k_Forest_list ?gx_kk_Forest_Forest ?gx_k_Stand_int ?gx_k_Stand_bool ?gx_k_Stand_tuple ?gx_k_Stand_list ?gx_kk_Stand_Forest ?gx_t_NoneType_Forest ?gx_t_int_Forest ?gx_t_bool_Forest ?gx_t_tuple_Forest ?gx_t_list_Forest ?gx_t_str_Forest ?gx_t_dict_Forest ?nb_range ?nb_all ?nb_tuple ?nb_isinstance ?nb_list ?nb_int ?nb_len ?nb_bool ?nb_zip ?nb_min ?gc_MOST_HOUSES
    (case aC_Forest => k_is)
    (case aC_Stand => k_is)
    (case aE_BadForest => k_is)
    (case aE_NoHouse => k_is)
    (case aE_NoShape => k_is)
    (case aE_NoTurn => k_is)
    (case a_Stand_init => k_is)
    (case a_Forest_init => k_is)
    (case a_is_integer => k_is)
    (case a_come_to_roots => k_is)
    (case a_has_its_sons => k_is)
    (case a_shape_of => k_is)
    (case a_is_top => k_is)
    (case a_line_up => k_is)
    (case a_hand_on => k_is)
    (case a_take_place => k_is)
    (case a_L_hand => k_is)
    (case a_L_draw => k_is)
    (case a_L_house => k_is)
    (case a_L_is_son => k_is)
    (case a_L_hand_on => k_is)
    (case a_L_listed => k_is)
    (case a_L_tupled => k_is)
    (case a_is_between => k_is)
    (case a_are_worths => k_is)
    (case a_told_worth => k_is)
    (case a_weights_of => k_is)
    (case a_turn_up => k_is)
    (case a_L_value => k_is)
    (case a_L_many => k_is)
    (case a_L_shuffled => k_is)
    (case a_L_tops => k_is)
    (case a_L_turn_up => k_is)
    (case a_is_house => k_is)
    (case a_is_many => k_is)
    (case a_told_worths => k_is)
    (case a_L_shape => k_is)
    (case a_are_parents => k_is)
    (case a_is_part => k_is)
    (case a_need_house => k_is)
    (case a_is_shape => k_is)
    (case a_stands_of => k_is)
    (case a_weights => k_is)
    (case a_handed_on => k_is)
    (case a_turned_up => k_is)
    (case a_L_is => k_is)
    (case a_L_is_handed => k_is)
    (case a_L_is_turned => k_is)
    (case a_part_in_order => k_is)
    (case a_L_order => k_is)
    (case a_row_in_order => k_is)
    (case a_L_told => k_is)
    (case a_forest_of => k_is)
    (case a_told_forest => k_is)
    (case a_law => k_is)
    (case l_Stand_init => k_is)
    (case c_Stand_init => k_is)
    (case k_Stand_init => k_is)
    (case l_Forest_init => k_is)
    (case c_Forest_init => k_is)
    (case k_Forest_init => k_is)
    (case l_is_integer => k_is)
    (case c_is_integer => k_is)
    (case k_is_integer => k_is)
    (case l_come_to_roots => k_is)
    (case c_come_to_roots => k_is)
    (case k_come_to_roots => k_is)
    (case l_has_its_sons => k_is)
    (case c_has_its_sons => k_is)
    (case k_has_its_sons => k_is)
    (case l_shape_of => k_is)
    (case c_shape_of => k_is)
    (case k_shape_of => k_is)
    (case l_is_top => k_is)
    (case c_is_top => k_is)
    (case k_is_top => k_is)
    (case l_line_up => k_is)
    (case c_line_up => k_is)
    (case k_line_up => k_is)
    (case l_hand_on => k_is)
    (case c_hand_on => k_is)
    (case k_hand_on => k_is)
    (case l_take_place => k_is)
    (case c_take_place => k_is)
    (case k_take_place => k_is)
    (case l_L_hand => k_is)
    (case c_L_hand => k_is)
    (case k_L_hand => k_is)
    (case l_L_draw => k_is)
    (case c_L_draw => k_is)
    (case k_L_draw => k_is)
    (case l_L_house => k_is)
    (case c_L_house => k_is)
    (case k_L_house => k_is)
    (case l_L_is_son => k_is)
    (case c_L_is_son => k_is)
    (case k_L_is_son => k_is)
    (case l_L_hand_on => k_is)
    (case c_L_hand_on => k_is)
    (case k_L_hand_on => k_is)
    (case l_L_listed => k_is)
    (case c_L_listed => k_is)
    (case k_L_listed => k_is)
    (case l_L_tupled => k_is)
    (case c_L_tupled => k_is)
    (case k_L_tupled => k_is)
    (case l_is_between => k_is)
    (case c_is_between => k_is)
    (case k_is_between => k_is)
    (case l_are_worths => k_is)
    (case c_are_worths => k_is)
    (case k_are_worths => k_is)
    (case l_told_worth => k_is)
    (case c_told_worth => k_is)
    (case k_told_worth => k_is)
    (case l_weights_of => k_is)
    (case c_weights_of => k_is)
    (case k_weights_of => k_is)
    (case l_turn_up => k_is)
    (case c_turn_up => k_is)
    (case k_turn_up => k_is)
    (case l_L_value => k_is)
    (case c_L_value => k_is)
    (case k_L_value => k_is)
    (case l_L_many => k_is)
    (case c_L_many => k_is)
    (case k_L_many => k_is)
    (case l_L_shuffled => k_is)
    (case c_L_shuffled => k_is)
    (case k_L_shuffled => k_is)
    (case l_L_tops => k_is)
    (case c_L_tops => k_is)
    (case k_L_tops => k_is)
    (case l_L_turn_up => k_is)
    (case c_L_turn_up => k_is)
    (case k_L_turn_up => k_is)
    (case l_is_house => k_is)
    (case c_is_house => k_is)
    (case k_is_house => k_is)
    (case l_is_many => k_is)
    (case c_is_many => k_is)
    (case k_is_many => k_is)
    (case l_told_worths => k_is)
    (case c_told_worths => k_is)
    (case k_told_worths => k_is)
    (case l_L_shape => k_is)
    (case c_L_shape => k_is)
    (case k_L_shape => k_is)
    (case l_are_parents => k_is)
    (case c_are_parents => k_is)
    (case k_are_parents => k_is)
    (case l_is_part => k_is)
    (case c_is_part => k_is)
    (case k_is_part => k_is)
    (case l_need_house => k_is)
    (case c_need_house => k_is)
    (case k_need_house => k_is)
    (case l_is_shape => k_is)
    (case c_is_shape => k_is)
    (case k_is_shape => k_is)
    (case l_stands_of => k_is)
    (case c_stands_of => k_is)
    (case k_stands_of => k_is)
    (case l_weights => k_is)
    (case c_weights => k_is)
    (case k_weights => k_is)
    (case l_handed_on => k_is)
    (case c_handed_on => k_is)
    (case k_handed_on => k_is)
    (case l_turned_up => k_is)
    (case c_turned_up => k_is)
    (case k_turned_up => k_is)
    (case l_L_is => k_is)
    (case c_L_is => k_is)
    (case k_L_is => k_is)
    (case l_L_is_handed => k_is)
    (case c_L_is_handed => k_is)
    (case k_L_is_handed => k_is)
    (case l_L_is_turned => k_is)
    (case c_L_is_turned => k_is)
    (case k_L_is_turned => k_is)
    (case l_part_in_order => k_is)
    (case c_part_in_order => k_is)
    (case k_part_in_order => k_is)
    (case l_L_order => k_is)
    (case c_L_order => k_is)
    (case k_L_order => k_is)
    (case l_row_in_order => k_is)
    (case c_row_in_order => k_is)
    (case k_row_in_order => k_is)
    (case l_L_told => k_is)
    (case c_L_told => k_is)
    (case k_L_told => k_is)
    (case l_forest_of => k_is)
    (case c_forest_of => k_is)
    (case k_forest_of => k_is)
    (case l_told_forest => k_is)
    (case c_told_forest => k_is)
    (case k_told_forest => k_is)
    (case l_law => k_is)
    (case c_law => k_is)
    (case k_law => k_is)
    (case pg_Forest => k_is)
    (case hd_Forest => k_is)
    (case po_Forest => k_is)
    (case sa_Forest => k_is)
    (case mk_Forest => k_is)
    (case kc_Forest => k_is)
    (case iI_Forest => k_is)
    (case ha_Forest => k_is)
    (case hn_Forest => k_is)
    (case htk_Forest => k_is)
    (case hm_Forest => k_is)
    (case n_Forest_parents => k_is)
    (case n_Forest_worths => k_is)
    (case pg_Stand => k_is)
    (case hd_Stand => k_is)
    (case po_Stand => k_is)
    (case sa_Stand => k_is)
    (case mk_Stand => k_is)
    (case kc_Stand => k_is)
    (case iI_Stand => k_is)
    (case ha_Stand => k_is)
    (case hn_Stand => k_is)
    (case htk_Stand => k_is)
    (case hm_Stand => k_is)
    (case n_Stand_up => k_is)
    (case n_Stand_left => k_is)
    (case n_Stand_right => k_is)
    (case n_Stand_turned => k_is)
    (case n_Stand_added => k_is)
    (case n_Stand_value => k_is)
    (case xl_BadForest => k_is)
    (case xi_BadForest => k_is)
    (case xt_BadForest => k_is)
    (case xf_BadForest => k_is)
    (case xc_BadForest => k_is)
    (case xk_BadForest => k_is)
    (case xe_BadForest => k_is)
    (case xy_BadForest => k_is)
    (case xo_BadForest => k_is)
    (case xs_BadForest => first | rfl | k_is)
    (case xsa_BadForest => k_is)
    (case xga_BadForest => k_is)
    (case xgg_BadForest => k_is)
    (case xnb_BadForest => k_is)
    (case xhc_BadForest => k_is)
    (case xl_NoHouse => k_is)
    (case xi_NoHouse => k_is)
    (case xt_NoHouse => k_is)
    (case xf_NoHouse => k_is)
    (case xc_NoHouse => k_is)
    (case xk_NoHouse => k_is)
    (case xe_NoHouse => k_is)
    (case xy_NoHouse => k_is)
    (case xo_NoHouse => k_is)
    (case xs_NoHouse => first | rfl | k_is)
    (case xl_NoShape => k_is)
    (case xi_NoShape => k_is)
    (case xt_NoShape => k_is)
    (case xf_NoShape => k_is)
    (case xc_NoShape => k_is)
    (case xk_NoShape => k_is)
    (case xe_NoShape => k_is)
    (case xy_NoShape => k_is)
    (case xo_NoShape => k_is)
    (case xs_NoShape => first | rfl | k_is)
    (case xl_NoTurn => k_is)
    (case xi_NoTurn => k_is)
    (case xt_NoTurn => k_is)
    (case xf_NoTurn => k_is)
    (case xc_NoTurn => k_is)
    (case xk_NoTurn => k_is)
    (case xe_NoTurn => k_is)
    (case xy_NoTurn => k_is)
    (case xo_NoTurn => k_is)
    (case xs_NoTurn => first | rfl | k_is)
    (case gx_k_Forest_int => kit_is)
    (case gx_k_Forest_bool => kit_is)
    (case gx_k_Forest_tuple => kit_is)
    (case gx_k_Forest_list => kit_is)
    (case gx_kk_Forest_Forest => kit_is)
    (case gx_k_Stand_int => kit_is)
    (case gx_k_Stand_bool => kit_is)
    (case gx_k_Stand_tuple => kit_is)
    (case gx_k_Stand_list => kit_is)
    (case gx_kk_Stand_Forest => kit_is)
    (case gx_t_NoneType_Forest => kit_is)
    (case gx_t_int_Forest => kit_is)
    (case gx_t_bool_Forest => kit_is)
    (case gx_t_tuple_Forest => kit_is)
    (case gx_t_list_Forest => kit_is)
    (case gx_t_str_Forest => kit_is)
    (case gx_t_dict_Forest => kit_is)
    (case nb_range => k_is)
    (case nb_all => k_is)
    (case nb_tuple => k_is)
    (case nb_isinstance => k_is)
    (case nb_list => k_is)
    (case nb_int => k_is)
    (case nb_len => k_is)
    (case nb_bool => k_is)
    (case nb_zip => k_is)
    (case nb_min => k_is)
    (case gc_MOST_HOUSES => k_is)
