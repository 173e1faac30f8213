import PyProof.Rows.All
import HandS.Lambda
import Wide.All
import OpenK.AllK
import Wide.FinOn
import HandS.ForMost
import HandS.IsInst
import HandS.Conv
import HandS.Zip
import HandS.Style
import HandS.Wide
import HandS.Codes
import HandS.TupAny
import HandS.TupMul
import HandS.SlotsOwn
import HandS.ForExc
import PyProof.EqLayable
import HandS.WideBits
import HandS.Walk
import HandS.TryOnly
import KE.GoesMore
import HandS.SetFor
import HandS.SortInts
import HandS.StrMore
import HandS.StrSplit
import HandS.RaiseMore
import KE.KDictCopyH
import KE.SortData
import HandS.SortKw
import HandS.Dict
import HandS.Small
import HandS.Head0
import HandS.Head1
import HandS.Head2
import HandS.HeadEnd
import HandS.HeadHook1
import HandS.HeadHook2
import HandS.HeadHook3
import HandS.HeadHook4
import HandS.HeadWalk
import KE.DataMinMax
import KE.DataFind
import HandS.ExcIs
import HandS.CallLocal
import HandS.ExcField
import KE.KExcIs
import PyProof.InstEq
import PyProof.NeKinds
import HandS.TryMany
import PyProof.LongRange
import PyProof.StrOps2
import KE.KDictList
import HandS.Iter
import HandS.Text
import PySem.Challenge.RW_cutlinked_k35_whole_things_written_and_r
import KE.IntTextLaws
import KE.KIntText
import PyProof.Rows.ReprOcc
import PyProof.Rows.StrBin
set_option Elab.async false
set_option linter.all false
set_option maxRecDepth 100000
set_option maxHeartbeats 4000000
namespace M3
open PySem PySem.Spec PyProof.Rows L2
def xcB (K : PySem.W.Frag) (C : Addr) : Bool := match K.lookup C with
  | some ⟨.type t, _, .cls cd, sl⟩ => (match cd.mro, sl.toList with
    | .ref C' :: bm, [_, _, _, _, some (.builtin n), _] => decide (t = "type") && (decide (C' = C) && (decide (n = "ValueError.__new__") && (cd.hasDict && (!cd.hasDel && PySem.HandSPX.refsVE bm))))
    | _, _ => false)
  | _ => false
def kdB (K : PySem.W.Frag) (f : Addr) : Bool := match K.lookup f with
  | some ⟨_, _, .func fd, _⟩ => decide (fd.kwdefaults = .none)
  | _ => false
def keyT : Value → Option Str
  | .str z _ => some z
  | _ => none
def obsL (as : List Addr) (fa : List He.Fa) (fn : List He.DefD) (ts : List He.Tab) (tf : List He.Defn) (ex : PySem.W.Frag → Bool) (g : Addr → Option Obj) : He.AlX := (He.obsT fa fn ts (He.frT g as), ex (He.frT g as) && He.tabsB g tf (He.frT g as))
theorem saysL_of {as : List Addr} {fa : List He.Fa} {fn : List He.DefD} {ts : List He.Tab} {tf : List He.Defn} {ex : PySem.W.Frag → Bool} {w : World} {h : Heap} (e : obsL as fa fn ts tf ex h.get? = He.valX fn ts w) : He.SaysX fa fn ts tf ex w h (He.frT h.get? as) := by
  have e1 : He.obsT fa fn ts (He.frT h.get? as) = He.valT fn ts w := congrArg (fun z : He.AlX => z.1) e
  have e2 : (ex (He.frT h.get? as) && He.tabsB h.get? tf (He.frT h.get? as)) = true := congrArg (fun z : He.AlX => z.2) e
  rw [Bool.and_eq_true] at e2
  have key : ∀ p ∈ tf, PySem.W.codeHdIn (He.frT h.get? as) (He.cT (He.frT h.get? as) p).1 (He.cT (He.frT h.get? as) p).2 = true ∧ ∃ o, h.get? (He.cT (He.frT h.get? as) p).2 = some o ∧ He.emptyTab o = true := fun p hp => by
    have h3 := List.all_eq_true.mp e2.2 p hp
    rw [Bool.and_eq_true] at h3
    refine ⟨h3.1, ?_⟩
    have h4 := h3.2
    cases q : h.get? (He.cT (He.frT h.get? as) p).2 with
    | none => rw [q] at h4; cases h4
    | some o => rw [q] at h4; exact ⟨o, rfl, h4⟩
  exact ⟨e1, e2.1, fun p hp => (key p hp).1, fun p hp => let ⟨_, o, q, z⟩ := key p hp; He.frT_none q z, fun p hp => by
    obtain ⟨_, o, q, z⟩ := key p hp
    rw [q, He.emptyTab_eq z]⟩
def hookL (as : List Addr) (fa : List He.Fa) (fn : List He.DefD) (ts : List He.Tab) (tf : List He.Defn) (ex : PySem.W.Frag → Bool) : PySem.W.Hook where
  α := He.AlX
  obs := fun s => obsL as fa fn ts tf ex s.heap.get?
  val := fun w => He.valX fn ts w
  says := fun w h => ∃ K : PySem.W.Frag, K.In h ∧ He.SaysX fa fn ts tf ex w h K
  of := fun _ _ e => ⟨_, He.frT_in, saysL_of e⟩
  keeps := fun _ _ _ ⟨K, hK, c⟩ k => ⟨K, PySem.W.Frag.In.keeps hK k, ⟨c.t, c.more, c.hd, c.out, fun p hp => k _ _ (c.empty p hp)⟩⟩
theorem obsL_eq {as : List Addr} {fa : List He.Fa} {fn : List He.DefD} {ts : List He.Tab} {tf : List He.Defn} {ex : PySem.W.Frag → Bool} {g : Addr → Option Obj} {s : Shared} (h : ∀ a, g a = s.heap.get? a) : obsL as fa fn ts tf ex g = (hookL as fa fn ts tf ex).obs s := by
  have e : g = s.heap.get? := funext h
  rw [e] <;> rfl
def entsF : List DictEntry → List (Str × Bool) → Bool
  | [], [] => true
  | e :: es, z :: zs => decide (keyT e.key = some z.1) && (decide (e.val = .bool z.2) && entsF es zs)
  | _, _ => false
def entF (K : PySem.W.Frag) (d : Addr) (zs : List (Str × Bool)) : Bool := match K.lookup d with
  | some ⟨_, _, .dict es _, _⟩ => entsF es.toList zs
  | _ => false
end M3
namespace W3
open PySem PySem.Spec PyProof.Rows L2 M3
def top (i : Nat) : Stmt := PySem.Challenge.pw_cutlinked_k35_whole_things_written_and_r.main.body.getD i (.Pass ⟨0, 0, 0, 0⟩)
abbrev s_is_integer : Stmt := top 7
abbrev s_come_to_roots : Stmt := top 14
abbrev s_is_word : Stmt := top 22
abbrev s_read_parts : Stmt := top 28
abbrev s_end_of : Stmt := top 30
abbrev s_L_hand : Stmt := top 32
abbrev s_L_draw : Stmt := top 33
abbrev s_L_deep : Stmt := top 36
abbrev s_L_token : Stmt := top 38
abbrev s_L_item : Stmt := top 39
abbrev s_is_between : Stmt := top 8
abbrev s_are_worths : Stmt := top 15
abbrev s_read_behind_minus : Stmt := top 29
abbrev s_L_some : Stmt := top 34
abbrev s_L_read : Stmt := top 40
abbrev s_is_house : Stmt := top 9
abbrev s_is_many : Stmt := top 10
abbrev s_L_nested : Stmt := top 45
abbrev s_L_spoilt : Stmt := top 46
abbrev s_are_parents : Stmt := top 13
abbrev s_Forest_init : Stmt := (inClass (top 12) 0)
abbrev s_read_thing_at : Stmt := top 27
abbrev s_read_thing : Stmt := top 26
abbrev s_L_told : Stmt := top 43
abbrev s_L_is : Stmt := top 35
abbrev s_text_of : Stmt := top 25
abbrev s_L_written : Stmt := top 37
abbrev s_L_can_be : Stmt := top 42
abbrev s_can_be_written : Stmt := top 24
abbrev s_written : Stmt := top 23
abbrev s_L_drawn_thing : Stmt := top 41
abbrev s_L_given : Stmt := top 44
abbrev s_law : Stmt := top 47
abbrev s_XBadForest : Stmt := (inClass (top 2) 0)
abbrev s_XNoThing : Stmt := (inClass (top 3) 0)
abbrev s_XBadThing : Stmt := (inClass (top 4) 0)
def z_FLAGS : List (Str × Bool) := [("yes", true), ("no", false)]
def hFa0 : List He.Fa := [.glo "Forest", .glo "ForestError", .glo "BadForest", .glo "NoThing", .glo "BadThing", .glo "FLAGS", .glo "is_integer", .glo "come_to_roots", .glo "is_word", .glo "_read_parts", .glo "_end_of", .glo "_law_hand", .glo "_law_draw", .glo "_law_deep", .glo "_law_token", .glo "_law_item", .glo "is_between", .glo "_are_worths", .glo "_read_behind_minus", .glo "_law_some", .glo "_law_read", .glo "is_house", .glo "is_many", .glo "_law_nested", .glo "_law_spoilt", .glo "_are_parents", .glo "_read_thing_at", .glo "read_thing", .glo "_law_told", .glo "_law_is"]
def hFa1 : List He.Fa := [.glo "_text_of", .glo "_law_written", .glo "_law_can_be", .glo "_can_be_written", .glo "written", .glo "_law_drawn_thing", .glo "_law_given", .glo "law", .free "ValueError", .free "range", .free "all", .free "isinstance", .free "tuple", .free "str", .free "bool", .free "dict", .free "int", .free "len", .free "abs", .free "list", .free "min", .int "MOST_HOUSES" (64), .str "LETTERS" "abcdefghijklmnopqrstuvwxyz", .str "FIGURES" "0123456789", .int "MOST_SIGNS" (20), .int "MOST_DEEP" (20), .cls "Forest", .mkr "Forest", .noat "Forest" "parents", .noat "Forest" "worths"]
def hFa : List He.Fa := hFa0 ++ (hFa1)
def hFn0 : List He.DefD := [⟨("is_integer", none), "is_integer", "is_integer", defArgs s_is_integer, defBody s_is_integer, defScope s_is_integer, [], []⟩, ⟨("come_to_roots", none), "come_to_roots", "come_to_roots", defArgs s_come_to_roots, defBody s_come_to_roots, defScope s_come_to_roots, [], []⟩, ⟨("is_word", none), "is_word", "is_word", defArgs s_is_word, defBody s_is_word, defScope s_is_word, [], []⟩, ⟨("_read_parts", none), "_read_parts", "_read_parts", defArgs s_read_parts, defBody s_read_parts, defScope s_read_parts, [], []⟩, ⟨("_end_of", none), "_end_of", "_end_of", defArgs s_end_of, defBody s_end_of, defScope s_end_of, [], []⟩, ⟨("_law_hand", none), "_law_hand", "_law_hand", defArgs s_L_hand, defBody s_L_hand, defScope s_L_hand, [], []⟩, ⟨("_law_draw", none), "_law_draw", "_law_draw", defArgs s_L_draw, defBody s_L_draw, defScope s_L_draw, [], []⟩, ⟨("_law_deep", none), "_law_deep", "_law_deep", defArgs s_L_deep, defBody s_L_deep, defScope s_L_deep, [], []⟩, ⟨("_law_token", none), "_law_token", "_law_token", defArgs s_L_token, defBody s_L_token, defScope s_L_token, [], []⟩, ⟨("_law_item", none), "_law_item", "_law_item", defArgs s_L_item, defBody s_L_item, defScope s_L_item, [], []⟩, ⟨("is_between", none), "is_between", "is_between", defArgs s_is_between, defBody s_is_between, defScope s_is_between, [], []⟩, ⟨("_are_worths", none), "_are_worths", "_are_worths", defArgs s_are_worths, defBody s_are_worths, defScope s_are_worths, [], []⟩, ⟨("_read_behind_minus", none), "_read_behind_minus", "_read_behind_minus", defArgs s_read_behind_minus, defBody s_read_behind_minus, defScope s_read_behind_minus, [], []⟩, ⟨("_law_some", none), "_law_some", "_law_some", defArgs s_L_some, defBody s_L_some, defScope s_L_some, [], []⟩, ⟨("_law_read", none), "_law_read", "_law_read", defArgs s_L_read, defBody s_L_read, defScope s_L_read, [], []⟩, ⟨("is_house", none), "is_house", "is_house", defArgs s_is_house, defBody s_is_house, defScope s_is_house, [], []⟩, ⟨("is_many", none), "is_many", "is_many", defArgs s_is_many, defBody s_is_many, defScope s_is_many, [], []⟩, ⟨("_law_nested", none), "_law_nested", "_law_nested", defArgs s_L_nested, defBody s_L_nested, defScope s_L_nested, [], []⟩, ⟨("_law_spoilt", none), "_law_spoilt", "_law_spoilt", defArgs s_L_spoilt, defBody s_L_spoilt, defScope s_L_spoilt, [], []⟩, ⟨("_are_parents", none), "_are_parents", "_are_parents", defArgs s_are_parents, defBody s_are_parents, defScope s_are_parents, [], []⟩, ⟨("_read_thing_at", none), "_read_thing_at", "_read_thing_at", defArgs s_read_thing_at, defBody s_read_thing_at, defScope s_read_thing_at, [], []⟩, ⟨("read_thing", none), "read_thing", "read_thing", defArgs s_read_thing, defBody s_read_thing, defScope s_read_thing, [], []⟩, ⟨("_law_told", none), "_law_told", "_law_told", defArgs s_L_told, defBody s_L_told, defScope s_L_told, [], []⟩, ⟨("_law_is", none), "_law_is", "_law_is", defArgs s_L_is, defBody s_L_is, defScope s_L_is, [], []⟩, ⟨("_text_of", none), "_text_of", "_text_of", defArgs s_text_of, defBody s_text_of, defScope s_text_of, [], []⟩, ⟨("_law_written", none), "_law_written", "_law_written", defArgs s_L_written, defBody s_L_written, defScope s_L_written, [], []⟩, ⟨("_law_can_be", none), "_law_can_be", "_law_can_be", defArgs s_L_can_be, defBody s_L_can_be, defScope s_L_can_be, [], []⟩, ⟨("_can_be_written", none), "_can_be_written", "_can_be_written", defArgs s_can_be_written, defBody s_can_be_written, defScope s_can_be_written, [], []⟩, ⟨("written", none), "written", "written", defArgs s_written, defBody s_written, defScope s_written, [], []⟩, ⟨("_law_drawn_thing", none), "_law_drawn_thing", "_law_drawn_thing", defArgs s_L_drawn_thing, defBody s_L_drawn_thing, defScope s_L_drawn_thing, [], []⟩]
def hFn1 : List He.DefD := [⟨("_law_given", none), "_law_given", "_law_given", defArgs s_L_given, defBody s_L_given, defScope s_L_given, [], []⟩, ⟨("law", none), "law", "law", defArgs s_law, defBody s_law, defScope s_law, [], []⟩, ⟨("Forest", some "__init__"), "__init__", "Forest.__init__", defArgs s_Forest_init, defBody s_Forest_init, defScope s_Forest_init, [], []⟩, ⟨("BadForest", some "__init__"), "__init__", "BadForest.__init__", defArgs s_XBadForest, defBody s_XBadForest, defScope s_XBadForest, [], []⟩, ⟨("NoThing", some "__init__"), "__init__", "NoThing.__init__", defArgs s_XNoThing, defBody s_XNoThing, defScope s_XNoThing, [], []⟩, ⟨("BadThing", some "__init__"), "__init__", "BadThing.__init__", defArgs s_XBadThing, defBody s_XBadThing, defScope s_XBadThing, [], []⟩]
def hFn : List He.DefD := hFn0 ++ (hFn1)
def hCk0 (K : PySem.W.Frag) : List Bool := [decide (PySem.W.findIn K (.ref (He.ga K "Forest")) "__class__" = some (some (.builtin "object.__class__"))), decide (PySem.W.mroIn K (He.ga K "Forest") (.type "object") = some true), decide (PySem.W.specialIn K (.builtin "object.__class__") "__get__" = some (some (.builtin "getset_descriptor.__get__"))), decide (PySem.W.takesIn K (.builtin "object.__class__") = some true), xcB K (He.ga K "BadForest"), decide (PySem.W.findIn K (.ref (He.ga K "BadForest")) "__init__" = some (some (.ref (He.ma K (He.ga K "BadForest") "__init__")))), decide (PySem.W.typeIn K (.ref (He.ma K (He.ga K "BadForest") "__init__")) = some (.type "function")), PySem.W.keepIn K (.ref (He.ga K "BadForest")), decide (PySem.W.subIn K (.ref (He.ga K "BadForest")) (.type "BaseException") = some true), decide (PySem.W.typeIn K (.ref (He.ga K "BadForest")) = some (.type "type")), PySem.W.isClsIn K (He.ga K "BadForest"), decide (PySem.W.subIn K (.ref (He.ga K "BadForest")) (.ref (He.ga K "BadForest")) = some true), kdB K (He.ma K (He.ga K "BadForest") "__init__"), decide (PySem.W.findIn K (.ref (He.ga K "BadForest")) "__setattr__" = some (some (.builtin "object.__setattr__"))), decide (PySem.W.findIn K (.ref (He.ga K "BadForest")) "__getattribute__" = some (some (.builtin "BaseException.__getattribute__"))), decide (PySem.W.findIn K (.ref (He.ga K "BadForest")) "__getattr__" = some none), decide (PySem.W.findIn K (.ref (He.ga K "BadForest")) "part" = some none), PySem.W.hasDictIn K (He.ga K "BadForest"), xcB K (He.ga K "NoThing"), decide (PySem.W.findIn K (.ref (He.ga K "NoThing")) "__init__" = some (some (.ref (He.ma K (He.ga K "NoThing") "__init__")))), decide (PySem.W.typeIn K (.ref (He.ma K (He.ga K "NoThing") "__init__")) = some (.type "function")), PySem.W.keepIn K (.ref (He.ga K "NoThing")), decide (PySem.W.subIn K (.ref (He.ga K "NoThing")) (.type "BaseException") = some true), decide (PySem.W.typeIn K (.ref (He.ga K "NoThing")) = some (.type "type")), PySem.W.isClsIn K (He.ga K "NoThing"), decide (PySem.W.subIn K (.ref (He.ga K "NoThing")) (.ref (He.ga K "NoThing")) = some true), kdB K (He.ma K (He.ga K "NoThing") "__init__"), xcB K (He.ga K "BadThing"), decide (PySem.W.findIn K (.ref (He.ga K "BadThing")) "__init__" = some (some (.ref (He.ma K (He.ga K "BadThing") "__init__")))), decide (PySem.W.typeIn K (.ref (He.ma K (He.ga K "BadThing") "__init__")) = some (.type "function"))]
def hCk1 (K : PySem.W.Frag) : List Bool := [PySem.W.keepIn K (.ref (He.ga K "BadThing")), decide (PySem.W.subIn K (.ref (He.ga K "BadThing")) (.type "BaseException") = some true), decide (PySem.W.typeIn K (.ref (He.ga K "BadThing")) = some (.type "type")), PySem.W.isClsIn K (He.ga K "BadThing"), decide (PySem.W.subIn K (.ref (He.ga K "BadThing")) (.ref (He.ga K "BadThing")) = some true), kdB K (He.ma K (He.ga K "BadThing") "__init__"), decide (PySem.W.findIn K (.ref (He.ga K "BadThing")) "__setattr__" = some (some (.builtin "object.__setattr__"))), decide (PySem.W.findIn K (.ref (He.ga K "BadThing")) "__getattribute__" = some (some (.builtin "BaseException.__getattribute__"))), decide (PySem.W.findIn K (.ref (He.ga K "BadThing")) "__getattr__" = some none), decide (PySem.W.findIn K (.ref (He.ga K "BadThing")) "place" = some none), PySem.W.hasDictIn K (He.ga K "BadThing"), decide (PySem.W.findIn K (.ref (He.ga K "BadThing")) "__class__" = some (some (.builtin "object.__class__"))), decide (PySem.W.mroIn K (He.ga K "BadThing") (.type "object") = some true), decide (PySem.W.findIn K (.ref (He.ga K "NoThing")) "__getattribute__" = some (some (.builtin "BaseException.__getattribute__"))), decide (PySem.W.findIn K (.ref (He.ga K "NoThing")) "__getattr__" = some none), PySem.W.hasDictIn K (He.ga K "NoThing"), decide (PySem.W.findIn K (.ref (He.ga K "NoThing")) "__class__" = some (some (.builtin "object.__class__"))), decide (PySem.W.mroIn K (He.ga K "NoThing") (.type "object") = some true), decide (PySem.W.kitOne K (.ref (He.ga K "Forest")) (.type "int") = some false), decide (PySem.W.kitOne K (.ref (He.ga K "Forest")) (.type "bool") = some false), decide (PySem.W.kitOne K (.ref (He.ga K "Forest")) (.type "tuple") = some false), decide (PySem.W.kitOne K (.ref (He.ga K "Forest")) (.type "list") = some false), decide (PySem.W.kitOne K (.ref (He.ga K "Forest")) (.type "str") = some false), decide (PySem.W.kitOne K (.ref (He.ga K "Forest")) (.type "dict") = some false), decide (PySem.W.kitOne K (.ref (He.ga K "Forest")) (.ref (He.ga K "Forest")) = some true), decide (PySem.W.kitOne K (.type "NoneType") (.ref (He.ga K "Forest")) = some false), decide (PySem.W.kitOne K (.type "int") (.ref (He.ga K "Forest")) = some false), decide (PySem.W.kitOne K (.type "bool") (.ref (He.ga K "Forest")) = some false), decide (PySem.W.kitOne K (.type "tuple") (.ref (He.ga K "Forest")) = some false), decide (PySem.W.kitOne K (.type "list") (.ref (He.ga K "Forest")) = some false)]
def hCk2 (K : PySem.W.Frag) : List Bool := [decide (PySem.W.kitOne K (.type "str") (.ref (He.ga K "Forest")) = some false), decide (PySem.W.kitOne K (.type "dict") (.ref (He.ga K "Forest")) = some false), decide (PySem.W.kitOne K (.ref (He.ga K "BadThing")) (.ref (He.ga K "ForestError")) = some true), decide (PySem.W.kitOne K (.ref (He.ga K "BadThing")) (.type "ValueError") = some true), decide (PySem.W.kitOne K (.ref (He.ga K "NoThing")) (.ref (He.ga K "ForestError")) = some true), decide (PySem.W.kitOne K (.ref (He.ga K "NoThing")) (.type "ValueError") = some true), decide (PySem.W.subIn K (.ref (He.ga K "BadForest")) (.ref (He.ga K "BadThing")) = some false), decide (PySem.W.subIn K (.ref (He.ga K "BadForest")) (.ref (He.ga K "NoThing")) = some false), decide (PySem.W.subIn K (.ref (He.ga K "NoThing")) (.ref (He.ga K "BadThing")) = some false), decide (PySem.W.subIn K (.ref (He.ga K "NoThing")) (.ref (He.ga K "NoThing")) = some true), decide (PySem.W.subIn K (.ref (He.ga K "BadThing")) (.ref (He.ga K "BadThing")) = some true), decide (PySem.W.subIn K (.ref (He.ga K "BadThing")) (.ref (He.ga K "NoThing")) = some false), entF K (He.ga K "FLAGS") z_FLAGS]
def hCk (K : PySem.W.Frag) : List Bool := hCk0 K ++ (hCk1 K ++ (hCk2 K))
def hTs : List He.Tab := [((fun K => He.ga K "FLAGS"), z_FLAGS.map Prod.fst)]
def hEx (K : PySem.W.Frag) : Bool := (hCk K).all id
def hNames0 : List Str := ["ForestError", "BadForest", "NoThing", "BadThing", "MOST_HOUSES", "is_integer", "is_between", "is_house", "is_many", "Forest", "_are_parents", "come_to_roots", "_are_worths", "LETTERS", "FIGURES", "MOST_SIGNS", "MOST_DEEP", "FLAGS", "is_word", "written", "_can_be_written", "_text_of", "read_thing", "_read_thing_at", "_read_parts", "_read_behind_minus", "_end_of", "_law_hand", "_law_draw", "_law_some"]
def hNames1 : List Str := ["_law_is", "_law_deep", "_law_written", "_law_token", "_law_item", "_law_read", "_law_drawn_thing", "_law_can_be", "_law_told", "_law_given", "_law_nested", "_law_spoilt"]
def hNames : List Str := hNames0 ++ (hNames1)
def hAs0 : List Addr := [nat_lit 3, nat_lit 6, nat_lit 4, nat_lit 24, nat_lit 44, nat_lit 63, nat_lit 82, nat_lit 91, nat_lit 98, nat_lit 105, nat_lit 112, nat_lit 136, nat_lit 145, nat_lit 150, nat_lit 155, nat_lit 156, nat_lit 161, nat_lit 168, nat_lit 173, nat_lit 178, nat_lit 185, nat_lit 192, nat_lit 199, nat_lit 206, nat_lit 213, nat_lit 218, nat_lit 225, nat_lit 232, nat_lit 237, nat_lit 244, nat_lit 249, nat_lit 256, nat_lit 263, nat_lit 270, nat_lit 275, nat_lit 280, nat_lit 287, nat_lit 294, nat_lit 301, nat_lit 308]
def hAs1 : List Addr := [nat_lit 315, nat_lit 0, nat_lit 23, nat_lit 43, nat_lit 62, nat_lit 81, nat_lit 90, nat_lit 97, nat_lit 104, nat_lit 111, nat_lit 135, nat_lit 144, nat_lit 149, nat_lit 154, nat_lit 160, nat_lit 167, nat_lit 172, nat_lit 177, nat_lit 184, nat_lit 191, nat_lit 198, nat_lit 205, nat_lit 212, nat_lit 217, nat_lit 224, nat_lit 231, nat_lit 236, nat_lit 243, nat_lit 248, nat_lit 255, nat_lit 262, nat_lit 269, nat_lit 274, nat_lit 279, nat_lit 286, nat_lit 293, nat_lit 300, nat_lit 307, nat_lit 314, nat_lit 22]
def hAs2 : List Addr := [nat_lit 25, nat_lit 41, nat_lit 42, nat_lit 60, nat_lit 61, nat_lit 79, nat_lit 80, nat_lit 85, nat_lit 86, nat_lit 87, nat_lit 88, nat_lit 89, nat_lit 92, nat_lit 93, nat_lit 94, nat_lit 95, nat_lit 96, nat_lit 99, nat_lit 100, nat_lit 101, nat_lit 102, nat_lit 103, nat_lit 106, nat_lit 107, nat_lit 108, nat_lit 109, nat_lit 110, nat_lit 126, nat_lit 133, nat_lit 134, nat_lit 137, nat_lit 138, nat_lit 141, nat_lit 142, nat_lit 143, nat_lit 146, nat_lit 147, nat_lit 148, nat_lit 151, nat_lit 152]
def hAs3 : List Addr := [nat_lit 153, nat_lit 157, nat_lit 158, nat_lit 159, nat_lit 162, nat_lit 163, nat_lit 164, nat_lit 165, nat_lit 166, nat_lit 169, nat_lit 170, nat_lit 171, nat_lit 174, nat_lit 175, nat_lit 176, nat_lit 179, nat_lit 180, nat_lit 181, nat_lit 182, nat_lit 183, nat_lit 186, nat_lit 187, nat_lit 188, nat_lit 189, nat_lit 190, nat_lit 193, nat_lit 194, nat_lit 195, nat_lit 196, nat_lit 197, nat_lit 200, nat_lit 201, nat_lit 202, nat_lit 203, nat_lit 204, nat_lit 207, nat_lit 208, nat_lit 209, nat_lit 210, nat_lit 211]
def hAs4 : List Addr := [nat_lit 214, nat_lit 215, nat_lit 216, nat_lit 219, nat_lit 220, nat_lit 221, nat_lit 222, nat_lit 223, nat_lit 226, nat_lit 227, nat_lit 228, nat_lit 229, nat_lit 230, nat_lit 233, nat_lit 234, nat_lit 235, nat_lit 238, nat_lit 239, nat_lit 240, nat_lit 241, nat_lit 242, nat_lit 245, nat_lit 246, nat_lit 247, nat_lit 250, nat_lit 251, nat_lit 252, nat_lit 253, nat_lit 254, nat_lit 257, nat_lit 258, nat_lit 259, nat_lit 260, nat_lit 261, nat_lit 264, nat_lit 265, nat_lit 266, nat_lit 267, nat_lit 268, nat_lit 271]
def hAs5 : List Addr := [nat_lit 272, nat_lit 273, nat_lit 276, nat_lit 277, nat_lit 278, nat_lit 281, nat_lit 282, nat_lit 283, nat_lit 284, nat_lit 285, nat_lit 288, nat_lit 289, nat_lit 290, nat_lit 291, nat_lit 292, nat_lit 295, nat_lit 296, nat_lit 297, nat_lit 298, nat_lit 299, nat_lit 302, nat_lit 303, nat_lit 304, nat_lit 305, nat_lit 306, nat_lit 309, nat_lit 310, nat_lit 311, nat_lit 312, nat_lit 313, nat_lit 40, nat_lit 59, nat_lit 78, nat_lit 125, nat_lit 132]
def hAs : List Addr := hAs0 ++ (hAs1 ++ (hAs2 ++ (hAs3 ++ (hAs4 ++ (hAs5)))))
def hTf : List He.Defn := []
abbrev hk : PySem.W.Hook := hookL hAs hFa hFn hTs hTf hEx
def hob (s : PySem.W.SharedT) : He.AlX := obsL hAs hFa hFn hTs hTf hEx (HandSHeadRun.getT s)
theorem hob_eq (s : PySem.W.SharedT) : hob s = hk.obs s.abs := obsL_eq (HandSHeadRun.getT_eq s)
abbrev HR (w : World) : Prop := HandSHeadRun.RunEq (PySem.W.OpenLaw.row PySem.Challenge.rw_cutlinked_k35_whole_things_written_and_r) (PySem.W.view (PySem.W.OpenLaw.row PySem.Challenge.rw_cutlinked_k35_whole_things_written_and_r).prog [47]) hk hob 200000 hNames w
set_option maxHeartbeats 0 in
theorem hrunF (w : World) : HR (w.withFollow "special-get-raises" false) := by
  intro os
  kernel_rfl
set_option maxHeartbeats 0 in
theorem hrunT (w : World) : HR (w.withFollow "special-get-raises" true) := by
  intro os
  kernel_rfl
theorem hrun (w : World) : HR w := PySem.W.byRow2 "special-get-raises" (P := HR) hrunF hrunT w
end W3
namespace M3
open PySem PySem.Spec PyProof.Rows L2
inductive P
  | non | bl (b : Bool) | int (i : Int) | str (s : Str)
  | tup (l : List P) | lst (l : List P) | dic (l : List (P × P)) | ins (C : Addr) (l : List (Str × P))
  | con (v : V) | scr (l : List Int)
/-- data, or an object by its number -/
inductive D
  | dat (p : P) | obj (i : Nat)
/-- what stands at a number -/
inductive O
  | lst (l : List D) | ins (C : Addr) (l : List (Str × D)) | dic (l : List (Key × D)) | tup (l : List D)
/-- a tuple, a list to be read, that never changes -/
def TupAt (K : PySem.W.Frag) (ι X : List Addr) (H : Hp) (a : Addr) (xs : List V) : Prop := (a ∉ ι ∧ a ∉ X ∧ Rd H a (.tup xs)) ∨
    ∃ (o : Obj) (its : Array Value) (n : Nat), K.lookup a = some o ∧ o.cls = .type "tuple" ∧ o.data = .seq its n ∧ its.size ≤ sizeLine ∧ Vals xs its.toList
def LstAt (K : PySem.W.Frag) (ι X : List Addr) (H : Hp) (a : Addr) (xs : List V) : Prop := (a ∉ ι ∧ a ∉ X ∧ Rd H a (.lst xs)) ∨
    ∃ (o : Obj) (its : Array Value) (n : Nat), K.lookup a = some o ∧ o.cls = .type "list" ∧ o.dict = none ∧ o.data = .seq its n ∧ its.size ≤ sizeLine ∧ Vals xs its.toList
theorem TupAt.sq {K : PySem.W.Frag} {ι X : List Addr} {H : Hp} {a : Addr} {xs : List V} (t : TupAt K ι X H a xs) : SqT K H a xs := t.imp (fun x => x.2.2) id
theorem LstAt.sq {K : PySem.W.Frag} {ι X : List Addr} {H : Hp} {a : Addr} {xs : List V} (t : LstAt K ι X H a xs) : SqL K H a xs := t.imp (fun x => x.2.2) id
section
variable (K : PySem.W.Frag) (ι X : List Addr) (H : Hp)
mutual
def RepP : P → V → Prop
  | .non, v => v = .non
  | .bl b, v => v = .bl b
  | .int i, v => v = .int i
  | .str s, v => v = .str s
  | .tup l, v => ∃ a xs, v = .ref a ∧ TupAt K ι X H a xs ∧ RepPs l xs
  | .lst l, v => ∃ a xs, v = .ref a ∧ a ∉ ι ∧ a ∉ X ∧ H a = some (.lst xs) ∧ RepPs l xs
  | .dic l, v => ∃ a xs, v = .ref a ∧ a ∉ ι ∧ a ∉ X ∧ H a = some (.dK xs) ∧ RepKs l xs
  | .ins C l, v => ∃ a dx xs, v = .ref a ∧ a ∉ ι ∧ a ∉ X ∧ H a = some (.ins C dx xs) ∧ RepFs l xs
  | .con w, v => v = w
  | .scr l, v => ∃ a, v = .ref a ∧ LstAt K ι X H a (l.map V.int)
def RepPs : List P → List V → Prop
  | [], xs => xs = []
  | p :: ps, xs => ∃ y ys, xs = y :: ys ∧ RepP p y ∧ RepPs ps ys
def RepKs : List (P × P) → List (Key × V) → Prop
  | [], xs => xs = []
  | (k, p) :: ps, xs => ∃ c y ys, xs = (c, y) :: ys ∧ RepP k (kV c) ∧ RepP p y ∧ RepKs ps ys
def RepFs : List (Str × P) → List (Str × V) → Prop
  | [], xs => xs = []
  | (f, p) :: ps, xs => ∃ y ys, xs = (f, y) :: ys ∧ RepP p y ∧ RepFs ps ys
end
def RepD : D → V → Prop
  | .dat p, v => RepP K ι X H p v
  | .obj i, v => ∃ a, ι[i]? = some a ∧ v = .ref a
def RepDs : List D → List V → Prop
  | [], xs => xs = []
  | p :: ps, xs => ∃ y ys, xs = y :: ys ∧ RepD K ι X H p y ∧ RepDs ps ys
def RepDF : List (Str × D) → List (Str × V) → Prop
  | [], xs => xs = []
  | (f, p) :: ps, xs => ∃ y ys, xs = (f, y) :: ys ∧ RepD K ι X H p y ∧ RepDF ps ys
def RepDK : List (Key × D) → List (Key × V) → Prop
  | [], xs => xs = []
  | (f, p) :: ps, xs => ∃ y ys, xs = (f, y) :: ys ∧ RepD K ι X H p y ∧ RepDK ps ys
def RepO : O → Addr → Prop
  | .lst l, a => ∃ xs, H a = some (.lst xs) ∧ RepDs K ι X H l xs
  | .ins C l, a => ∃ dx xs, H a = some (.ins C dx xs) ∧ RepDF K ι X H l xs
  | .dic l, a => ∃ xs, H a = some (.dK xs) ∧ RepDK K ι X H l xs
  | .tup l, a => ∃ xs, H a = some (.tup xs) ∧ RepDs K ι X H l xs
end
abbrev Store := List O
/-- the tables of code objects that a law's lambdas are told in -/
class TabsP where
  T : List (Addr × Str)
  /-- dicts of errors that are held -/
  F : List (Addr × List (Str × V)) := []
/-- no table -/
def NT (o : HO) : Prop := ∀ ps, o ≠ .tbl ps
theorem nt_lst {l : List V} : NT (.lst l) := fun ps z => by cases z
theorem nt_tup {l : List V} : NT (.tup l) := fun ps z => by cases z
theorem nt_dK {l : List (Key × V)} : NT (.dK l) := fun ps z => by cases z
theorem nt_ins {C dx : Addr} {l : List (Str × V)} : NT (.ins C dx l) := fun ps z => by cases z
theorem nt_frz {o u} : NT (.frz o u) := fun ps z => by cases z
/-- nothing but perhaps a table stands there -/
def Free (H : Hp) (p : Addr) : Prop := ∀ o, H p = some o → ¬ NT o
theorem Free.of {H : Hp} {p : Addr} (h : H p = none) : Free H p := fun o e => by rw [h] at e; cases e
theorem Free.ne {H : Hp} {p b : Addr} {o : HO} (h : Free H p) (e : H b = some o) (z : NT o) : b ≠ p := fun q => by subst q; exact h o e z
variable [TabsP]
/-- tables and dicts of held errors are as they should be -/
def HeldOk (H : Hp) : Prop := LamX.Tabs TabsP.T H ∧ ∀ p, p ∈ TabsP.F → H p.1 = some (.xd p.2)
/-- the store lies in the heap; X: lists that are being made -/
structure Rel (K : PySem.W.Frag) (ι X : List Addr) (S : Store) (H : Hp) : Prop where
  len : ι.length = S.length
  nd : ι.Nodup
  at_ : ∀ (i : Nat) o a, S[i]? = some o → ι[i]? = some a → RepO K ι X H o a
  ex : ∀ a ∈ X, a ∉ ι ∧ ∃ o, H a = some o ∧ NT o
  tabs : HeldOk H
/-- what stays -/
structure Ext (ι : List Addr) (H : Hp) (ι' : List Addr) (H' : Hp) : Prop where
  pre : ∃ t, ι' = ι ++ t
  old : ∀ b o, b ∉ ι → H b = some o → NT o → H' b = some o
  new : ∀ b, b ∈ ι' → b ∉ ι → ∀ o, H b = some o → ¬ NT o
  tab : HeldOk H → HeldOk H'
theorem Ext.refl {ι : List Addr} {H : Hp} : Ext ι H ι H := ⟨⟨[], by simp⟩, fun _ _ _ e _ => e, fun b h n => absurd h n, id⟩
theorem Ext.nin {ι ι' : List Addr} {H H' : Hp} (x : Ext ι H ι' H') {a : Addr} {o : HO} (n : a ∉ ι) (e : H a = some o) (z : NT o) : a ∉ ι' := fun m => x.new a m n o e z
theorem Ext.trans {ι ι1 ι2 : List Addr} {H H1 H2 : Hp} (x : Ext ι H ι1 H1) (y : Ext ι1 H1 ι2 H2) : Ext ι H ι2 H2 := by
  obtain ⟨t, et⟩ := x.pre
  obtain ⟨u, eu⟩ := y.pre
  refine ⟨⟨t ++ u, by rw [eu, et, List.append_assoc]⟩, fun b o n e z => y.old b o (x.nin n e z) (x.old b o n e z) z, fun b m n o e z => ?_, fun h => y.tab (x.tab h)⟩
  by_cases q : b ∈ ι1
  · exact x.new b q n o e z
  · exact y.new b m q o (x.old b o n e z) z
theorem Ext.at {ι ι' : List Addr} {H H' : Hp} (x : Ext ι H ι' H') {i : Nat} {a : Addr} (e : ι[i]? = some a) : ι'[i]? = some a := by
  obtain ⟨t, rfl⟩ := x.pre
  rw [List.getElem?_append_left (List.getElem?_eq_some_iff.mp e).1]
  exact e
theorem rd_ext {ι ι' : List Addr} {H H' : Hp} {a : Addr} {u : HO} (x : Ext ι H ι' H') (n : a ∉ ι) (r : Rd H a u) (z : NT u) : Rd H' a u ∧ a ∉ ι' := by
  rcases r with r | ⟨o, r⟩
  · exact ⟨.inl (x.old _ _ n r z), x.nin n r z⟩
  · exact ⟨.inr ⟨o, x.old _ _ n r nt_frz⟩, x.nin n r nt_frz⟩
theorem TupAt.ext {K : PySem.W.Frag} {ι ι' X : List Addr} {H H' : Hp} {a : Addr} {xs : List V} (x : Ext ι H ι' H') (r : TupAt K ι X H a xs) : TupAt K ι' X H' a xs :=
  r.imp (fun ⟨n, m, r⟩ => let ⟨r, n⟩ := rd_ext x n r (by intro ps z; cases z); ⟨n, m, r⟩) id
theorem LstAt.ext {K : PySem.W.Frag} {ι ι' X : List Addr} {H H' : Hp} {a : Addr} {xs : List V} (x : Ext ι H ι' H') (r : LstAt K ι X H a xs) : LstAt K ι' X H' a xs :=
  r.imp (fun ⟨n, m, r⟩ => let ⟨r, n⟩ := rd_ext x n r (by intro ps z; cases z); ⟨n, m, r⟩) id
mutual
theorem RepP.ext {K : PySem.W.Frag} {ι ι' X : List Addr} {H H' : Hp} (x : Ext ι H ι' H') : ∀ {p : P} {v : V}, RepP K ι X H p v → RepP K ι' X H' p v
  | .non, _, r => by rw [RepP] at r ⊢; exact r
  | .bl _, _, r => by rw [RepP] at r ⊢; exact r
  | .int _, _, r => by rw [RepP] at r ⊢; exact r
  | .str _, _, r => by rw [RepP] at r ⊢; exact r
  | .con _, _, r => by rw [RepP] at r ⊢; exact r
  | .tup _, _, r => by
    rw [RepP] at r ⊢
    obtain ⟨a, xs, e, f, g⟩ := r
    exact ⟨a, xs, e, f.ext x, RepPs.ext x g⟩
  | .lst _, _, r => by
    rw [RepP] at r ⊢
    obtain ⟨a, xs, e, n, m, f, g⟩ := r
    exact ⟨a, xs, e, x.nin n f (by intro ps z; cases z), m, x.old _ _ n f (by intro ps z; cases z), RepPs.ext x g⟩
  | .dic _, _, r => by
    rw [RepP] at r ⊢
    obtain ⟨a, xs, e, n, m, f, g⟩ := r
    exact ⟨a, xs, e, x.nin n f (by intro ps z; cases z), m, x.old _ _ n f (by intro ps z; cases z), RepKs.ext x g⟩
  | .ins _ _, _, r => by
    rw [RepP] at r ⊢
    obtain ⟨a, dx, xs, e, n, m, f, g⟩ := r
    exact ⟨a, dx, xs, e, x.nin n f (by intro ps z; cases z), m, x.old _ _ n f (by intro ps z; cases z), RepFs.ext x g⟩
  | .scr _, _, r => by
    rw [RepP] at r ⊢
    obtain ⟨a, e, f⟩ := r
    exact ⟨a, e, f.ext x⟩
theorem RepPs.ext {K : PySem.W.Frag} {ι ι' X : List Addr} {H H' : Hp} (x : Ext ι H ι' H') : ∀ {p : List P} {v : List V}, RepPs K ι X H p v → RepPs K ι' X H' p v
  | [], _, r => by rw [RepPs] at r ⊢; exact r
  | _ :: _, _, r => by
    rw [RepPs] at r ⊢
    obtain ⟨y, ys, e, f, g⟩ := r
    exact ⟨y, ys, e, RepP.ext x f, RepPs.ext x g⟩
theorem RepKs.ext {K : PySem.W.Frag} {ι ι' X : List Addr} {H H' : Hp} (x : Ext ι H ι' H') : ∀ {p : List (P × P)} {v : List (Key × V)}, RepKs K ι X H p v → RepKs K ι' X H' p v
  | [], _, r => by rw [RepKs] at r ⊢; exact r
  | (_, _) :: _, _, r => by
    rw [RepKs] at r ⊢
    obtain ⟨c, y, ys, e, f, g, h⟩ := r
    exact ⟨c, y, ys, e, RepP.ext x f, RepP.ext x g, RepKs.ext x h⟩
theorem RepFs.ext {K : PySem.W.Frag} {ι ι' X : List Addr} {H H' : Hp} (x : Ext ι H ι' H') : ∀ {p : List (Str × P)} {v : List (Str × V)}, RepFs K ι X H p v → RepFs K ι' X H' p v
  | [], _, r => by rw [RepFs] at r ⊢; exact r
  | (_, _) :: _, _, r => by
    rw [RepFs] at r ⊢
    obtain ⟨y, ys, e, f, g⟩ := r
    exact ⟨y, ys, e, RepP.ext x f, RepFs.ext x g⟩
end
theorem RepD.ext {K : PySem.W.Frag} {ι ι' X : List Addr} {H H' : Hp} (x : Ext ι H ι' H') : ∀ {p : D} {v : V}, RepD K ι X H p v → RepD K ι' X H' p v
  | .dat _, _, r => RepP.ext x r
  | .obj _, _, ⟨a, e, h⟩ => ⟨a, x.at e, h⟩
theorem RepDs.ext {K : PySem.W.Frag} {ι ι' X : List Addr} {H H' : Hp} (x : Ext ι H ι' H') : ∀ {p : List D} {v : List V}, RepDs K ι X H p v → RepDs K ι' X H' p v
  | [], _, r => r
  | _ :: _, _, ⟨y, ys, e, f, g⟩ => ⟨y, ys, e, f.ext x, RepDs.ext x g⟩
theorem RepDF.ext {K : PySem.W.Frag} {ι ι' X : List Addr} {H H' : Hp} (x : Ext ι H ι' H') : ∀ {p : List (Str × D)} {v : List (Str × V)}, RepDF K ι X H p v → RepDF K ι' X H' p v
  | [], _, r => r
  | (_, _) :: _, _, ⟨y, ys, e, f, g⟩ => ⟨y, ys, e, f.ext x, RepDF.ext x g⟩
theorem RepDK.ext {K : PySem.W.Frag} {ι ι' X : List Addr} {H H' : Hp} (x : Ext ι H ι' H') : ∀ {p : List (Key × D)} {v : List (Key × V)}, RepDK K ι X H p v → RepDK K ι' X H' p v
  | [], _, r => r
  | (_, _) :: _, _, ⟨y, ys, e, f, g⟩ => ⟨y, ys, e, f.ext x, RepDK.ext x g⟩
structure OutP (ι X : List Addr) (H : Hp) (ι' X' : List Addr) (H' : Hp) : Prop where
  ok : ∀ a o, a ∉ ι → a ∉ X → H a = some o → NT o → H' a = some o ∧ a ∉ ι' ∧ a ∉ X'
structure Out1 (ι X : List Addr) (H : Hp) (ι' X' : List Addr) (H' : Hp) : Prop where
  at_ : ∀ {i : Nat} {a : Addr}, ι[i]? = some a → ι'[i]? = some a
  ok : ∀ a o, a ∉ ι → a ∉ X → H a = some o → NT o → H' a = some o ∧ a ∉ ι' ∧ a ∉ X'
theorem TupAt.out {K : PySem.W.Frag} {ι X ι' X' : List Addr} {H H' : Hp} {a : Addr} {xs : List V} (x : OutP ι X H ι' X' H') (r : TupAt K ι X H a xs) : TupAt K ι' X' H' a xs :=
  r.imp (fun ⟨n, m, r⟩ => by
    rcases r with r | ⟨o, r⟩
    · obtain ⟨p, q, s⟩ := x.ok _ _ n m r (by intro ps z; cases z)
      exact ⟨q, s, .inl p⟩
    · obtain ⟨p, q, s⟩ := x.ok _ _ n m r (by intro ps z; cases z)
      exact ⟨q, s, .inr ⟨o, p⟩⟩) id
theorem LstAt.out {K : PySem.W.Frag} {ι X ι' X' : List Addr} {H H' : Hp} {a : Addr} {xs : List V} (x : OutP ι X H ι' X' H') (r : LstAt K ι X H a xs) : LstAt K ι' X' H' a xs :=
  r.imp (fun ⟨n, m, r⟩ => by
    rcases r with r | ⟨o, r⟩
    · obtain ⟨p, q, s⟩ := x.ok _ _ n m r (by intro ps z; cases z)
      exact ⟨q, s, .inl p⟩
    · obtain ⟨p, q, s⟩ := x.ok _ _ n m r (by intro ps z; cases z)
      exact ⟨q, s, .inr ⟨o, p⟩⟩) id
mutual
theorem RepP.out {K : PySem.W.Frag} {ι X ι' X' : List Addr} {H H' : Hp} (x : OutP ι X H ι' X' H') : ∀ {p : P} {v : V}, RepP K ι X H p v → RepP K ι' X' H' p v
  | .non, _, r => by rw [RepP] at r ⊢; exact r
  | .bl _, _, r => by rw [RepP] at r ⊢; exact r
  | .int _, _, r => by rw [RepP] at r ⊢; exact r
  | .str _, _, r => by rw [RepP] at r ⊢; exact r
  | .con _, _, r => by rw [RepP] at r ⊢; exact r
  | .tup _, _, r => by
    rw [RepP] at r ⊢
    obtain ⟨a, xs, e, f, g⟩ := r
    exact ⟨a, xs, e, f.out x, RepPs.out x g⟩
  | .lst _, _, r => by
    rw [RepP] at r ⊢
    obtain ⟨a, xs, e, n, m, f, g⟩ := r
    obtain ⟨p, q, s⟩ := x.ok _ _ n m f (by intro ps z; cases z)
    exact ⟨a, xs, e, q, s, p, RepPs.out x g⟩
  | .dic _, _, r => by
    rw [RepP] at r ⊢
    obtain ⟨a, xs, e, n, m, f, g⟩ := r
    obtain ⟨p, q, s⟩ := x.ok _ _ n m f (by intro ps z; cases z)
    exact ⟨a, xs, e, q, s, p, RepKs.out x g⟩
  | .ins _ _, _, r => by
    rw [RepP] at r ⊢
    obtain ⟨a, dx, xs, e, n, m, f, g⟩ := r
    obtain ⟨p, q, s⟩ := x.ok _ _ n m f (by intro ps z; cases z)
    exact ⟨a, dx, xs, e, q, s, p, RepFs.out x g⟩
  | .scr _, _, r => by
    rw [RepP] at r ⊢
    obtain ⟨a, e, f⟩ := r
    exact ⟨a, e, f.out x⟩
theorem RepPs.out {K : PySem.W.Frag} {ι X ι' X' : List Addr} {H H' : Hp} (x : OutP ι X H ι' X' H') : ∀ {p : List P} {v : List V}, RepPs K ι X H p v → RepPs K ι' X' H' p v
  | [], _, r => by rw [RepPs] at r ⊢; exact r
  | _ :: _, _, r => by
    rw [RepPs] at r ⊢
    obtain ⟨y, ys, e, f, g⟩ := r
    exact ⟨y, ys, e, RepP.out x f, RepPs.out x g⟩
theorem RepKs.out {K : PySem.W.Frag} {ι X ι' X' : List Addr} {H H' : Hp} (x : OutP ι X H ι' X' H') : ∀ {p : List (P × P)} {v : List (Key × V)}, RepKs K ι X H p v → RepKs K ι' X' H' p v
  | [], _, r => by rw [RepKs] at r ⊢; exact r
  | (_, _) :: _, _, r => by
    rw [RepKs] at r ⊢
    obtain ⟨c, y, ys, e, f, g, h⟩ := r
    exact ⟨c, y, ys, e, RepP.out x f, RepP.out x g, RepKs.out x h⟩
theorem RepFs.out {K : PySem.W.Frag} {ι X ι' X' : List Addr} {H H' : Hp} (x : OutP ι X H ι' X' H') : ∀ {p : List (Str × P)} {v : List (Str × V)}, RepFs K ι X H p v → RepFs K ι' X' H' p v
  | [], _, r => by rw [RepFs] at r ⊢; exact r
  | (_, _) :: _, _, r => by
    rw [RepFs] at r ⊢
    obtain ⟨y, ys, e, f, g⟩ := r
    exact ⟨y, ys, e, RepP.out x f, RepFs.out x g⟩
end
section
variable {K : PySem.W.Frag} {ι X ι' X' : List Addr} {H H' : Hp} (x : Out1 ι X H ι' X' H')
include x
theorem Out1.p : OutP ι X H ι' X' H' := ⟨x.ok⟩
theorem RepD.out : ∀ {p : D} {v : V}, RepD K ι X H p v → RepD K ι' X' H' p v
  | .dat _, _, r => RepP.out (Out1.p x) r
  | .obj _, _, ⟨a, e, h⟩ => ⟨a, x.at_ e, h⟩
theorem RepDs.out : ∀ {p : List D} {v : List V}, RepDs K ι X H p v → RepDs K ι' X' H' p v
  | [], _, r => r
  | _ :: _, _, ⟨y, ys, e, f, g⟩ => ⟨y, ys, e, RepD.out x f, RepDs.out g⟩
theorem RepDF.out : ∀ {p : List (Str × D)} {v : List (Str × V)}, RepDF K ι X H p v → RepDF K ι' X' H' p v
  | [], _, r => r
  | (_, _) :: _, _, ⟨y, ys, e, f, g⟩ => ⟨y, ys, e, RepD.out x f, RepDF.out g⟩
theorem RepDK.out : ∀ {p : List (Key × D)} {v : List (Key × V)}, RepDK K ι X H p v → RepDK K ι' X' H' p v
  | [], _, r => r
  | (_, _) :: _, _, ⟨y, ys, e, f, g⟩ => ⟨y, ys, e, RepD.out x f, RepDK.out g⟩
end
theorem Out1.ext {ι ι' X : List Addr} {H H' : Hp} (x : Ext ι H ι' H') : Out1 ι X H ι' X H' := ⟨fun e => x.at e, fun a o n m e z => ⟨x.old a o n e z, x.nin n e z, m⟩⟩
end M3
namespace M3
open PySem PySem.Spec PyProof.Rows L2
variable [TabsP]
inductive R (α : Type)
  | ok (a : α) (S : Store) | exc (C : Addr) (x : Option (Str × P)) (S : Store) | fail
def R.bind {α β : Type} (r : R α) (f : α → Store → R β) : R β := match r with
  | .ok a S => f a S
  | .exc C x S => .exc C x S
  | .fail => .fail
@[simp] theorem R.bind_ok {α β : Type} {a : α} {S : Store} {f : α → Store → R β} : (R.ok a S).bind f = f a S := rfl
@[simp] theorem R.bind_exc {α β : Type} {C : Addr} {x : Option (Str × P)} {S : Store} {f : α → Store → R β} : (R.exc C x S : R α).bind f = .exc C x S := rfl
@[simp] theorem R.bind_fail {α β : Type} {f : α → Store → R β} : (R.fail : R α).bind f = .fail := rfl
abbrev DEnv := List (Option D)
abbrev DE := DEnv → Store → R D
abbrev DA := DEnv → Store → R (List D)
abbrev DT := DEnv → Store → R Bool
/-- a statement's end -/
inductive Out
  | nx (δ : DEnv) | rt (d : D) | bk (δ : DEnv) | ct (δ : DEnv) | ex (C : Addr) (x : Option (Str × P)) (δ : DEnv)
abbrev DS := DEnv → Store → R Out
section
variable (K : PySem.W.Frag)
def RepX (ι X : List Addr) (H : Hp) : Option (Str × P) → Option Addr → Prop
  | none, da => da = none
  | some (f, p), da => ∃ d v, da = some d ∧ H d = some (.xd [(f, v)]) ∧ RepP K ι X H p v
def RepE (ι X : List Addr) (H : Hp) (δ : DEnv) (σ : L2.St) : Prop := δ.length = σ.length ∧ ∀ (i : Nat) d, δ[i]? = some (some d) → ∃ v, σ[i]? = some (some v) ∧ RepD K ι X H d v
abbrev WK := Value → Option Addr → Hp → Prop
def Post {α β : Type} (X ι : List Addr) (H : Hp) (W : WK) (r : R α) (Rp : List Addr → Hp → α → β → Prop) (Q : β → Hp → Prop) : Prop := match r with
  | .ok a S' => ∀ ι' H' v, Ext ι H ι' H' → Rel K ι' X S' H' → Rp ι' H' a v → Q v H'
  | .exc C x S' => ∀ ι' H' da, Ext ι H ι' H' → Rel K ι' X S' H' → RepX K ι' X H' x da → W (.ref C) da H'
  | .fail => False
end
section
variable {K : PySem.W.Frag} {X ι : List Addr} {H : Hp} {α β γ ε : Type} {W : WK}
theorem Post.ext {r : R α} {Rp : List Addr → Hp → α → β → Prop} {Q : β → Hp → Prop} {ι1 : List Addr} {H1 : Hp} (x : Ext ι H ι1 H1) (h : Post K X ι H W r Rp Q) : Post K X ι1 H1 W r Rp Q := by
  cases r with
  | ok a S => exact fun ι' H' v y => h ι' H' v (x.trans y)
  | exc C z S => exact fun ι' H' v y => h ι' H' v (x.trans y)
  | fail => exact h
theorem Post.bind {r : R α} {f : α → Store → R γ} {Rp : List Addr → Hp → γ → ε → Prop} {Q : ε → Hp → Prop} {Rp1 : List Addr → Hp → α → β → Prop} {Q1 : β → Hp → Prop} (h : Post K X ι H W (r.bind f) Rp Q)
    (k : ∀ ι1 H1 a S1 v, Ext ι H ι1 H1 → Rel K ι1 X S1 H1 → Rp1 ι1 H1 a v → Post K X ι1 H1 W (f a S1) Rp Q → Q1 v H1) : Post K X ι H W r Rp1 Q1 := by
  cases r with
  | ok a S => exact fun ι' H' v x rel rp => k ι' H' a S v x rel rp (Post.ext x h)
  | exc C z S => exact h
  | fail => exact h
theorem Post.mono {r : R α} {Rp : List Addr → Hp → α → β → Prop} {Q : β → Hp → Prop} {Rp1 : List Addr → Hp → α → ε → Prop} {Q1 : ε → Hp → Prop} (h : Post K X ι H W r Rp Q)
    (k : ∀ ι1 H1 a v, Ext ι H ι1 H1 → Rp1 ι1 H1 a v → ∃ u, Rp ι1 H1 a u ∧ (Q u H1 → Q1 v H1)) : Post K X ι H W r Rp1 Q1 := by
  cases r with
  | ok a S => exact fun ι' H' v x rel rp => let ⟨u, a, b⟩ := k ι' H' _ v x rp; b (h ι' H' u x rel a)
  | exc C z S => exact h
  | fail => exact h
end
theorem RepE.ext {K : PySem.W.Frag} {ι ι' X : List Addr} {H H' : Hp} {δ : DEnv} {σ : L2.St} (x : Ext ι H ι' H') (r : RepE K ι X H δ σ) : RepE K ι' X H' δ σ := ⟨r.1, fun i d e => let ⟨v, a, b⟩ := r.2 i d e; ⟨v, a, b.ext x⟩⟩
theorem RepE.out {K : PySem.W.Frag} {ι ι' X X' : List Addr} {H H' : Hp} {δ : DEnv} {σ : L2.St} (x : Out1 ι X H ι' X' H') (r : RepE K ι X H δ σ) : RepE K ι' X' H' δ σ := ⟨r.1, fun i d e => let ⟨v, a, b⟩ := r.2 i d e; ⟨v, a, b.out x⟩⟩
theorem RepE.set {K : PySem.W.Frag} {ι X : List Addr} {H : Hp} {δ : DEnv} {σ : L2.St} {d : D} {v : V} {i : Nat} (r : RepE K ι X H δ σ) (q : RepD K ι X H d v) : RepE K ι X H (δ.set i (some d)) (σ.set i (some v)) := by
  refine ⟨by rw [List.length_set, List.length_set]; exact r.1, fun j e h => ?_⟩
  by_cases z : i = j
  · subst z
    have hi : i < δ.length := by have := (List.getElem?_eq_some_iff.mp h).1; rwa [List.length_set] at this
    rw [List.getElem?_set_self hi] at h
    cases h
    exact ⟨v, List.getElem?_set_self (by rw [← r.1]; exact hi), q⟩
  · rw [List.getElem?_set_ne z] at h
    obtain ⟨u, a, b⟩ := r.2 j e h
    exact ⟨u, by rw [List.getElem?_set_ne z]; exact a, b⟩
theorem RepE.wipe1 {K : PySem.W.Frag} {ι X : List Addr} {H : Hp} {δ : DEnv} {σ : L2.St} {i : Nat} (r : RepE K ι X H δ σ) : RepE K ι X H (δ.set i none) (σ.set i none) := by
  refine ⟨by rw [List.length_set, List.length_set]; exact r.1, fun j e h => ?_⟩
  by_cases z : i = j
  · subst z
    have hi : i < δ.length := by have := (List.getElem?_eq_some_iff.mp h).1; rwa [List.length_set] at this
    rw [List.getElem?_set_self hi] at h
    cases h
  · rw [List.getElem?_set_ne z] at h
    obtain ⟨u, a, b⟩ := r.2 j e h
    exact ⟨u, by rw [List.getElem?_set_ne z]; exact a, b⟩
def wipeD (δ : DEnv) : List Nat → DEnv
  | [] => δ
  | v :: vs => (wipeD δ vs).set v none
theorem RepE.wipe {K : PySem.W.Frag} {ι X : List Addr} {H : Hp} {δ : DEnv} {σ : L2.St} (r : RepE K ι X H δ σ) : ∀ vs, RepE K ι X H (wipeD δ vs) (wipe σ vs)
  | [] => r
  | v :: vs => (RepE.wipe r vs).wipe1
section
variable (K : PySem.W.Frag) (W : L2.St → WK)
def SE (t : TE) (m : DE) : Prop := ∀ ι X S H σ δ Q, Rel K ι X S H → RepE K ι X H δ σ → Post K X ι H (W σ) (m δ S) (fun ι' H' d v => RepD K ι' X H' d v) Q → t σ H Q
def SA (t : TA) (m : DA) : Prop := ∀ ι X S H σ δ Q, Rel K ι X S H → RepE K ι X H δ σ → Post K X ι H (W σ) (m δ S) (fun ι' H' d v => RepDs K ι' X H' d v) Q → t σ H Q
def ST (t : TT) (m : DT) : Prop := ∀ ι X S H σ δ Q, Rel K ι X S H → RepE K ι X H δ σ → Post K X ι H (W σ) (m δ S) (fun _ _ d v => v = d) Q → t σ H Q
/-- a new list, that nothing else knows -/
def PostL (X ι : List Addr) (H : Hp) (W : WK) (r : R (List D)) (Q : V → Hp → Prop) : Prop := match r with
  | .ok ds S' => ∀ ι' H' p xs, Ext ι H ι' H' → Rel K ι' (p :: X) S' H' → Free H p → H' p = some (.lst xs) → RepDs K ι' (p :: X) H' ds xs → Q (.ref p) H'
  | .exc C x S' => ∀ ι' H' da, Ext ι H ι' H' → Rel K ι' X S' H' → RepX K ι' X H' x da → W (.ref C) da H'
  | .fail => False
def SL (t : TE) (m : DA) : Prop := ∀ ι X S H σ δ Q, Rel K ι X S H → RepE K ι X H δ σ → PostL K X ι H (W σ) (m δ S) Q → t σ H Q
def PostS (X ι : List Addr) (H : Hp) (r : R Out) (E : Ends) : Prop := match r with
  | .ok (.nx δ) S' => ∀ ι' H' σ, Ext ι H ι' H' → Rel K ι' X S' H' → RepE K ι' X H' δ σ → E.nx σ H'
  | .ok (.bk δ) S' => ∀ ι' H' σ, Ext ι H ι' H' → Rel K ι' X S' H' → RepE K ι' X H' δ σ → E.bk σ H'
  | .ok (.ct δ) S' => ∀ ι' H' σ, Ext ι H ι' H' → Rel K ι' X S' H' → RepE K ι' X H' δ σ → E.ct σ H'
  | .ok (.rt d) S' => ∀ ι' H' v, Ext ι H ι' H' → Rel K ι' X S' H' → RepD K ι' X H' d v → E.rt v H'
  | .ok (.ex C x δ) S' => ∀ ι' H' da σ, Ext ι H ι' H' → Rel K ι' X S' H' → RepX K ι' X H' x da → RepE K ι' X H' δ σ → W σ (.ref C) da H'
  | .exc _ _ _ => False
  | .fail => False
def SS (t : TS) (m : DS) : Prop := ∀ ι X S H σ δ E, Rel K ι X S H → RepE K ι X H δ σ → PostS K W X ι H (m δ S) E → t E σ H
end
theorem ext_free {ι ι' : List Addr} {H H' : Hp} (x : Ext ι H ι' H') {p : Addr} (n : p ∉ ι') (e : Free H' p) : Free H p := fun u h z => by
  have n1 : p ∉ ι := fun m => by
    obtain ⟨t, et⟩ := x.pre
    exact n (by rw [et]; exact List.mem_append_left _ m)
  exact e u (x.old p u n1 h z) z
theorem PostS.ext {K : PySem.W.Frag} {W : L2.St → WK} {X ι : List Addr} {H : Hp} {r : R Out} {E : Ends} {ι1 : List Addr} {H1 : Hp} (x : Ext ι H ι1 H1) (h : PostS K W X ι H r E) : PostS K W X ι1 H1 r E := by
  cases r with
  | ok o S => cases o with
    | nx => exact fun ι' H' v y => h ι' H' v (x.trans y)
    | bk => exact fun ι' H' v y => h ι' H' v (x.trans y)
    | ct => exact fun ι' H' v y => h ι' H' v (x.trans y)
    | rt => exact fun ι' H' v y => h ι' H' v (x.trans y)
    | ex => exact fun ι' H' v σ y => h ι' H' v σ (x.trans y)
  | exc C z S => exact h
  | fail => exact h
/-- an expression's result within a statement -/
def R.st {α : Type} (r : R α) (δ : DEnv) (f : α → Store → R Out) : R Out := match r with
  | .ok a S => f a S
  | .exc C x S => .ok (.ex C x δ) S
  | .fail => .fail
@[simp] theorem R.st_ok {α : Type} {a : α} {S : Store} {δ : DEnv} {f : α → Store → R Out} : (R.ok a S).st δ f = f a S := rfl
@[simp] theorem R.st_exc {α : Type} {C : Addr} {x : Option (Str × P)} {S : Store} {δ : DEnv} {f : α → Store → R Out} : (R.exc C x S : R α).st δ f = .ok (.ex C x δ) S := rfl
@[simp] theorem R.st_fail {α : Type} {δ : DEnv} {f : α → Store → R Out} : (R.fail : R α).st δ f = .fail := rfl
theorem PostS.st {K : PySem.W.Frag} {W : L2.St → WK} {X ι : List Addr} {H : Hp} {α β : Type} {r : R α} {δ : DEnv} {σ : L2.St} {f : α → Store → R Out} {E : Ends} {Rp : List Addr → Hp → α → β → Prop} {Q : β → Hp → Prop} (re : RepE K ι X H δ σ) (h : PostS K W X ι H (r.st δ f) E)
    (k : ∀ ι1 H1 a S1 v, Ext ι H ι1 H1 → Rel K ι1 X S1 H1 → Rp ι1 H1 a v → PostS K W X ι1 H1 (f a S1) E → Q v H1) : Post K X ι H (W σ) r Rp Q := by
  cases r with
  | ok a S => exact fun ι' H' v x rel rp => k ι' H' a S v x rel rp (PostS.ext x h)
  | exc C z S => exact fun ι' H' da x rel rx => h ι' H' da σ x rel rx (re.ext x)
  | fail => exact h
end M3
namespace M3
open PySem PySem.Spec PyProof.Rows L2
variable [TabsP]
def oR {α : Type} (o : Option α) (S : Store) : R α := match o with
  | some a => .ok a S
  | none => .fail
@[simp] theorem oR_some {α : Type} {a : α} {S : Store} : oR (some a) S = .ok a S := rfl
@[simp] theorem oR_none {α : Type} {S : Store} : (oR none S : R α) = .fail := rfl
def mVar (i : Nat) : DE := fun δ S => match δ[i]? with
  | some (some d) => .ok d S
  | _ => .fail
def mC (p : P) : DE := fun _ S => .ok (.dat p) S
def mOp (f : Store → D → D → Option D) (a b : DE) : DE := fun δ S => (a δ S).bind fun x S1 => (b δ S1).bind fun y S2 => oR (f S2 x y) S2
def mUn (f : Store → D → Option D) (a : DE) : DE := fun δ S => (a δ S).bind fun x S1 => oR (f S1 x) S1
def mNil : DA := fun _ S => .ok [] S
def mCons (a : DE) (r : DA) : DA := fun δ S => (a δ S).bind fun x S1 => (r δ S1).bind fun xs S2 => .ok (x :: xs) S2
/-- all are data -/
def datAll : List D → Option (List P)
  | [] => some []
  | .dat p :: ds => (datAll ds).map (p :: ·)
  | .obj _ :: _ => none
def mTup (a : DA) : DE := fun δ S => (a δ S).bind fun ds S1 => match datAll ds with
  | some ps => if ps.length ≤ 100000 then .ok (.dat (.tup ps)) S1 else .fail
  | none => .fail
def mLst (a : DA) : DA := fun δ S => (a δ S).bind fun ds S1 => if ds.length ≤ 100000 then .ok ds S1 else .fail
/-- a new list that will not change -/
def mFrz (a : DA) : DE := fun δ S => (a δ S).bind fun ds S1 => match datAll ds with
  | some ps => .ok (.dat (.lst ps)) S1
  | none => .fail
/-- a new list that may change -/
def mTrk (a : DA) : DE := fun δ S => (a δ S).bind fun ds S1 => .ok (.obj S1.length) (S1 ++ [.lst ds])
def asB : D → Option Bool
  | .dat (.bl b) => some b
  | _ => none
def mAnd (a b : DE) : DE := fun δ S => (a δ S).bind fun x S1 => match asB x with
  | some true => b δ S1
  | some false => .ok (.dat (.bl false)) S1
  | none => .fail
def mOr (a b : DE) : DE := fun δ S => (a δ S).bind fun x S1 => match asB x with
  | some true => .ok (.dat (.bl true)) S1
  | some false => b δ S1
  | none => .fail
def mNot (a : DE) : DE := fun δ S => (a δ S).bind fun x S1 => match asB x with
  | some b => .ok (.dat (.bl (!b))) S1
  | none => .fail
def mTst (a : DE) : DT := fun δ S => (a δ S).bind fun x S1 => oR (asB x) S1
def mAndT (a b : DT) : DT := fun δ S => (a δ S).bind fun x S1 => match x with
  | true => b δ S1
  | false => .ok false S1
def mOrT (a b : DT) : DT := fun δ S => (a δ S).bind fun x S1 => match x with
  | true => .ok true S1
  | false => b δ S1
def mNotT (a : DT) : DT := fun δ S => (a δ S).bind fun x S1 => .ok (!x) S1
def mIf (c : DT) (a b : DE) : DE := fun δ S => (c δ S).bind fun x S1 => match x with
  | true => a δ S1
  | false => b δ S1
def mChain (f g : Store → D → D → Option D) (a b c : DE) : DE := fun δ S => (a δ S).bind fun x S1 => (b δ S1).bind fun y S2 => (oR (f S2 x y) S2).bind fun z S3 => match asB z with
  | some true => (c δ S3).bind fun w S4 => oR (g S4 y w) S4
  | some false => .ok (.dat (.bl false)) S3
  | none => .fail
def mCall (f : Store → List D → Option D) (a : DA) : DE := fun δ S => (a δ S).bind fun ds S1 => oR (f S1 ds) S1
/-- a call of a def -/
def mDef (n : Nat) (f : List D → Store → R D) (a : DA) : DE := fun δ S => (a δ S).bind fun ds S1 => if ds.length = n then f ds S1 else .fail
def mNext : DS := fun δ S => .ok (.nx δ) S
def mSeq (a b : DS) : DS := fun δ S => match a δ S with
  | .ok (.nx δ1) S1 => b δ1 S1
  | r => r
def mRet (a : DE) : DS := fun δ S => (a δ S).st δ fun d S1 => .ok (.rt d) S1
def mRetN : DS := fun δ S => .ok (.rt (.dat .non)) S
def mDrop (a : DE) : DS := fun δ S => (a δ S).st δ fun _ S1 => .ok (.nx δ) S1
def mIfS (c : DT) (a b : DS) : DS := fun δ S => (c δ S).st δ fun x S1 => match x with
  | true => a δ S1
  | false => b δ S1
def mBrk : DS := fun δ S => .ok (.bk δ) S
def mCnt : DS := fun δ S => .ok (.ct δ) S
def mPar (i j : Nat) (a : DA) : DS := fun δ S => (a δ S).st δ fun ds S1 => match ds with
  | [x, y] => .ok (.nx ((δ.set i (some x)).set j (some y))) S1
  | _ => .fail
/-- targets -/
abbrev DG := D → DEnv → Store → R DEnv
abbrev DGs := List D → DEnv → Store → R DEnv
def gmName (i : Nat) : DG := fun d δ S => .ok (δ.set i (some d)) S
def gmNil : DGs := fun ds δ S => match ds with
  | [] => .ok δ S
  | _ => .fail
def gmCons (g : DG) (r : DGs) : DGs := fun ds δ S => match ds with
  | d :: ds => (g d δ S).bind fun δ1 S1 => r ds δ1 S1
  | [] => .fail
def gmTup (n : Nat) (g : DGs) : DG := fun d δ S => match d with
  | .dat (.tup ps) => if ps.length = n then g (ps.map .dat) δ S else .fail
  | .obj i => (match S[i]? with
    | some (.tup l) => if l.length = n then g l δ S else .fail
    | _ => .fail)
  | _ => .fail
def mAsg (a : DE) (g : DG) : DS := fun δ S => (a δ S).st δ fun d S1 => (g d δ S1).st δ fun δ1 S2 => .ok (.nx δ1) S2
/-- a turn's end: go on, or leave -/
def mTurn (o : R Out) (next : DEnv → Store → R Out) : R Out := match o with
  | .ok (.nx δ) S => next δ S
  | .ok (.ct δ) S => next δ S
  | .ok (.bk δ) S => .ok (.nx δ) S
  | r => r
def mWhileN (c : DT) (b : DS) : Nat → DS
  | 0 => fun _ _ => .fail
  | n + 1 => fun δ S => (c δ S).st δ fun x S1 => match x with
    | true => mTurn (b δ S1) (mWhileN c b n)
    | false => .ok (.nx δ) S1
def FUEL : Nat := 1000000000
def mWhile (c : DT) (b : DS) : DS := mWhileN c b FUEL
def mForL (g : DG) (b : DS) : List D → DS
  | [] => fun δ S => .ok (.nx δ) S
  | d :: ds => fun δ S => mTurn ((g d δ S).st δ b) (mForL g b ds)
/-- over a list that may change; its length does not -/
def mForO (g : DG) (b : DS) (o n : Nat) : Nat → Nat → DS
  | 0, _ => fun δ S => match S[o]? with
    | some (.lst l) => if l.length = n then .ok (.nx δ) S else .fail
    | _ => .fail
  | k + 1, i => fun δ S => match S[o]? with
    | some (.lst l) => if l.length = n then (match l[i]? with
      | some d => mTurn ((g d δ S).st δ b) (mForO g b o n k (i + 1))
      | none => .fail) else .fail
    | _ => .fail
/-- what is walked: items that stay, or an object -/
inductive Wk | items (l : List D) | ob (o : Nat)
abbrev DI := DEnv → Store → R Wk
def mFor (w : DI) (g : DG) (b : DS) : DS := fun δ S => (w δ S).st δ fun k S1 => match k with
  | .items l => mForL g b l δ S1
  | .ob o => match S1[o]? with
    | some (.lst l) => mForO g b o l.length l.length 0 δ S1
    | _ => .fail
/-- comprehensions: what is raised within them is not carried -/
def R.bnf {α β : Type} (r : R α) (f : α → Store → R β) : R β := match r with
  | .ok a S => f a S
  | _ => .fail
@[simp] theorem R.bnf_ok {α β : Type} {a : α} {S : Store} {f : α → Store → R β} : (R.ok a S).bnf f = f a S := rfl
@[simp] theorem R.bnf_exc {α β : Type} {C : Addr} {x : Option (Str × P)} {S : Store} {f : α → Store → R β} : (R.exc C x S : R α).bnf f = .fail := rfl
@[simp] theorem R.bnf_fail {α β : Type} {f : α → Store → R β} : (R.fail : R α).bnf f = .fail := rfl
def mLcL (g : DG) (t : DT) (e : DE) (vs : List Nat) (δ0 : DEnv) : List D → List D → Store → R (List D)
  | [], acc, S => .ok acc S
  | d :: ds, acc, S => (g d (wipeD δ0 vs) S).bnf fun δ1 S1 => (t δ1 S1).bnf fun b S2 => match b with
    | true => (e δ1 S2).bnf fun y S3 => if acc.length < 100000 then mLcL g t e vs δ0 ds (acc ++ [y]) S3 else .fail
    | false => mLcL g t e vs δ0 ds acc S2
def mLcO (g : DG) (t : DT) (e : DE) (vs : List Nat) (δ0 : DEnv) (o n : Nat) : Nat → Nat → List D → Store → R (List D)
  | 0, _, acc, S => match S[o]? with
    | some (.lst l) => if l.length = n then .ok acc S else .fail
    | _ => .fail
  | k + 1, i, acc, S => match S[o]? with
    | some (.lst l) => if l.length = n then (match l[i]? with
      | some d => (g d (wipeD δ0 vs) S).bnf fun δ1 S1 => (t δ1 S1).bnf fun b S2 => match b with
        | true => (e δ1 S2).bnf fun y S3 => if acc.length < 100000 then mLcO g t e vs δ0 o n k (i + 1) (acc ++ [y]) S3 else .fail
        | false => mLcO g t e vs δ0 o n k (i + 1) acc S2
      | none => .fail) else .fail
    | _ => .fail
def mYes : DT := fun _ S => .ok true S
def mLc (w : DI) (g : DG) (t : DT) (e : DE) (vs : List Nat) : DA := fun δ S => (w δ S).bind fun k S1 => match k with
  | .items l => (mLcL g t e vs δ l [] S1).bnf fun ds S2 => .ok ds S2
  | .ob o => match S1[o]? with
    | some (.lst l) => (mLcO g t e vs δ o l.length l.length 0 [] S1).bnf fun ds S2 => .ok ds S2
    | _ => .fail
def mBody (N : Nat) (b : DS) (ds : List D) (S : Store) : R D := match b (ds.map some ++ List.replicate (N - ds.length) none) S with
  | .ok (.nx _) S' => .ok (.dat .non) S'
  | .ok (.rt d) S' => .ok d S'
  | .ok (.ex C x _) S' => .exc C x S'
  | _ => .fail
/-- fields of data -/
def datF : List (Str × D) → Option (List (Str × P))
  | [] => some []
  | (f, .dat p) :: ds => (datF ds).map ((f, p) :: ·)
  | (_, .obj _) :: _ => none
/-- an object taken out of its store -/
def frz1 (S : Store) (i : Nat) : Option P := match S[i]? with
  | some (.lst l) => (datAll l).map .lst
  | some (.ins C l) => (datF l).map (.ins C)
  | _ => none
def D.lt (n : Nat) : D → Bool
  | .dat _ => true
  | .obj i => decide (i < n)
def O.lt (n : Nat) : O → Bool
  | .lst l => l.all (D.lt n)
  | .ins _ l => l.all fun p => p.2.lt n
  | .dic l => l.all fun p => p.2.lt n
  | .tup l => l.all (D.lt n)
/-- a def that sees data alone, and leaves nothing: its objects are its own -/
def mPure (f : List D → Store → R D) (ds : List D) (S : Store) : R D := match datAll ds with
  | none => .fail
  | some _ => match f ds [] with
    | .ok (.dat p) _ => .ok (.dat p) S
    | .ok (.obj i) S' => (match frz1 S' i with
        | some p => .ok (.dat p) S
        | none => .fail)
    | .exc C x _ => .exc C x S
    | .fail => .fail
/-- a def whose own objects go when it ends -/
def mScope (f : List D → Store → R D) (ds : List D) (S : Store) : R D := match f ds S with
  | .ok (.dat p) S' => if (S'.take S.length).all (O.lt S.length) = true then .ok (.dat p) (S'.take S.length) else .fail
  | .ok (.obj i) S' => if (S'.take S.length).all (O.lt S.length) = true then (if i < S.length then .ok (.obj i) (S'.take S.length) else match frz1 S' i with
      | some p => .ok (.dat p) (S'.take S.length)
      | none => .fail) else .fail
  | .exc C x S' => if (S'.take S.length).all (O.lt S.length) = true then .exc C x (S'.take S.length) else .fail
  | .fail => .fail
/-- a new instance, then its __init__ -/
def mkC (C : Addr) (f : List D → Store → R D) (ds : List D) (S : Store) : R D := (f (.obj S.length :: ds) (S ++ [.ins C []])).bind fun d S' => match d with
  | .dat .non => .ok (.obj S.length) S'
  | _ => .fail
end M3
namespace M3
open PySem PySem.Spec PyProof.Rows L2
variable [TabsP]
theorem nd_inj {α : Type} : ∀ {l : List α} {i j : Nat} {a : α}, l.Nodup → l[i]? = some a → l[j]? = some a → i = j
  | [], i, j, a, _, e, _ => by simp at e
  | b :: l, 0, 0, a, _, _, _ => rfl
  | b :: l, 0, j + 1, a, nd, e, f => by
    have e1 : b = a := by simpa using e
    subst e1
    exact absurd (List.mem_of_getElem? (by simpa using f)) (List.nodup_cons.mp nd).1
  | b :: l, i + 1, 0, a, nd, e, f => by
    have e1 : b = a := by simpa using f
    subst e1
    exact absurd (List.mem_of_getElem? (by simpa using e)) (List.nodup_cons.mp nd).1
  | b :: l, i + 1, j + 1, a, nd, e, f => congrArg (· + 1) (nd_inj (l := l) (i := i) (j := j) (a := a) (List.nodup_cons.mp nd).2 (by simpa using e) (by simpa using f))
section
variable {K : PySem.W.Frag} {ι X : List Addr} {S : Store} {H : Hp}
theorem Rel.obj (r : Rel K ι X S H) {i : Nat} {a : Addr} (e : ι[i]? = some a) : ∃ o, S[i]? = some o ∧ RepO K ι X H o a := by
  have hi : i < S.length := by rw [← r.len]; exact (List.getElem?_eq_some_iff.mp e).1
  exact ⟨S[i], List.getElem?_eq_getElem hi, r.at_ i _ a (List.getElem?_eq_getElem hi) e⟩
/-- neither a table nor a code object -/
def Pl (u : HO) : Prop := NT u ∧ (∀ f, u ≠ .ext f) ∧ ∀ fs, u ≠ .xd fs
theorem pl_lst {l : List V} : Pl (.lst l) := ⟨nt_lst, (fun f z => by cases z), (fun f z => by cases z)⟩
theorem pl_ins {C dx : Addr} {l : List (Str × V)} : Pl (.ins C dx l) := ⟨nt_ins, (fun f z => by cases z), (fun f z => by cases z)⟩
theorem pl_dK {l : List (Key × V)} : Pl (.dK l) := ⟨nt_dK, (fun f z => by cases z), (fun f z => by cases z)⟩
theorem pl_tup {l : List V} : Pl (.tup l) := ⟨nt_tup, (fun f z => by cases z), (fun f z => by cases z)⟩
theorem RepO.pl {o : O} {a : Addr} (r : RepO K ι X H o a) : ∃ u, H a = some u ∧ Pl u := by
  cases o with
  | lst l => obtain ⟨xs, e, _⟩ := r; exact ⟨_, e, pl_lst⟩
  | ins C l => obtain ⟨dx, xs, e, _⟩ := r; exact ⟨_, e, pl_ins⟩
  | dic l => obtain ⟨xs, e, _⟩ := r; exact ⟨_, e, pl_dK⟩
  | tup l => obtain ⟨xs, e, _⟩ := r; exact ⟨_, e, pl_tup⟩
theorem RepO.some {o : O} {a : Addr} (r : RepO K ι X H o a) : ∃ u, H a = some u := let ⟨u, e, _⟩ := r.pl; ⟨u, e⟩
theorem Rel.pl (r : Rel K ι X S H) {a : Addr} (m : a ∈ ι) : ∃ u, H a = some u ∧ Pl u := by
  obtain ⟨i, hi, e⟩ := List.getElem_of_mem m
  obtain ⟨o, _, q⟩ := r.obj (List.getElem?_eq_some_iff.mpr ⟨hi, e⟩)
  exact q.pl
theorem Rel.mem (r : Rel K ι X S H) {a : Addr} (m : a ∈ ι) : ∃ u, H a = some u := let ⟨u, e, _⟩ := r.pl m; ⟨u, e⟩
theorem Rel.nin (r : Rel K ι X S H) {p : Addr} (hp : H p = none) : p ∉ ι ∧ p ∉ X := by
  constructor
  · intro m
    obtain ⟨u, e⟩ := r.mem m
    rw [hp] at e
    cases e
  · intro m
    obtain ⟨_, u, e, _⟩ := r.ex p m
    rw [hp] at e
    cases e
theorem Rel.ninF (r : Rel K ι X S H) {p : Addr} (hp : Free H p) : p ∉ ι ∧ p ∉ X :=
  ⟨fun m => let ⟨u, e, z⟩ := r.pl m; hp u e z.1, fun m => let ⟨_, u, e, z⟩ := r.ex p m; hp u e z⟩
theorem tabs_new {p : Addr} {o : HO} (hp : H p = none) (t : HeldOk H) : HeldOk (upd H p o) := ⟨t.1.ext fun b u e => by rw [upd_ne (ne_of_none e hp)]; exact e, fun q hq => by
  rw [upd_ne (ne_of_none (t.2 q hq) hp)]
  exact t.2 q hq⟩
theorem tabs_put {a : Addr} {u w : HO} (ha : H a = some u) (pl : Pl u) (t : HeldOk H) : HeldOk (upd H a w) := by
  refine ⟨fun p hp => ?_, fun q hq => ?_⟩
  · obtain ⟨ps, h1, h2, h3⟩ := t.1 p hp
    refine ⟨ps, by rw [upd_ne (fun z => by rw [z, ha] at h1; exact pl.1 ps (Option.some.inj h1))]; exact h1, h2, fun pos cv hc => ?_⟩
    obtain ⟨c, e1, e2⟩ := h3 pos cv hc
    refine ⟨c, e1, ?_⟩
    rw [upd_ne (fun z => by
      rw [z, ha] at e2
      have := Option.some.inj e2
      unfold LamX.CodeO at this
      exact pl.2.1 _ this)]
    exact e2
  · have e := t.2 q hq
    rw [upd_ne (fun z => by rw [z, ha] at e; exact pl.2.2 _ (Option.some.inj e))]
    exact e
theorem RepO.out {ι' X' : List Addr} {H' : Hp} {o : O} {a : Addr} (x : Out1 ι X H ι' X' H') (e : H' a = H a) (r : RepO K ι X H o a) : RepO K ι' X' H' o a := by
  cases o with
  | lst l => obtain ⟨xs, f, g⟩ := r; exact ⟨xs, by rw [e]; exact f, g.out x⟩
  | ins C l => obtain ⟨dx, xs, f, g⟩ := r; exact ⟨dx, xs, by rw [e]; exact f, g.out x⟩
  | dic l => obtain ⟨xs, f, g⟩ := r; exact ⟨xs, by rw [e]; exact f, g.out x⟩
  | tup l => obtain ⟨xs, f, g⟩ := r; exact ⟨xs, by rw [e]; exact f, g.out x⟩
theorem ext_alloc {p : Addr} {o : HO} (r : Rel K ι X S H) (hp : H p = none) : Ext ι H ι (upd H p o) :=
  ⟨⟨[], by simp⟩, fun b u _ e _ => by rw [upd_ne (ne_of_none e hp)]; exact e, fun b m n => absurd m n, tabs_new hp⟩
/-- a new object that is not tracked -/
theorem Rel.alloc {p : Addr} {o : HO} (r : Rel K ι X S H) (hp : H p = none) : Rel K ι X S (upd H p o) := by
  have x := Out1.ext (X := X) (ext_alloc (o := o) r hp)
  refine ⟨r.len, r.nd, fun i u a e f => ?_, fun a m => ⟨(r.ex a m).1, ?_⟩, tabs_new hp r.tabs⟩
  · have q := r.at_ i u a e f
    obtain ⟨w, hw⟩ := q.some
    exact q.out x (upd_ne (ne_of_none hw hp))
  · obtain ⟨_, u, e, z⟩ := r.ex a m
    exact ⟨u, by rw [upd_ne (ne_of_none e hp)]; exact e, z⟩
/-- a change that is seen nowhere else -/
theorem Rel.keep {ι' X' : List Addr} {H' : Hp} (r : Rel K ι X S H) (x : Out1 ι X H ι' X' H') (hi : ι' = ι) (k : ∀ a ∈ ι, H' a = H a) (hX : ∀ a ∈ X', a ∉ ι' ∧ ∃ o, H' a = some o ∧ NT o) (ht : HeldOk H') : Rel K ι' X' S H' := by
  subst hi
  exact ⟨r.len, r.nd, fun i u a e f => (r.at_ i u a e f).out x (k a (List.mem_of_getElem? f)), hX, ht⟩
/-- an object changes -/
theorem Rel.put {i : Nat} {a : Addr} {o : O} {u : HO} (r : Rel K ι X S H) (e : ι[i]? = some a) (new : RepO K ι X (upd H a u) o a) : Rel K ι X (S.set i o) (upd H a u) ∧ Ext ι H ι (upd H a u) := by
  have ma : a ∈ ι := List.mem_of_getElem? e
  obtain ⟨u0, hu0, pl0⟩ := r.pl ma
  have x : Ext ι H ι (upd H a u) := ⟨⟨[], by simp⟩, fun b w n h _ => by rw [upd_ne (fun z => n (by rw [z]; exact ma))]; exact h, fun b m n => absurd m n, tabs_put hu0 pl0⟩
  refine ⟨⟨by rw [List.length_set]; exact r.len, r.nd, fun j w b hw hb => ?_, fun b m => ⟨(r.ex b m).1, ?_⟩, tabs_put hu0 pl0 r.tabs⟩, x⟩
  · by_cases z : i = j
    · subst z
      have hi : i < S.length := by have := (List.getElem?_eq_some_iff.mp hw).1; rwa [List.length_set] at this
      rw [List.getElem?_set_self hi] at hw
      cases hw
      rw [e] at hb
      cases hb
      exact new
    · rw [List.getElem?_set_ne z] at hw
      have ne : b ≠ a := fun q => by
        subst q
        exact z (nd_inj r.nd e hb)
      exact (r.at_ j w b hw hb).out (Out1.ext x) (upd_ne ne)
  · obtain ⟨n, w, h, z⟩ := r.ex b m
    exact ⟨w, by rw [upd_ne (fun z => n (by rw [z]; exact ma))]; exact h, z⟩
/-- a new object that is tracked -/
theorem Rel.track {Y : List Addr} {a : Addr} {o : O} {ι0 : List Addr} {H0 : Hp} (x : Ext ι0 H0 ι H) (h0 : Free H0 a) (r : Rel K ι X S H) (n : a ∉ ι) (m : a ∉ Y) (hY : ∀ b ∈ Y, b ∈ X) (hr : RepO K (ι ++ [a]) Y H o a)
    (k : ∀ b ∈ ι, ∀ w, RepO K ι X H w b → RepO K (ι ++ [a]) Y H w b) : Rel K (ι ++ [a]) Y (S ++ [o]) H ∧ Ext ι0 H0 (ι ++ [a]) H := by
  refine ⟨⟨by rw [List.length_append, List.length_append, r.len]; rfl, ?_, fun i w b hw hb => ?_, fun b mb => ⟨fun q => ?_, (r.ex b (hY b mb)).2⟩, r.tabs⟩, ?_⟩
  · refine List.nodup_append.mpr ⟨r.nd, by simp, fun b mb c mc => ?_⟩
    rw [List.mem_singleton.mp mc]
    exact fun q => n (q ▸ mb)
  · by_cases z : i < S.length
    · rw [List.getElem?_append_left z] at hw
      rw [List.getElem?_append_left (by rw [r.len]; exact z)] at hb
      exact k b (List.mem_of_getElem? hb) w (r.at_ i w b hw hb)
    · rw [List.getElem?_append_right (by omega)] at hw
      rw [List.getElem?_append_right (by rw [r.len]; omega), r.len] at hb
      have zi : i - S.length = 0 := by
        have := (List.getElem?_eq_some_iff.mp hw).1
        simp at this
        omega
      rw [zi] at hw hb
      cases hw
      cases hb
      exact hr
  · rcases List.mem_append.mp q with q | q
    · exact (r.ex b (hY b mb)).1 q
    · rw [List.mem_singleton.mp q] at mb
      exact m mb
  · obtain ⟨t, et⟩ := x.pre
    refine ⟨⟨t ++ [a], by rw [et, List.append_assoc]⟩, x.old, fun b mb nb => ?_, x.tab⟩
    rcases List.mem_append.mp mb with q | q
    · exact x.new b q nb
    · rw [List.mem_singleton.mp q]
      exact h0
end
section
variable {K : PySem.W.Frag} {W : L2.St → WK}
theorem se_var {i : Nat} : SE K W (tVar i) (mVar i) := by
  intro ι X S H σ δ Q rel re h
  unfold mVar at h
  split at h
  · rename_i d e
    obtain ⟨v, e2, rv⟩ := re.2 i d e
    exact ⟨v, e2, h ι H v Ext.refl rel rv⟩
  · exact h.elim
theorem se_c {v : V} {p : P} (hv : ∀ ι X H, RepP K ι X H p v) : SE K W (tC v) (mC p) := fun ι X S H σ δ Q rel re h => h ι H v Ext.refl rel (hv ι X H)
theorem rp_non {ι X : List Addr} {H : Hp} : RepP K ι X H .non .non := by rw [RepP]
theorem rp_bl {ι X : List Addr} {H : Hp} {b : Bool} : RepP K ι X H (.bl b) (.bl b) := by rw [RepP]
theorem rp_int {ι X : List Addr} {H : Hp} {b : Int} : RepP K ι X H (.int b) (.int b) := by rw [RepP]
theorem rp_str {ι X : List Addr} {H : Hp} {b : Str} : RepP K ι X H (.str b) (.str b) := by rw [RepP]
theorem rp_con {ι X : List Addr} {H : Hp} {b : V} : RepP K ι X H (.con b) b := by rw [RepP]
theorem rd_non {ι X : List Addr} {H : Hp} : RepD K ι X H (.dat .non) .non := by
  show RepP K ι X H _ _
  rw [RepP]
theorem rd_bl {ι X : List Addr} {H : Hp} {b : Bool} : RepD K ι X H (.dat (.bl b)) (.bl b) := by
  show RepP K ι X H _ _
  rw [RepP]
theorem rd_int {ι X : List Addr} {H : Hp} {b : Int} : RepD K ι X H (.dat (.int b)) (.int b) := by
  show RepP K ι X H _ _
  rw [RepP]
theorem rd_str {ι X : List Addr} {H : Hp} {b : Str} : RepD K ι X H (.dat (.str b)) (.str b) := by
  show RepP K ι X H _ _
  rw [RepP]
theorem se_int {i : Int} : SE K W (tC (.int i)) (mC (.int i)) := se_c fun _ _ _ => rp_int
theorem se_bl {i : Bool} : SE K W (tC (.bl i)) (mC (.bl i)) := se_c fun _ _ _ => rp_bl
theorem se_non : SE K W (tC .non) (mC .non) := se_c fun _ _ _ => rp_non
theorem se_str {i : Str} : SE K W (tC (.str i)) (mC (.str i)) := se_c fun _ _ _ => rp_str
theorem se_con {v : V} : SE K W (tC v) (mC (.con v)) := se_c fun _ _ _ => rp_con
/-- an operator by values, answered by a function of data -/
def R2S (K : PySem.W.Frag) (r : R2) (f : Store → D → D → Option D) : Prop := ∀ ι X S H x y v u d Q, Rel K ι X S H → RepD K ι X H x v → RepD K ι X H y u → f S x y = some d →
  (∀ H' w, Ext ι H ι H' → Rel K ι X S H' → RepD K ι X H' d w → Q w H') → r v u H Q
def R1S (K : PySem.W.Frag) (r : V → Hp → VK → Prop) (f : Store → D → Option D) : Prop := ∀ ι X S H x v d Q, Rel K ι X S H → RepD K ι X H x v → f S x = some d →
  (∀ H' w, Ext ι H ι H' → Rel K ι X S H' → RepD K ι X H' d w → Q w H') → r v H Q
def RCS (K : PySem.W.Frag) (r : List V → Hp → VK → Prop) (f : Store → List D → Option D) : Prop := ∀ ι X S H ds vs d Q, Rel K ι X S H → RepDs K ι X H ds vs → f S ds = some d →
  (∀ H' w, Ext ι H ι H' → Rel K ι X S H' → RepD K ι X H' d w → Q w H') → r vs H Q
theorem post_oR {X ι : List Addr} {S : Store} {H : Hp} {W : WK} {o : Option D} {Q : V → Hp → Prop} (h : Post K X ι H W (oR o S) (fun ι' H' d v => RepD K ι' X H' d v) Q) :
    ∃ d, o = some d ∧ ∀ H' w, Ext ι H ι H' → Rel K ι X S H' → RepD K ι X H' d w → Q w H' := by
  cases o with
  | none => exact h.elim
  | some d => exact ⟨d, rfl, fun H' w x r q => h ι H' w x r q⟩
theorem se_op {r : R2} {f : Store → D → D → Option D} {ta tb : TE} {a b : DE} (hr : R2S K r f) (ha : SE K W ta a) (hb : SE K W tb b) : SE K W (tOp r ta tb) (mOp f a b) := by
  intro ι X S H σ δ Q rel re h
  refine ha ι X S H σ δ _ rel re (Post.bind h fun ι1 H1 x S1 v x1 rel1 rv h1 => ?_)
  refine hb ι1 X S1 H1 σ δ _ rel1 (re.ext x1) (Post.bind h1 fun ι2 H2 y S2 u x2 rel2 ru h2 => ?_)
  obtain ⟨d, e, k⟩ := post_oR h2
  exact hr ι2 X S2 H2 x y v u d Q rel2 (rv.ext x2) ru e k
theorem se_un {r : V → Hp → VK → Prop} {f : Store → D → Option D} {ta : TE} {a : DE} (hr : R1S K r f) (ha : SE K W ta a) : SE K W (tUn r ta) (mUn f a) := by
  intro ι X S H σ δ Q rel re h
  refine ha ι X S H σ δ _ rel re (Post.bind h fun ι1 H1 x S1 v x1 rel1 rv h1 => ?_)
  obtain ⟨d, e, k⟩ := post_oR h1
  exact hr ι1 X S1 H1 x v d Q rel1 rv e k
theorem sa_nil : SA K W tNil mNil := fun ι X S H σ δ Q rel re h => h ι H [] Ext.refl rel rfl
theorem sa_cons {ta : TE} {tr : TA} {a : DE} {r : DA} (ha : SE K W ta a) (hr : SA K W tr r) : SA K W (tCons ta tr) (mCons a r) := by
  intro ι X S H σ δ Q rel re h
  refine ha ι X S H σ δ _ rel re (Post.bind h fun ι1 H1 x S1 v x1 rel1 rv h1 => ?_)
  refine hr ι1 X S1 H1 σ δ _ rel1 (re.ext x1) (Post.bind h1 fun ι2 H2 y S2 u x2 rel2 ru h2 => ?_)
  exact h2 ι2 H2 _ Ext.refl rel2 ⟨v, u, rfl, rv.ext x2, ru⟩
theorem se_call {r : List V → Hp → VK → Prop} {f : Store → List D → Option D} {t : TA} {a : DA} (hr : RCS K r f) (ha : SA K W t a) : SE K W (tCB r t) (mCall f a) := by
  intro ι X S H σ δ Q rel re h
  refine ha ι X S H σ δ _ rel re (Post.bind h fun ι1 H1 x S1 v x1 rel1 rv h1 => ?_)
  obtain ⟨d, e, k⟩ := post_oR h1
  exact hr ι1 X S1 H1 x v d Q rel1 rv e k
theorem datAll_rep {ι X : List Addr} {H : Hp} : ∀ {ds : List D} {ps : List P} {vs : List V}, datAll ds = some ps → RepDs K ι X H ds vs → RepPs K ι X H ps vs
  | [], ps, vs, e, r => by
    cases e
    rw [RepPs]
    exact r
  | .dat p :: ds, ps, vs, e, ⟨y, ys, ev, f, g⟩ => by
    unfold datAll at e
    cases q : datAll ds with
    | none => rw [q] at e; cases e
    | some qs =>
      rw [q] at e
      cases e
      rw [RepPs]
      exact ⟨y, ys, ev, f, datAll_rep q g⟩
  | .obj _ :: ds, ps, vs, e, r => by cases e
theorem repDs_dat {ι X : List Addr} {H : Hp} : ∀ {ps : List P} {vs : List V}, RepPs K ι X H ps vs → RepDs K ι X H (ps.map .dat) vs
  | [], vs, r => by rw [RepPs] at r; exact r
  | p :: ps, vs, r => by
    rw [RepPs] at r
    obtain ⟨y, ys, e, f, g⟩ := r
    exact ⟨y, ys, e, f, repDs_dat g⟩
@[simp] theorem datAll_map (ps : List P) : datAll (ps.map .dat) = some ps := by
  induction ps with
  | nil => rfl
  | cons p ps ih => rw [List.map_cons, datAll, ih]; rfl
theorem repPs_len {ι X : List Addr} {H : Hp} : ∀ {ps : List P} {vs : List V}, RepPs K ι X H ps vs → vs.length = ps.length
  | [], vs, r => by rw [RepPs] at r; rw [r]; rfl
  | p :: ps, vs, r => by
    rw [RepPs] at r
    obtain ⟨y, ys, e, f, g⟩ := r
    rw [e, List.length_cons, List.length_cons, repPs_len g]
theorem repDs_len {ι X : List Addr} {H : Hp} : ∀ {ps : List D} {vs : List V}, RepDs K ι X H ps vs → vs.length = ps.length
  | [], vs, r => by rw [show vs = [] from r]; rfl
  | p :: ps, vs, ⟨y, ys, e, f, g⟩ => by rw [e, List.length_cons, List.length_cons, repDs_len g]
theorem small {n : Nat} (h : n ≤ 100000) : n ≤ sizeLine := Nat.le_trans h (by decide)
theorem smalls {n : Nat} (h : n < 100000) : n < sizeLine := Nat.lt_of_lt_of_le h (by decide)
/-- a new tuple -/
theorem new_tup {ι X : List Addr} {S : Store} {H : Hp} {ps : List P} {vs : List V} {Q : V → Hp → Prop} (rel : Rel K ι X S H) (r : RepPs K ι X H ps vs) {p : Addr} (hp : H p = none)
    (k : ∀ H' w, Ext ι H ι H' → Rel K ι X S H' → RepD K ι X H' (.dat (.tup ps)) w → Q w H') : Q (.ref p) (upd H p (.tup vs)) := by
  have x := ext_alloc (o := .tup vs) rel hp
  obtain ⟨n, m⟩ := rel.nin hp
  refine k _ _ x (rel.alloc hp) ?_
  show RepP K ι X _ _ _
  rw [RepP]
  exact ⟨p, vs, rfl, .inl ⟨n, m, .inl upd_same⟩, r.ext x⟩
theorem new_lst {ι X : List Addr} {S : Store} {H : Hp} {ps : List P} {vs : List V} {Q : V → Hp → Prop} (rel : Rel K ι X S H) (r : RepPs K ι X H ps vs) {p : Addr} (hp : H p = none)
    (k : ∀ H' w, Ext ι H ι H' → Rel K ι X S H' → RepD K ι X H' (.dat (.lst ps)) w → Q w H') : Q (.ref p) (upd H p (.lst vs)) := by
  have x := ext_alloc (o := .lst vs) rel hp
  obtain ⟨n, m⟩ := rel.nin hp
  refine k _ _ x (rel.alloc hp) ?_
  show RepP K ι X _ _ _
  rw [RepP]
  exact ⟨p, vs, rfl, n, m, upd_same, r.ext x⟩
theorem se_tup {t : TA} {a : DA} (ha : SA K W t a) : SE K W (tTup t) (mTup a) := by
  intro ι X S H σ δ Q rel re h
  refine ha ι X S H σ δ _ rel re (Post.bind h fun ι1 H1 ds S1 vs x1 rel1 rv h1 => ?_)
  cases e : datAll ds with
  | none => simp only [e] at h1; exact h1.elim
  | some ps =>
    simp only [e] at h1
    have rp := datAll_rep e rv
    by_cases hl : ps.length ≤ 100000
    · rw [if_pos hl] at h1
      refine ⟨small (by rw [repPs_len rp]; exact hl), fun p hp => ?_⟩
      exact new_tup rel1 rp hp fun H' w x r q => h1 ι1 H' w x r q
    · rw [if_neg hl] at h1
      exact h1.elim
theorem Out1.more {ι X : List Addr} {H : Hp} {p : Addr} {o : HO} (hp : H p = none) : Out1 ι X H ι (p :: X) (upd H p o) := ⟨fun e => e, fun a u n m e _ => by
  have ne : a ≠ p := ne_of_none e hp
  refine ⟨by rw [upd_ne ne]; exact e, n, fun z => ?_⟩
  rcases List.mem_cons.mp z with z | z
  · exact ne z
  · exact m z⟩
theorem Out1.less {ι X : List Addr} {H : Hp} {p : Addr} : Out1 ι (p :: X) H ι X H := ⟨fun e => e, fun a u n m e _ => ⟨e, n, fun z => m (List.mem_cons_of_mem _ z)⟩⟩
theorem Rel.more {ι X : List Addr} {S : Store} {H : Hp} {p : Addr} {o : HO} (r : Rel K ι X S H) (hp : H p = none) (nt : NT o := by intro ps z; cases z) : Rel K ι (p :: X) S (upd H p o) := by
  refine r.keep (Out1.more hp) rfl (fun a m => ?_) (fun a m => ?_) (tabs_new hp r.tabs)
  · obtain ⟨u, e⟩ := r.mem m
    exact upd_ne (ne_of_none e hp)
  · rcases List.mem_cons.mp m with z | z
    · subst z
      exact ⟨(r.nin hp).1, _, upd_same, nt⟩
    · obtain ⟨n, u, e, z2⟩ := r.ex a z
      exact ⟨n, u, by rw [upd_ne (ne_of_none e hp)]; exact e, z2⟩
theorem Rel.less {ι X : List Addr} {S : Store} {H : Hp} {p : Addr} (r : Rel K ι (p :: X) S H) : Rel K ι X S H :=
  r.keep Out1.less rfl (fun _ _ => rfl) (fun a m => r.ex a (List.mem_cons_of_mem _ m)) r.tabs
/-- the new list is tracked -/
theorem Out1.trk {ι X : List Addr} {H : Hp} {p : Addr} : Out1 ι (p :: X) H (ι ++ [p]) X H := by
  refine ⟨fun {i a} e => ?_, fun a u n m e _ => ⟨e, fun z => ?_, fun z => m (List.mem_cons_of_mem _ z)⟩⟩
  · rw [List.getElem?_append_left (List.getElem?_eq_some_iff.mp e).1]
    exact e
  · rcases List.mem_append.mp z with z | z
    · exact n z
    · rw [List.mem_singleton.mp z] at m
      exact m List.mem_cons_self
theorem Rel.trk {ι0 ι X : List Addr} {S : Store} {H0 H : Hp} {p : Addr} {o : O} (r : Rel K ι (p :: X) S H) (x : Ext ι0 H0 ι H) (h0 : Free H0 p) (hX : p ∉ X) (ro : RepO K ι (p :: X) H o p) :
    Rel K (ι ++ [p]) X (S ++ [o]) H ∧ Ext ι0 H0 (ι ++ [p]) H := by
  have n := (r.ex p List.mem_cons_self).1
  exact Rel.track x h0 r n hX (fun b m => List.mem_cons_of_mem _ m) (ro.out Out1.trk rfl) fun b mb w q => q.out Out1.trk rfl
theorem sl_lst {t : TA} {a : DA} (ha : SA K W t a) : SL K W (tLst t) (mLst a) := by
  intro ι X S H σ δ Q rel re h
  refine ha ι X S H σ δ (fun vs H1 => vs.length ≤ sizeLine ∧ ∀ p, H1 p = none → Q (.ref p) (upd H1 p (.lst vs))) rel re ?_
  unfold mLst at h
  cases e : a δ S with
  | fail => rw [e] at h; exact h
  | exc C x S1 => rw [e] at h; exact h
  | ok ds S1 =>
    rw [e, R.bind_ok] at h
    intro ι1 H1 vs x1 rel1 rv
    by_cases hl : ds.length ≤ 100000
    · rw [if_pos hl] at h
      refine ⟨small (by rw [repDs_len rv]; exact hl), fun p hp => ?_⟩
      have x := ext_alloc (o := .lst vs) rel1 hp
      exact h ι1 _ p vs (x1.trans x) (rel1.more hp) (ext_free x1 (rel1.nin hp).1 (Free.of hp)) upd_same (rv.out (Out1.more hp))
    · rw [if_neg hl] at h
      exact h.elim
theorem se_frz {t : TE} {a : DA} (ha : SL K W t a) : SE K W t (mFrz a) := by
  intro ι X S H σ δ Q rel re h
  refine ha ι X S H σ δ Q rel re ?_
  unfold mFrz at h
  cases e : a δ S with
  | fail => rw [e] at h; exact h
  | exc C x S1 => rw [e] at h; exact h
  | ok ds S1 =>
    rw [e, R.bind_ok] at h
    intro ι1 H1 p xs x1 rel1 h0 ep rv
    cases q : datAll ds with
    | none => simp only [q] at h; exact h.elim
    | some ps =>
      simp only [q] at h
      refine h ι1 H1 _ x1 rel1.less ?_
      show RepP K ι1 X _ _ _
      rw [RepP]
      have hX : p ∉ X := fun m => by
        obtain ⟨_, u, e, z⟩ := rel.ex p m
        exact h0 u e z
      exact ⟨p, xs, rfl, (rel1.ex p List.mem_cons_self).1, hX, ep, datAll_rep q (rv.out Out1.less)⟩
theorem se_trk {t : TE} {a : DA} (ha : SL K W t a) : SE K W t (mTrk a) := by
  intro ι X S H σ δ Q rel re h
  refine ha ι X S H σ δ Q rel re ?_
  unfold mTrk at h
  cases e : a δ S with
  | fail => rw [e] at h; exact h
  | exc C x S1 => rw [e] at h; exact h
  | ok ds S1 =>
    rw [e, R.bind_ok] at h
    intro ι1 H1 p xs x1 rel1 h0 ep rv
    have hX : p ∉ X := fun m => by
      obtain ⟨_, u, e, z⟩ := rel.ex p m
      exact h0 u e z
    obtain ⟨r2, x2⟩ := rel1.trk (o := .lst ds) x1 h0 hX ⟨xs, ep, rv⟩
    refine h _ H1 _ x2 r2 ⟨p, ?_, rfl⟩
    rw [← rel1.len, List.getElem?_append_right (Nat.le_refl _), Nat.sub_self]
    rfl
end
end M3
namespace M3
open PySem PySem.Spec PyProof.Rows L2
variable [TabsP]
section
variable {K : PySem.W.Frag} {W : L2.St → WK}
theorem asB_rep {ι X : List Addr} {H : Hp} {d : D} {v : V} {b : Bool} (e : asB d = some b) (r : RepD K ι X H d v) : v = .bl b := by
  unfold asB at e
  split at e
  · cases e
    have r : RepP K ι X H (.bl _) v := r
    rw [RepP] at r
    exact r
  · cases e
theorem se_and {ta tb : TE} {a b : DE} (ha : SE K W ta a) (hb : SE K W tb b) : SE K W (tAndV ta tb) (mAnd a b) := by
  intro ι X S H σ δ Q rel re h
  refine ha ι X S H σ δ _ rel re (Post.bind h fun ι1 H1 x S1 v x1 rel1 rv h1 => ?_)
  cases e : asB x with
  | none => simp only [e] at h1; exact h1.elim
  | some c =>
    simp only [e] at h1
    refine ⟨c, asB_rep e rv, ?_⟩
    cases c with
    | true => exact hb ι1 X S1 H1 σ δ Q rel1 (re.ext x1) h1
    | false => exact h1 ι1 H1 _ Ext.refl rel1 rd_bl
theorem se_or {ta tb : TE} {a b : DE} (ha : SE K W ta a) (hb : SE K W tb b) : SE K W (tOrV ta tb) (mOr a b) := by
  intro ι X S H σ δ Q rel re h
  refine ha ι X S H σ δ _ rel re (Post.bind h fun ι1 H1 x S1 v x1 rel1 rv h1 => ?_)
  cases e : asB x with
  | none => simp only [e] at h1; exact h1.elim
  | some c =>
    simp only [e] at h1
    refine ⟨c, asB_rep e rv, ?_⟩
    cases c with
    | true => exact h1 ι1 H1 _ Ext.refl rel1 rd_bl
    | false => exact hb ι1 X S1 H1 σ δ Q rel1 (re.ext x1) h1
theorem se_not {ta : TE} {a : DE} (ha : SE K W ta a) : SE K W (tNotV ta) (mNot a) := by
  intro ι X S H σ δ Q rel re h
  refine ha ι X S H σ δ _ rel re (Post.bind h fun ι1 H1 x S1 v x1 rel1 rv h1 => ?_)
  cases e : asB x with
  | none => simp only [e] at h1; exact h1.elim
  | some c =>
    simp only [e] at h1
    exact ⟨c, asB_rep e rv, h1 ι1 H1 _ Ext.refl rel1 rd_bl⟩
theorem post_oT {X ι : List Addr} {S : Store} {H : Hp} {W : WK} {o : Option Bool} {Q : Bool → Hp → Prop} (rel : Rel K ι X S H) (h : Post K X ι H W (oR o S) (fun _ _ d v => v = d) Q) : ∃ b, o = some b ∧ Q b H := by
  cases o with
  | none => exact h.elim
  | some d => exact ⟨d, rfl, h ι H d Ext.refl rel rfl⟩
theorem st_tst {ta : TE} {a : DE} (ha : SE K W ta a) : ST K W (tB ta) (mTst a) := by
  intro ι X S H σ δ Q rel re h
  refine ha ι X S H σ δ _ rel re (Post.bind h fun ι1 H1 x S1 v x1 rel1 rv h1 => ?_)
  obtain ⟨b, e, q⟩ := post_oT rel1 h1
  exact ⟨b, asB_rep e rv, q⟩
theorem st_test {ta : TE} {a : DE} (ha : SE K W ta a) : ST K W (tTest ta) (mTst a) := by
  intro ι X S H σ δ Q rel re h
  refine ha ι X S H σ δ _ rel re (Post.bind h fun ι1 H1 x S1 v x1 rel1 rv h1 => ?_)
  obtain ⟨b, e, q⟩ := post_oT rel1 h1
  exact ⟨b, asB_rep e rv, q⟩
theorem st_and {ta tb : TT} {a b : DT} (ha : ST K W ta a) (hb : ST K W tb b) : ST K W (tAnd ta tb) (mAndT a b) := by
  intro ι X S H σ δ Q rel re h
  refine ha ι X S H σ δ _ rel re (Post.bind h fun ι1 H1 x S1 v x1 rel1 rv h1 => ?_)
  subst rv
  cases v with
  | true => exact hb ι1 X S1 H1 σ δ Q rel1 (re.ext x1) h1
  | false => exact h1 ι1 H1 _ Ext.refl rel1 rfl
theorem st_or {ta tb : TT} {a b : DT} (ha : ST K W ta a) (hb : ST K W tb b) : ST K W (tOr ta tb) (mOrT a b) := by
  intro ι X S H σ δ Q rel re h
  refine ha ι X S H σ δ _ rel re (Post.bind h fun ι1 H1 x S1 v x1 rel1 rv h1 => ?_)
  subst rv
  cases v with
  | true => exact h1 ι1 H1 _ Ext.refl rel1 rfl
  | false => exact hb ι1 X S1 H1 σ δ Q rel1 (re.ext x1) h1
theorem st_not {ta : TT} {a : DT} (ha : ST K W ta a) : ST K W (tNot ta) (mNotT a) := by
  intro ι X S H σ δ Q rel re h
  refine ha ι X S H σ δ _ rel re (Post.bind h fun ι1 H1 x S1 v x1 rel1 rv h1 => ?_)
  subst rv
  exact h1 ι1 H1 _ Ext.refl rel1 rfl
theorem se_if {tc : TT} {ta tb : TE} {c : DT} {a b : DE} (hc : ST K W tc c) (ha : SE K W ta a) (hb : SE K W tb b) : SE K W (tIf tc ta tb) (mIf c a b) := by
  intro ι X S H σ δ Q rel re h
  refine hc ι X S H σ δ _ rel re (Post.bind h fun ι1 H1 x S1 v x1 rel1 rv h1 => ?_)
  subst rv
  cases v with
  | true => exact ha ι1 X S1 H1 σ δ Q rel1 (re.ext x1) h1
  | false => exact hb ι1 X S1 H1 σ δ Q rel1 (re.ext x1) h1
theorem se_chain {r r' : R2} {f g : Store → D → D → Option D} {ta tb tc : TE} {a b c : DE} (hr : R2S K r f) (hr' : R2S K r' g) (ha : SE K W ta a) (hb : SE K W tb b) (hc : SE K W tc c) : SE K W (tChain r r' ta tb tc) (mChain f g a b c) := by
  intro ι X S H σ δ Q rel re h
  refine ha ι X S H σ δ _ rel re (Post.bind h fun ι1 H1 x S1 v x1 rel1 rv h1 => ?_)
  refine hb ι1 X S1 H1 σ δ _ rel1 (re.ext x1) (Post.bind h1 fun ι2 H2 y S2 u x2 rel2 ru h2 => ?_)
  cases e : f S2 x y with
  | none => simp only [e] at h2; exact h2.elim
  | some z =>
    simp only [e, oR_some, R.bind_ok] at h2
    refine hr ι2 X S2 H2 x y v u z _ rel2 (rv.ext x2) ru e fun H3 w x3 rel3 rw3 => ?_
    cases q : asB z with
    | none => simp only [q] at h2; exact h2.elim
    | some k =>
      simp only [q] at h2
      refine ⟨k, asB_rep q rw3, ?_⟩
      cases k with
      | false => exact (h2.ext x3) ι2 H3 _ Ext.refl rel3 rd_bl
      | true =>
        refine hc ι2 X S2 H3 σ δ _ rel3 ((re.ext x1).ext (x2.trans x3)) (Post.bind (h2.ext x3) fun ι4 H4 w' S4 v4 x4 rel4 rv4 h4 => ?_)
        obtain ⟨d, e5, k5⟩ := post_oR h4
        exact hr' ι4 X S4 H4 y w' u v4 d Q rel4 (ru.ext (x3.trans x4)) rv4 e5 k5
theorem ss_next : SS K W tNext mNext := fun ι X S H σ δ E rel re h => h ι H σ Ext.refl rel re
theorem ss_seq {t u : TS} {a b : DS} (ha : SS K W t a) (hb : SS K W u b) : SS K W (tSeq t u) (mSeq a b) := by
  intro ι X S H σ δ E rel re h
  refine ha ι X S H σ δ _ rel re ?_
  unfold mSeq at h
  cases e : a δ S with
  | fail => rw [e] at h; exact h
  | exc C x S1 => rw [e] at h; exact h
  | ok o S1 =>
    rw [e] at h
    cases o with
    | nx δ1 => exact fun ι1 H1 σ1 x1 rel1 re1 => hb ι1 X S1 H1 σ1 δ1 E rel1 re1 (PostS.ext x1 h)
    | rt d => exact h
    | bk δ1 => exact h
    | ct δ1 => exact h
    | ex C x δ1 => exact h
theorem ss_ret {t : TE} {a : DE} (ha : SE K W t a) : SS K W (tRet t) (mRet a) := by
  intro ι X S H σ δ E rel re h
  exact ha ι X S H σ δ _ rel re (PostS.st re h fun ι1 H1 d S1 v x1 rel1 rv h1 => h1 ι1 H1 v Ext.refl rel1 rv)
theorem ss_drop {t : TE} {a : DE} (ha : SE K W t a) : SS K W (tDrop t) (mDrop a) := by
  intro ι X S H σ δ E rel re h
  exact ha ι X S H σ δ _ rel re (PostS.st re h fun ι1 H1 d S1 v x1 rel1 rv h1 => h1 ι1 H1 σ Ext.refl rel1 (re.ext x1))
/-- x = e, whatever form its reading has -/
theorem ss_asg {t : TE} {g : TG} {a : DE} {m : DG} (ha : SE K W t a)
    (hg : ∀ ι X S H σ δ d v (N : L2.St → Hp → Prop), Rel K ι X S H → RepE K ι X H δ σ → RepD K ι X H d v → Post K X ι H (W σ) (m d δ S) (fun ι' H' δ' σ' => RepE K ι' X H' δ' σ') N → g v σ H N) : SS K W (tAsg t g) (mAsg a m) := by
  intro ι X S H σ δ E rel re h
  refine ha ι X S H σ δ _ rel re (PostS.st re h fun ι1 H1 d S1 v x1 rel1 rv h1 => ?_)
  refine hg ι1 X S1 H1 σ δ d v _ rel1 (re.ext x1) rv ?_
  exact PostS.st (re.ext x1) h1 fun ι2 H2 δ2 S2 σ2 x2 rel2 re2 h2 => h2 ι2 H2 σ2 Ext.refl rel2 re2
/-- a target -/
def SG (K : PySem.W.Frag) (W : L2.St → WK) (g : TG) (m : DG) : Prop := ∀ ι X S H σ δ d v (N : L2.St → Hp → Prop), Rel K ι X S H → RepE K ι X H δ σ → RepD K ι X H d v → Post K X ι H (W σ) (m d δ S) (fun ι' H' δ' σ' => RepE K ι' X H' δ' σ') N → g v σ H N
def SGs (K : PySem.W.Frag) (W : L2.St → WK) (g : TGs) (m : DGs) : Prop := ∀ ι X S H σ δ d v (N : L2.St → Hp → Prop), Rel K ι X S H → RepE K ι X H δ σ → RepDs K ι X H d v → Post K X ι H (W σ) (m d δ S) (fun ι' H' δ' σ' => RepE K ι' X H' δ' σ') N → g v σ H N
theorem sg_name {i : Nat} : SG K W (gName i) (gmName i) := fun ι X S H σ δ d v N rel re rv h => h ι H _ Ext.refl rel (re.set rv)
/-- targets that fail in nothing may be read under any wish -/
theorem sgs_nil : SGs K W gNil gmNil := fun ι X S H σ δ d v N rel re rv h => by
  cases d with
  | nil => exact ⟨rv, h ι H _ Ext.refl rel re⟩
  | cons a b => exact h.elim
theorem sgs_cons {g : TG} {m : DG} {gs : TGs} {ms : DGs} (hw : ∀ σ σ', W σ = W σ') (hg : SG K W g m) (hs : SGs K W gs ms) : SGs K W (gCons g gs) (gmCons m ms) := fun ι X S H σ δ d v N rel re rv h => by
  cases d with
  | nil => exact h.elim
  | cons a b =>
    obtain ⟨y, ys, e, f, k⟩ := rv
    refine ⟨y, ys, e, hg ι X S H σ δ a y _ rel re f (Post.bind h fun ι1 H1 δ1 S1 σ1 x1 rel1 re1 h1 => ?_)⟩
    refine hs ι1 X S1 H1 σ1 δ1 b ys N rel1 re1 (k.ext x1) ?_
    rw [← hw σ σ1]
    exact h1
theorem sg_tup {n : Nat} {gs : TGs} {ms : DGs} (hs : SGs K W gs ms) : SG K W (gTup K n gs) (gmTup n ms) := fun ι X S H σ δ d v N rel re rv h => by
  unfold gmTup at h
  split at h
  · rename_i ps
    have rv : RepP K ι X H (.tup ps) v := rv
    rw [RepP] at rv
    obtain ⟨a, xs, e, f, k⟩ := rv
    split at h
    · rename_i hl
      exact ⟨a, xs, e, f.sq, by rw [repPs_len k]; exact hl, hs ι X S H σ δ _ xs N rel re (repDs_dat k) h⟩
    · exact h.elim
  · rename_i i
    obtain ⟨a, ea, rfl⟩ := rv
    split at h
    · rename_i l es
      obtain ⟨xs, f, k⟩ := rel.at_ i _ a es ea
      split at h
      · rename_i hl
        exact ⟨a, xs, rfl, .inl (.inl f), by rw [repDs_len k]; exact hl, hs ι X S H σ δ _ xs N rel re k h⟩
      · exact h.elim
    · exact h.elim
  · exact h.elim
theorem ss_asgG {t : TE} {g : TG} {a : DE} {m : DG} (ha : SE K W t a) (hg : SG K W g m) : SS K W (tAsg t g) (mAsg a m) := ss_asg ha hg
theorem ss_ifS {tc : TT} {t u : TS} {c : DT} {a b : DS} (hc : ST K W tc c) (ha : SS K W t a) (hb : SS K W u b) : SS K W (tIfS tc t u) (mIfS c a b) := by
  intro ι X S H σ δ E rel re h
  refine hc ι X S H σ δ _ rel re (PostS.st re h fun ι1 H1 x S1 v x1 rel1 rv h1 => ?_)
  subst rv
  cases v with
  | true => exact ha ι1 X S1 H1 σ δ E rel1 (re.ext x1) h1
  | false => exact hb ι1 X S1 H1 σ δ E rel1 (re.ext x1) h1
theorem ss_par {i j : Nat} {t : TA} {a : DA} (ha : SA K W t a) : SS K W (tPar i j t) (mPar i j a) := by
  intro ι X S H σ δ E rel re h
  refine ha ι X S H σ δ _ rel re (PostS.st re h fun ι1 H1 ds S1 vs x1 rel1 rv h1 => ?_)
  match ds, rv, h1 with
  | [], _, h1 => exact h1.elim
  | [_], _, h1 => exact h1.elim
  | [x, y], ⟨v, _, e1, r1, w, _, e2, r2, e3⟩, h1 =>
    cases e3
    cases e2
    exact ⟨v, w, e1, h1 ι1 H1 _ Ext.refl rel1 (((re.ext x1).set r1).set r2)⟩
  | _ :: _ :: _ :: _, _, h1 => exact h1.elim
/-- what a turn of a loop is to reach -/
theorem turn_ok {X ι : List Addr} {H : Hp} {o : R Out} {nxt : DEnv → Store → R Out} {E : Ends} (h : PostS K W X ι H (mTurn o nxt) E) {N : L2.St → Hp → Prop}
    (k : ∀ ι' H' σ δ S, Ext ι H ι' H' → Rel K ι' X S H' → RepE K ι' X H' δ σ → PostS K W X ι' H' (nxt δ S) E → N σ H') : PostS K W X ι H o { E with nx := N, ct := N, bk := E.nx } := by
  cases o with
  | fail => exact h
  | exc C x S => exact h
  | ok o S => cases o with
    | nx δ => exact fun ι' H' σ x rel re => k ι' H' σ δ S x rel re (PostS.ext x h)
    | ct δ => exact fun ι' H' σ x rel re => k ι' H' σ δ S x rel re (PostS.ext x h)
    | bk δ => exact h
    | rt d => exact h
    | ex C x δ => exact h
theorem ss_while {tc : TT} {tb : TS} {c : DT} {b : DS} (hc : ST K W tc c) (hb : SS K W tb b) : SS K W (tWhile tc tb) (mWhile c b) := by
  intro ι X S H σ δ E rel re h
  refine ⟨fun m σ' H' => ∃ ι1 δ1 S1, Rel K ι1 X S1 H' ∧ RepE K ι1 X H' δ1 σ' ∧ PostS K W X ι1 H' (mWhileN c b m δ1 S1) E, ⟨FUEL, ι, δ, S, rel, re, h⟩, ?_⟩
  rintro m σ1 H1 ⟨ι1, δ1, S1, rel1, re1, h1⟩
  cases m with
  | zero => exact h1.elim
  | succ n =>
    unfold mWhileN at h1
    refine hc ι1 X S1 H1 σ1 δ1 _ rel1 re1 (PostS.st re1 h1 fun ι2 H2 x S2 v x2 rel2 rv h2 => ?_)
    subst rv
    cases v with
    | false => exact h2 ι2 H2 σ1 Ext.refl rel2 (re1.ext x2)
    | true =>
      rw [if_pos rfl]
      refine ⟨fun σ' H' => ∃ ι1 δ1 S1, Rel K ι1 X S1 H' ∧ RepE K ι1 X H' δ1 σ' ∧ PostS K W X ι1 H' (mWhileN c b n δ1 S1) E, fun σ' H' q => ⟨n, Nat.lt_succ_self n, q⟩, ?_⟩
      refine hb ι2 X S2 H2 σ1 δ1 _ rel2 (re1.ext x2) (turn_ok h2 fun ι3 H3 σ3 δ3 S3 x3 rel3 re3 h3 => ⟨ι3, δ3, S3, rel3, re3, h3⟩)
end
end M3
namespace M3
open PySem PySem.Spec PyProof.Rows L2
variable [TabsP]
section
variable {K : PySem.W.Frag}
theorem Out1.trans {ι X ι1 X1 ι2 X2 : List Addr} {H H1 H2 : Hp} (x : Out1 ι X H ι1 X1 H1) (y : Out1 ι1 X1 H1 ι2 X2 H2) : Out1 ι X H ι2 X2 H2 :=
  ⟨fun e => y.at_ (x.at_ e), fun a o n m e z => let ⟨p, q, r⟩ := x.ok a o n m e z; y.ok a o q r p z⟩
theorem Out1.refl {ι X : List Addr} {H : Hp} : Out1 ι X H ι X H := ⟨fun e => e, fun a o n m e nt => ⟨e, n, m⟩⟩
/-- a walk of these items, whatever changes that data do not see -/
structure ItNow (K : PySem.W.Frag) (J : It) (l : List D) (ι X : List Addr) (H : Hp) : Prop where
  go : ∀ i, i < l.length → J.go i H
  stop : J.stop l.length H
  yld : ∀ i x H' d S, J.yld i H x H' → l[i]? = some d → Rel K ι X S H → Rel K ι X S H' ∧ Ext ι H ι H' ∧ RepD K ι X H' d x
def ItOk (K : PySem.W.Frag) (J : It) (l : List D) (ι X : List Addr) (H : Hp) : Prop := ∀ ι' X' H', Out1 ι X H ι' X' H' → ItNow K J l ι' X' H'
theorem ItOk.out {J : It} {l : List D} {ι X ι' X' : List Addr} {H H' : Hp} (k : ItOk K J l ι X H) (x : Out1 ι X H ι' X' H') : ItOk K J l ι' X' H' := fun ι2 X2 H2 y => k ι2 X2 H2 (x.trans y)
theorem ItOk.now {J : It} {l : List D} {ι X : List Addr} {H : Hp} (k : ItOk K J l ι X H) : ItNow K J l ι X H := k ι X H Out1.refl
variable {W : L2.St → WK}
def PostI (K : PySem.W.Frag) (X ι : List Addr) (H : Hp) (W : WK) (r : R Wk) (Q : It → Hp → Prop) : Prop := match r with
  | .ok (.items l) S' => ∀ ι' H' J, Ext ι H ι' H' → Rel K ι' X S' H' → ItOk K J l ι' X H' → Q J H'
  | .ok (.ob o) S' => ∀ ι' H' a, Ext ι H ι' H' → Rel K ι' X S' H' → ι'[o]? = some a → Q (Itl K a) H'
  | .exc C x S' => ∀ ι' H' da, Ext ι H ι' H' → Rel K ι' X S' H' → RepX K ι' X H' x da → W (.ref C) da H'
  | .fail => False
def SI (K : PySem.W.Frag) (W : L2.St → WK) (t : TI) (m : DI) : Prop := ∀ ι X S H σ δ Q, Rel K ι X S H → RepE K ι X H δ σ → PostI K X ι H (W σ) (m δ S) Q → t σ H Q
theorem PostI.ext {X ι : List Addr} {H : Hp} {W : WK} {r : R Wk} {Q : It → Hp → Prop} {ι1 : List Addr} {H1 : Hp} (x : Ext ι H ι1 H1) (h : PostI K X ι H W r Q) : PostI K X ι1 H1 W r Q := by
  cases r with
  | ok a S => cases a with
    | items l => exact fun ι' H' v y => h ι' H' v (x.trans y)
    | ob o => exact fun ι' H' v y => h ι' H' v (x.trans y)
  | exc C z S => exact fun ι' H' v y => h ι' H' v (x.trans y)
  | fail => exact h
theorem obj_now {ι X : List Addr} {S : Store} {H : Hp} (rel : Rel K ι X S H) {o : Nat} {a : Addr} (ea : ι[o]? = some a) {l : List D} (es : S[o]? = some (.lst l)) : ∃ xs, H a = some (.lst xs) ∧ RepDs K ι X H l xs := rel.at_ o _ a es ea
theorem repDs_at {ι X : List Addr} {H : Hp} : ∀ {l : List D} {xs : List V} {i : Nat} {d : D}, RepDs K ι X H l xs → l[i]? = some d → ∃ x, xs[i]? = some x ∧ RepD K ι X H d x
  | [], xs, i, d, r, e => by simp at e
  | p :: ps, _, 0, d, ⟨y, ys, rfl, f, g⟩, e => by
    have : p = d := by simpa using e
    subst this
    exact ⟨y, rfl, f⟩
  | p :: ps, _, i + 1, d, ⟨y, ys, rfl, f, g⟩, e => repDs_at (i := i) g (by simpa using e)
theorem ss_for {wi : TI} {g : TG} {tb : TS} {w : DI} {m : DG} {b : DS} (hw : SI K W wi w) (hg : SG K W g m) (hb : SS K W tb b) : SS K W (tFor wi g tb) (mFor w m b) := by
  intro ι X S H σ δ E rel re h
  refine hw ι X S H σ δ _ rel re ?_
  unfold mFor at h
  cases e : w δ S with
  | fail => rw [e] at h; exact h
  | exc C x S1 => rw [e] at h; exact fun ι' H' da x rel rx => h ι' H' da σ x rel rx (re.ext x)
  | ok k S1 =>
    rw [e, R.st_ok] at h
    cases k with
    | items l =>
      simp only at h
      intro ι1 H1 J x1 rel1 it
      refine ⟨fun i n σ' H' => ∃ ι2 δ2 S2, n = l.length - i ∧ i ≤ l.length ∧ Ext ι1 H1 ι2 H' ∧ Rel K ι2 X S2 H' ∧ RepE K ι2 X H' δ2 σ' ∧ PostS K W X ι2 H' (mForL m b (l.drop i) δ2 S2) E,
        ⟨l.length, ι1, δ, S1, rfl, Nat.zero_le _, Ext.refl, rel1, re.ext x1, PostS.ext x1 h⟩, ?_⟩
      rintro i n σ2 H2 ⟨ι2, δ2, S2, rfl, hi, x2, rel2, re2, h2⟩
      have now := (it.out (Out1.ext x2)).now
      by_cases hl : i < l.length
      · have ed : l.drop i = l[i] :: l.drop (i + 1) := List.drop_eq_getElem_cons hl
        have eg : l[i]? = some l[i] := List.getElem?_eq_getElem hl
        rw [ed] at h2
        generalize l[i] = d at h2 eg
        refine .inr ⟨now.go i hl, fun σ' H' => ∃ ι3 δ3 S3, Ext ι1 H1 ι3 H' ∧ Rel K ι3 X S3 H' ∧ RepE K ι3 X H' δ3 σ' ∧ PostS K W X ι3 H' (mForL m b (l.drop (i + 1)) δ3 S3) E,
          fun σ' H' ⟨ι3, δ3, S3, q⟩ => ⟨_, Nat.sub_lt_sub_left hl (Nat.lt_succ_self i), ι3, δ3, S3, rfl, hl, q⟩, fun x H3 y => ?_⟩
        obtain ⟨rel3, x3, rd⟩ := now.yld i x H3 d S2 y eg rel2
        unfold mForL at h2
        have h3 := turn_ok (PostS.ext x3 h2) (N := fun σ' H' => ∃ ι3 δ3 S3, Ext ι1 H1 ι3 H' ∧ Rel K ι3 X S3 H' ∧ RepE K ι3 X H' δ3 σ' ∧ PostS K W X ι3 H' (mForL m b (l.drop (i + 1)) δ3 S3) E)
          fun ι' H' σ' δ' S' x4 rel4 re4 h4 => ⟨ι', δ', S', (x2.trans x3).trans x4, rel4, re4, h4⟩
        have re3 := re2.ext x3
        refine hg ι2 X S2 H3 σ2 δ2 d x _ rel3 re3 rd (PostS.st re3 h3 fun ι5 H5 δ5 S5 σ5 x5 rel5 re5 h5 => ?_)
        exact hb ι5 X S5 H5 σ5 δ5 _ rel5 re5 h5
      · have ei : i = l.length := by omega
        subst ei
        rw [List.drop_length] at h2
        exact .inl ⟨now.stop, h2 ι2 H2 σ2 Ext.refl rel2 re2⟩
    | ob o =>
      simp only at h
      intro ι1 H1 a x1 rel1 ea
      cases es : S1[o]? with
      | none => rw [es] at h; exact h.elim
      | some ob =>
        cases ob with
        | ins C fs => simp only [es] at h; exact h.elim
        | dic fs => simp only [es] at h; exact h.elim
        | tup fs => simp only [es] at h; exact h.elim
        | lst l =>
          simp only [es] at h
          refine ⟨fun i n σ' H' => ∃ ι2 δ2 S2, i + n = l.length ∧ Ext ι1 H1 ι2 H' ∧ Rel K ι2 X S2 H' ∧ RepE K ι2 X H' δ2 σ' ∧ PostS K W X ι2 H' (mForO m b o l.length n i δ2 S2) E,
            ⟨l.length, ι1, δ, S1, by omega, Ext.refl, rel1, re.ext x1, PostS.ext x1 h⟩, ?_⟩
          rintro i n σ2 H2 ⟨ι2, δ2, S2, hi, x2, rel2, re2, h2⟩
          have ea2 := x2.at ea
          cases n with
          | zero =>
            unfold mForO at h2
            cases es2 : S2[o]? with
            | none => simp only [es2] at h2; exact h2.elim
            | some ob =>
              cases ob with
              | ins C fs => simp only [es2] at h2; exact h2.elim
              | dic fs => simp only [es2] at h2; exact h2.elim
              | tup fs => simp only [es2] at h2; exact h2.elim
              | lst l2 =>
                simp only [es2] at h2
                by_cases hl : l2.length = l.length
                · rw [if_pos hl] at h2
                  obtain ⟨xs, ex, rx⟩ := obj_now rel2 ea2 es2
                  exact .inl ⟨⟨xs, SqL.of ex, by rw [repDs_len rx]; omega⟩, h2 ι2 H2 σ2 Ext.refl rel2 re2⟩
                · rw [if_neg hl] at h2; exact h2.elim
          | succ n =>
            unfold mForO at h2
            cases es2 : S2[o]? with
            | none => simp only [es2] at h2; exact h2.elim
            | some ob =>
              cases ob with
              | ins C fs => simp only [es2] at h2; exact h2.elim
              | dic fs => simp only [es2] at h2; exact h2.elim
              | tup fs => simp only [es2] at h2; exact h2.elim
              | lst l2 =>
                simp only [es2] at h2
                by_cases hl : l2.length = l.length
                · rw [if_pos hl] at h2
                  cases ed : l2[i]? with
                  | none => simp only [ed] at h2; exact h2.elim
                  | some d =>
                    simp only [ed] at h2
                    obtain ⟨xs, ex, rx⟩ := obj_now rel2 ea2 es2
                    obtain ⟨y, ey, ry⟩ := repDs_at rx ed
                    refine .inr ⟨⟨xs, y, SqL.of ex, ey⟩, fun σ' H' => ∃ ι3 δ3 S3, Ext ι1 H1 ι3 H' ∧ Rel K ι3 X S3 H' ∧ RepE K ι3 X H' δ3 σ' ∧ PostS K W X ι3 H' (mForO m b o l.length n (i + 1) δ3 S3) E,
                      fun σ' H' ⟨ι3, δ3, S3, q⟩ => ⟨n, Nat.lt_succ_self n, ι3, δ3, S3, by omega, q⟩, fun x H3 yy => ?_⟩
                    obtain ⟨rfl, yy⟩ := yy
                    have exy : x = y := by
                      have := yy xs (SqL.of ex)
                      rw [ey] at this
                      exact (Option.some.inj this).symm
                    subst exy
                    have h3 := turn_ok h2 (N := fun σ' H' => ∃ ι3 δ3 S3, Ext ι1 H1 ι3 H' ∧ Rel K ι3 X S3 H' ∧ RepE K ι3 X H' δ3 σ' ∧ PostS K W X ι3 H' (mForO m b o l.length n (i + 1) δ3 S3) E)
                      fun ι' H' σ' δ' S' x4 rel4 re4 h4 => ⟨ι', δ', S', x2.trans x4, rel4, re4, h4⟩
                    refine hg ι2 X S2 _ σ2 δ2 d x _ rel2 re2 ry (PostS.st re2 h3 fun ι5 H5 δ5 S5 σ5 x5 rel5 re5 h5 => ?_)
                    exact hb ι5 X S5 H5 σ5 δ5 _ rel5 re5 h5
                · rw [if_neg hl] at h2; exact h2.elim
end
end M3
namespace M3
open PySem PySem.Spec PyProof.Rows L2
variable [TabsP]
/-- within a comprehension nothing may be raised -/
def WF : L2.St → WK := fun _ _ _ _ => False
theorem wipe_set {σ : L2.St} {i : Nat} {x : Option V} : ∀ {vs : List Nat}, i ∈ vs → wipe (σ.set i x) vs = wipe σ vs
  | [], h => by cases h
  | v :: vs, h => by
    unfold wipe
    by_cases m : i ∈ vs
    · rw [wipe_set m]
    · rcases List.mem_cons.mp h with rfl | h
      · have go : ∀ us : List Nat, i ∉ us → wipe (σ.set i x) us = (wipe σ us).set i x := by
          intro us
          induction us with
          | nil => intro _; rfl
          | cons u us ih =>
            intro hn
            unfold wipe
            rw [ih (fun z => hn (List.mem_cons_of_mem _ z)), List.set_comm _ _ (fun z => hn (by rw [z]; exact List.mem_cons_self))]
        rw [go vs m, List.set_set]
      · exact absurd h m
section
variable {K : PySem.W.Frag} {W : L2.St → WK}
/-- a target that sets names among vs alone -/
def SGv (K : PySem.W.Frag) (vs : List Nat) (g : TG) (m : DG) : Prop := ∀ ι X S H σ δ d v (N : L2.St → Hp → Prop), Rel K ι X S H → RepE K ι X H δ σ → RepD K ι X H d v →
  Post K X ι H (WF σ) (m d δ S) (fun ι' H' δ' σ' => RepE K ι' X H' δ' σ' ∧ L2.wipe σ' vs = L2.wipe σ vs) N → g v σ H N
theorem sgv_name {i : Nat} {vs : List Nat} (h : i ∈ vs) : SGv K vs (gName i) (gmName i) := fun ι X S H σ δ d v N rel re rv hq => hq ι H _ Ext.refl rel ⟨re.set rv, wipe_set h⟩
theorem Post.bnf {X ι : List Addr} {H : Hp} {α β γ : Type} {r : R α} {f : α → Store → R β} {T : R β → Prop} {Rp : List Addr → Hp → α → γ → Prop} {Q1 : γ → Hp → Prop} {W : WK} (h : T (r.bnf f)) (hf : ¬ T .fail)
    (k : ∀ ι1 H1 a S1 v, Ext ι H ι1 H1 → Rel K ι1 X S1 H1 → Rp ι1 H1 a v → T (f a S1) → Q1 v H1) : Post K X ι H W r Rp Q1 := by
  cases r with
  | ok a S => exact fun ι' H' v x rel rp => k ι' H' a S v x rel rp h
  | exc C z S => exact (hf h).elim
  | fail => exact (hf h).elim
theorem st_yes : ST K W tYes mYes := fun ι X S H σ δ Q rel re h => h ι H true Ext.refl rel rfl
theorem repDs_snoc {ι X : List Addr} {H : Hp} : ∀ {ds : List D} {xs : List V} {d : D} {v : V}, RepDs K ι X H ds xs → RepD K ι X H d v → RepDs K ι X H (ds ++ [d]) (xs ++ [v])
  | [], xs, d, v, r, q => by
    rw [show xs = [] from r]
    exact ⟨v, [], rfl, q, rfl⟩
  | p :: ps, _, d, v, ⟨y, ys, rfl, f, g⟩, q => ⟨y, ys ++ [v], rfl, f, repDs_snoc g q⟩
/-- the list that is being made grows -/
theorem Out1.mine {ι X : List Addr} {H : Hp} {p : Addr} {o : HO} (m : p ∈ X) : Out1 ι X H ι X (upd H p o) := ⟨fun e => e, fun a u n k e nt => ⟨by rw [upd_ne (fun z => k (by rw [z]; exact m))]; exact e, n, k⟩⟩
theorem Rel.mine {ι X : List Addr} {S : Store} {H : Hp} {p : Addr} {o : HO} (r : Rel K ι X S H) (m : p ∈ X) {acc : List V} (hp : H p = some (.lst acc)) (nt : NT o := by intro ps z; cases z) : Rel K ι X S (upd H p o) := by
  refine r.keep (Out1.mine m) rfl (fun a ma => upd_ne (fun z => (r.ex p m).1 (by rw [← z]; exact ma))) (fun a ma => ?_) (tabs_put hp pl_lst r.tabs)
  obtain ⟨n, u, e, zu⟩ := r.ex a ma
  refine ⟨n, ?_⟩
  by_cases z : a = p
  · exact ⟨o, by rw [z]; exact upd_same, nt⟩
  · exact ⟨u, by rw [upd_ne z]; exact e, zu⟩
theorem ext_mine {ι ι' : List Addr} {H H' : Hp} {p : Addr} {o : HO} (x : Ext ι H ι' H') (h0 : Free H p) (ht : HeldOk H' → HeldOk (upd H' p o)) : Ext ι H ι' (upd H' p o) :=
  ⟨x.pre, fun b u n e z => by rw [upd_ne (h0.ne e z)]; exact x.old b u n e z, x.new, fun t => ht (x.tab t)⟩
/-- at the list D, what is to come -/
def LcT (K : PySem.W.Frag) (X ι : List Addr) (H : Hp) (Q : VK) (r : R (List D)) : Prop := match r with
  | .ok ds S' => ∀ ι' H' p xs, Ext ι H ι' H' → Rel K ι' (p :: X) S' H' → Free H p → H' p = some (.lst xs) → RepDs K ι' (p :: X) H' ds xs → Q (.ref p) H'
  | _ => False
/-- one item of a comprehension -/
theorem lc_item {vs : List Nat} {g : TG} {m : DG} {tt : TT} {t : DT} {te : TE} {e : DE} {σ : L2.St} {δ : DEnv} (hg : SGv K vs g m) (ht : ST K WF tt t) (he : SE K WF te e)
    {X ι0 ι : List Addr} {H0 H : Hp} {S : Store} {Dd : Addr} {d : D} {x : V} {acc : List V} {accD : List D} {T : R (List D) → Prop} (hf : ¬ T .fail) {k : List D → Store → R (List D)} {Nx : Hp → Prop}
    (x0 : Ext ι0 H0 ι H) (h0 : Free H0 Dd) (rel : Rel K ι (Dd :: X) S H) (re : RepE K ι (Dd :: X) H (wipeD δ vs) (wipe σ vs)) (rd : RepD K ι (Dd :: X) H d x) (ha : H Dd = some (.lst acc)) (ra : RepDs K ι (Dd :: X) H accD acc)
    (h : T ((m d (wipeD δ vs) S).bnf fun δ1 S1 => (t δ1 S1).bnf fun b S2 => match b with
        | true => (e δ1 S2).bnf fun y S3 => if accD.length < 100000 then k (accD ++ [y]) S3 else .fail
        | false => k accD S2))
    (fin : ∀ ι' H' S' accD' acc', Ext ι0 H0 ι' H' → Rel K ι' (Dd :: X) S' H' → H' Dd = some (.lst acc') → RepDs K ι' (Dd :: X) H' accD' acc' → T (k accD' S') → Nx H') :
    g x (wipe σ vs) H fun σ2 H2 => wipe σ2 vs = wipe σ vs ∧ tt σ2 H2 fun b H3 =>
      if b = true then te σ2 H3 fun y H4 => ∃ acc, H4 Dd = some (.lst acc) ∧ acc.length < sizeLine ∧ Nx (upd H4 Dd (.lst (acc ++ [y]))) else Nx H3 := by
  refine hg ι (Dd :: X) S H _ _ d x _ rel re rd (Post.bnf h hf fun ι1 H1 δ1 S1 σ1 x1 rel1 re1 h1 => ?_)
  refine ⟨re1.2.trans ?_, ?_⟩
  · have go : ∀ us vs : List Nat, (∀ v ∈ us, v ∈ vs) → wipe (wipe σ vs) us = wipe σ vs := by
      intro us vs hs
      induction us with
      | nil => rfl
      | cons u us ih =>
        unfold wipe
        rw [ih fun v hv => hs v (List.mem_cons_of_mem _ hv)]
        have go2 : ∀ vs : List Nat, u ∈ vs → (wipe σ vs).set u none = wipe σ vs := by
          intro vs
          induction vs with
          | nil => intro h; cases h
          | cons v vs ih2 =>
            intro hm
            unfold wipe
            by_cases q : u = v
            · subst q
              rw [List.set_set]
            · rcases List.mem_cons.mp hm with z | z
              · exact absurd z q
              · rw [List.set_comm _ _ (Ne.symm q), ih2 z]
        have := go2 vs (hs u List.mem_cons_self)
        cases vs with
        | nil => exact this
        | cons v vs => exact this
    exact go vs vs fun v hv => hv
  refine ht ι1 (Dd :: X) S1 H1 σ1 δ1 _ rel1 re1.1 (Post.bnf h1 hf fun ι2 H2 b S2 v x2 rel2 rv h2 => ?_)
  subst rv
  have dn : Dd ∉ ι := (rel.ex Dd List.mem_cons_self).1
  have dn1 : Dd ∉ ι1 := (rel1.ex Dd List.mem_cons_self).1
  have dn2 : Dd ∉ ι2 := (rel2.ex Dd List.mem_cons_self).1
  have ha2 := x2.old _ _ dn1 (x1.old _ _ dn ha nt_lst) nt_lst
  cases v with
  | false => exact fin ι2 H2 S2 accD acc ((x0.trans x1).trans x2) rel2 ha2 ((ra.ext x1).ext x2) h2
  | true =>
    rw [if_pos rfl]
    refine he ι2 (Dd :: X) S2 H2 σ1 δ1 _ rel2 (re1.1.ext x2) (Post.bnf h2 hf fun ι3 H3 y S3 w x3 rel3 ry h3 => ?_)
    have ha3 := x3.old _ _ dn2 ha2 nt_lst
    have ra3 := ((ra.ext x1).ext x2).ext x3
    by_cases hl : accD.length < 100000
    · rw [if_pos hl] at h3
      refine ⟨acc, ha3, smalls (by rw [repDs_len ra3]; exact hl), ?_⟩
      refine fin ι3 _ S3 (accD ++ [y]) (acc ++ [w]) (ext_mine (((x0.trans x1).trans x2).trans x3) h0 (tabs_put ha3 pl_lst)) (rel3.mine List.mem_cons_self ha3 nt_lst) upd_same ?_ h3
      exact (repDs_snoc ra3 ry).out (Out1.mine List.mem_cons_self)
    · rw [if_neg hl] at h3
      exact (hf h3).elim
theorem sl_lc {wi : TI} {w : DI} {g : TG} {m : DG} {tt : TT} {t : DT} {te : TE} {e : DE} {vs : List Nat} (hw : SI K W wi w) (hg : SGv K vs g m) (ht : ST K WF tt t) (he : SE K WF te e) : SL K W (tLc wi g tt te vs) (mLc w m t e vs) := by
  intro ι X S H σ δ Q rel re h
  refine hw ι X S H σ δ _ rel re ?_
  unfold mLc at h
  cases ew : w δ S with
  | fail => rw [ew] at h; exact h
  | exc C x S1 => rw [ew] at h; exact h
  | ok k S1 =>
    rw [ew, R.bind_ok] at h
    cases k with
    | items l =>
      simp only at h
      intro ι1 H1 J x1 rel1 it Dd hD
      have h0 : Free H Dd := ext_free x1 (rel1.nin hD).1 (Free.of hD)
      have hf : ¬ LcT K X ι H Q .fail := fun z => z
      have h' : LcT K X ι H Q (mLcL m t e vs δ l [] S1) := by
        cases q : mLcL m t e vs δ l [] S1 with
        | ok ds S' => rw [q] at h; exact h
        | exc C x S' => rw [q] at h; exact h
        | fail => rw [q] at h; exact h
      have reD : RepE K ι1 (Dd :: X) (upd H1 Dd (.lst [])) δ σ := (re.ext x1).out (Out1.more hD)
      refine ⟨fun i n H' => ∃ ι2 S2 accD acc, n = l.length - i ∧ i ≤ l.length ∧ Ext ι1 H1 ι2 H' ∧ Rel K ι2 (Dd :: X) S2 H' ∧ H' Dd = some (.lst acc) ∧ RepDs K ι2 (Dd :: X) H' accD acc ∧ LcT K X ι H Q (mLcL m t e vs δ (l.drop i) accD S2),
        ⟨l.length, ι1, S1, [], [], rfl, Nat.zero_le _, ext_mine Ext.refl (Free.of hD) (tabs_new hD), rel1.more hD, upd_same, rfl, h'⟩, ?_⟩
      rintro i n H2 ⟨ι2, S2, accD, acc, rfl, hi, x2, rel2, ha, ra, h2⟩
      have dn2 : Dd ∉ ι2 := (rel2.ex Dd List.mem_cons_self).1
      have o2 : Out1 ι1 X H1 ι2 (Dd :: X) H2 := ⟨fun e => x2.at e, fun a u n k e nt => ⟨x2.old a u n e nt, x2.nin n e nt, fun z => by
        rcases List.mem_cons.mp z with z | z
        · rw [z, hD] at e; cases e
        · exact k z⟩⟩
      have now := (it.out o2).now
      by_cases hl : i < l.length
      · have ed : l.drop i = l[i] :: l.drop (i + 1) := List.drop_eq_getElem_cons hl
        have eg : l[i]? = some l[i] := List.getElem?_eq_getElem hl
        rw [ed] at h2
        generalize l[i] = d at h2 eg
        refine .inr ⟨now.go i hl, fun H' => ∃ ι3 S3 accD acc, Ext ι1 H1 ι3 H' ∧ Rel K ι3 (Dd :: X) S3 H' ∧ H' Dd = some (.lst acc) ∧ RepDs K ι3 (Dd :: X) H' accD acc ∧ LcT K X ι H Q (mLcL m t e vs δ (l.drop (i + 1)) accD S3),
          fun H' ⟨ι3, S3, a, b, q⟩ => ⟨_, Nat.sub_lt_sub_left hl (Nat.lt_succ_self i), ι3, S3, a, b, rfl, hl, q⟩, fun x H3 y => ?_⟩
        obtain ⟨rel3, x3, rd⟩ := now.yld i x H3 d S2 y eg rel2
        unfold mLcL at h2
        have ha3 := x3.old _ _ dn2 ha nt_lst
        have re3 : RepE K ι2 (Dd :: X) H3 (wipeD δ vs) (wipe σ vs) := (((re.ext x1).out o2).ext x3).wipe vs
        exact lc_item hg ht he hf (x2.trans x3) (Free.of hD) rel3 re3 rd ha3 (ra.ext x3) h2 fun ι' H' S' accD' acc' x4 rel4 ha4 ra4 h4 => ⟨ι', S', accD', acc', x4, rel4, ha4, ra4, h4⟩
      · have ei : i = l.length := by omega
        subst ei
        rw [List.drop_length] at h2
        exact .inl ⟨now.stop, h2 ι2 H2 Dd acc (x1.trans x2) rel2 h0 ha ra⟩
    | ob o =>
      simp only at h
      intro ι1 H1 a x1 rel1 ea Dd hD
      have h0 : Free H Dd := ext_free x1 (rel1.nin hD).1 (Free.of hD)
      have hf : ¬ LcT K X ι H Q .fail := fun z => z
      cases es : S1[o]? with
      | none => rw [es] at h; exact h.elim
      | some ob =>
        cases ob with
        | ins C fs => simp only [es] at h; exact h.elim
        | dic fs => simp only [es] at h; exact h.elim
        | tup fs => simp only [es] at h; exact h.elim
        | lst l =>
          simp only [es] at h
          have h' : LcT K X ι H Q (mLcO m t e vs δ o l.length l.length 0 [] S1) := by
            cases q : mLcO m t e vs δ o l.length l.length 0 [] S1 with
            | ok ds S' => rw [q] at h; exact h
            | exc C x S' => rw [q] at h; exact h
            | fail => rw [q] at h; exact h
          refine ⟨fun i n H' => ∃ ι2 S2 accD acc, i + n = l.length ∧ Ext ι1 H1 ι2 H' ∧ Rel K ι2 (Dd :: X) S2 H' ∧ H' Dd = some (.lst acc) ∧ RepDs K ι2 (Dd :: X) H' accD acc ∧ LcT K X ι H Q (mLcO m t e vs δ o l.length n i accD S2),
            ⟨l.length, ι1, S1, [], [], by omega, ext_mine Ext.refl (Free.of hD) (tabs_new hD), rel1.more hD, upd_same, rfl, h'⟩, ?_⟩
          rintro i n H2 ⟨ι2, S2, accD, acc, hi, x2, rel2, ha, ra, h2⟩
          have dn2 : Dd ∉ ι2 := (rel2.ex Dd List.mem_cons_self).1
          have o2 : Out1 ι1 X H1 ι2 (Dd :: X) H2 := ⟨fun e => x2.at e, fun a u n k e nt => ⟨x2.old a u n e nt, x2.nin n e nt, fun z => by
            rcases List.mem_cons.mp z with z | z
            · rw [z, hD] at e; cases e
            · exact k z⟩⟩
          have ea2 := x2.at ea
          cases n with
          | zero =>
            unfold mLcO at h2
            cases es2 : S2[o]? with
            | none => simp only [es2] at h2; exact h2.elim
            | some ob =>
              cases ob with
              | ins C fs => simp only [es2] at h2; exact h2.elim
              | dic fs => simp only [es2] at h2; exact h2.elim
              | tup fs => simp only [es2] at h2; exact h2.elim
              | lst l2 =>
                simp only [es2] at h2
                by_cases hl : l2.length = l.length
                · rw [if_pos hl] at h2
                  obtain ⟨xs, ex, rx⟩ := obj_now rel2 ea2 es2
                  exact .inl ⟨⟨xs, SqL.of ex, by rw [repDs_len rx]; omega⟩, h2 ι2 H2 Dd acc (x1.trans x2) rel2 h0 ha ra⟩
                · rw [if_neg hl] at h2; exact h2.elim
          | succ n =>
            unfold mLcO at h2
            cases es2 : S2[o]? with
            | none => simp only [es2] at h2; exact h2.elim
            | some ob =>
              cases ob with
              | ins C fs => simp only [es2] at h2; exact h2.elim
              | dic fs => simp only [es2] at h2; exact h2.elim
              | tup fs => simp only [es2] at h2; exact h2.elim
              | lst l2 =>
                simp only [es2] at h2
                by_cases hl : l2.length = l.length
                · rw [if_pos hl] at h2
                  cases ed : l2[i]? with
                  | none => simp only [ed] at h2; exact h2.elim
                  | some d =>
                    simp only [ed] at h2
                    obtain ⟨xs, ex, rx⟩ := obj_now rel2 ea2 es2
                    obtain ⟨y, ey, ry⟩ := repDs_at rx ed
                    refine .inr ⟨⟨xs, y, SqL.of ex, ey⟩, fun H' => ∃ ι3 S3 accD acc, Ext ι1 H1 ι3 H' ∧ Rel K ι3 (Dd :: X) S3 H' ∧ H' Dd = some (.lst acc) ∧ RepDs K ι3 (Dd :: X) H' accD acc ∧ LcT K X ι H Q (mLcO m t e vs δ o l.length n (i + 1) accD S3),
                      fun H' ⟨ι3, S3, a, b, q⟩ => ⟨n, Nat.lt_succ_self n, ι3, S3, a, b, by omega, q⟩, fun x H3 yy => ?_⟩
                    obtain ⟨rfl, yy⟩ := yy
                    have exy : x = y := by
                      have := yy xs (SqL.of ex)
                      rw [ey] at this
                      exact (Option.some.inj this).symm
                    subst exy
                    have re3 : RepE K ι2 (Dd :: X) _ (wipeD δ vs) (wipe σ vs) := ((re.ext x1).out o2).wipe vs
                    exact lc_item hg ht he hf x2 (Free.of hD) rel2 re3 ry ha ra h2 fun ι' H' S' accD' acc' x4 rel4 ha4 ra4 h4 => ⟨ι', S', accD', acc', x4, rel4, ha4, ra4, h4⟩
                · rw [if_neg hl] at h2; exact h2.elim
end
end M3
namespace M3
open PySem PySem.Spec PyProof.Rows L2
variable [TabsP]
/-- a def of the text, as the top has left it -/
structure Def (K : PySem.W.Frag) (mg : Str → Option Value) (x : Str) (st : Stmt) (ps : List Str) : Prop where
  ex : ∃ f fd, Fun K x x st f fd ∧ mg x = some (.ref f) ∧ Binds K fd ps []
/-- a def to be called -/
structure Cal (P : Program) (w : World) (K : PySem.W.Frag) (mg : Str → Option Value) (base : Heap) (k : Nat) (x : Str) (ps : List Str) (sp : Sp) : Prop where
  ex : ∃ f fd, FnOk P w K mg base (L2.CX P w) k f fd ps sp ∧ mg x = some (.ref f) ∧ PySem.W.keepIn K (.ref f) = true ∧ Binds K fd ps []
theorem Cal.imp {P : Program} {w : World} {K : PySem.W.Frag} {mg : Str → Option Value} {base : Heap} {k : Nat} {x : Str} {ps : List Str} {sp sp' : Sp} (C : Cal P w K mg base k x ps sp) (h : ∀ vs H Q E, sp' vs H Q E → sp vs H Q E) : Cal P w K mg base k x ps sp' :=
  let ⟨f, fd, F, r⟩ := C.ex; ⟨f, fd, F.imp h, r⟩
theorem Cal.mono {P : Program} {w : World} {K : PySem.W.Frag} {mg : Str → Option Value} {base : Heap} {j k : Nat} {x : Str} {ps : List Str} {sp : Sp} (C : Cal P w K mg base j x ps sp) (h : j ≤ k) : Cal P w K mg base k x ps sp :=
  let ⟨f, fd, F, r⟩ := C.ex; ⟨f, fd, F.mono h, r⟩
theorem Def.cal {P : Program} {w : World} {K : PySem.W.Frag} {mg : Str → Option Value} {base : Heap} {k : Nat} {x : Str} {st : Stmt} {N ps : List Str} {sp : Sp} (D : Def K mg x st ps) (S : FnScope N ps (defScope st)) (len : ∀ vs H Q E, sp vs H Q E → vs.length = ps.length)
    (hbody : ∀ (f : Addr) (cdv : Value) (A : Around) (outer : List PySem.Env) (s : Shared) (H : Hp) (vs : List V) (Q : VK) (E : XK), Room k (A.deeper (envOfC x (defScope st) s.heap.objs.size f cdv)) → sp vs H Q E →
      ∃ t, PSs (cxOf (L2.CX P w) P w K mg base N x (defScope st) f cdv A outer s H E) (defBody st) t ∧ t { nx := fun _ H' => Q .non H', rt := Q } (L2.start N vs) H) : Cal P w K mg base (k + 1) x ps sp := by
  obtain ⟨f, fd, F, hm, b⟩ := D.ex
  exact ⟨f, fd, F.okX S len (hbody f), hm, F.kp, b⟩
/-- a wish by slots, as the judgements have it -/
def wk (W : WX) : L2.St → WK := fun σ c d H => W c d σ H
/-- what a def promises: what its function of data says -/
def spM (K : PySem.W.Frag) (n : Nat) (m : List D → Store → R D) : Sp := fun vs H Q E => vs.length = n ∧ ∃ ι X S ds, Rel K ι X S H ∧ RepDs K ι X H ds vs ∧ Post K X ι H (fun c da H' => E c da H') (m ds S) (fun ι' H' d v => RepD K ι' X H' d v) Q
theorem spM_len {K : PySem.W.Frag} {n : Nat} {m : List D → Store → R D} {ps : List Str} (h : ps.length = n) : ∀ vs H Q E, spM K n m vs H Q E → vs.length = ps.length := fun _ _ _ _ q => q.1.trans h.symm
section
variable {K : PySem.W.Frag}
theorem repE_start {ι X : List Addr} {H : Hp} {N : List Str} : ∀ {ds : List D} {vs : List V}, RepDs K ι X H ds vs → ∀ n, RepE K ι X H (ds.map some ++ List.replicate n none) (vs.map some ++ List.replicate n none) := by
  intro ds vs r n
  have hl := repDs_len r
  refine ⟨by simp [hl], fun i d e => ?_⟩
  by_cases hi : i < ds.length
  · rw [List.getElem?_append_left (by simpa using hi), List.getElem?_map] at e
    cases q : ds[i]? with
    | none => rw [q] at e; cases e
    | some d' =>
      rw [q] at e
      cases e
      obtain ⟨x, ex, rx⟩ := repDs_at r q
      exact ⟨x, by rw [List.getElem?_append_left (by simpa [hl] using hi), List.getElem?_map, ex]; rfl, rx⟩
  · rw [List.getElem?_append_right (by simpa using hi), List.getElem?_replicate] at e
    split at e <;> cases e
theorem body_ok {n : Nat} {N : List Str} {t : TS} {b : DS} {vs : List V} {H : Hp} {Q : VK} {E : XK} (hb : SS K (wk fun cls d _ H => E cls d H) t b) (h : spM K n (mBody N.length b) vs H Q E) : t { nx := fun _ H' => Q .non H', rt := Q } (L2.start N vs) H := by
  obtain ⟨hn, ι, X, S, ds, rel, rd, hp⟩ := h
  unfold mBody at hp
  have hl := repDs_len rd
  refine hb ι X S H _ _ _ rel (by unfold L2.start; rw [hl]; exact repE_start (N := N) rd _) ?_
  cases e : b (ds.map some ++ List.replicate (N.length - ds.length) none) S with
  | fail => rw [e] at hp; exact hp
  | exc C x S' => rw [e] at hp; exact hp
  | ok o S' =>
    rw [e] at hp
    cases o with
    | nx δ => exact fun ι' H' σ x rel' re => hp ι' H' .non x rel' rd_non
    | rt d => exact fun ι' H' v x rel' rv => hp ι' H' v x rel' rv
    | bk δ => exact hp.elim
    | ct δ => exact hp.elim
    | ex C x δ => exact fun ι' H' da σ x rel' rx re => hp ι' H' da x rel' rx
theorem se_def {W : WX} {n : Nat} {m : List D → Store → R D} {t : TA} {a : DA} (ha : SA K (wk W) t a) : SE K (wk W) (tCallS (spM K n m) (WE W) t) (mDef n m a) := by
  intro ι X S H σ δ Q rel re h
  refine ha ι X S H σ δ _ rel re (Post.bind h fun ι1 H1 ds S1 vs x1 rel1 rv h1 => ?_)
  by_cases hn : ds.length = n
  · rw [if_pos hn] at h1
    exact ⟨by rw [repDs_len rv]; exact hn, ι1, X, S1, ds, rel1, rv, h1⟩
  · rw [if_neg hn] at h1
    exact h1.elim
/-- within a comprehension: nothing is raised -/
theorem se_defF {n : Nat} {m : List D → Store → R D} {t : TA} {a : DA} (ha : SA K WF t a) : SE K WF (tCall (spM K n m) [] E0 t) (mDef n m a) := by
  intro ι X S H σ δ Q rel re h
  refine ha ι X S H σ δ _ rel re (Post.bind h fun ι1 H1 ds S1 vs x1 rel1 rv h1 => ?_)
  rw [List.append_nil]
  by_cases hn : ds.length = n
  · rw [if_pos hn] at h1
    exact ⟨by rw [repDs_len rv]; exact hn, ι1, X, S1, ds, rel1, rv, h1⟩
  · rw [if_neg hn] at h1
    exact h1.elim
theorem passF {P : Program} {w : World} {X : Cx} : Passes (L2.CX P w) X E0 := fun _ _ _ _ _ _ _ ⟨_, _, _, _, _, _, _, _, _, _, _, _, h⟩ => h.elim
section
variable {X : Cx} {k j : Nat} {x : Str} {ps : List Str} {sp : Sp} {e : Expr} {es : List Expr} {t : TA} {p pos : Pos} {W : WX}
theorem pcal (C : Cal X.prog X.w X.K X.mg X.base k x ps sp) (hr : Room j X.A) (hk : k ≤ j) (hg : Gl X x) (tk : Takes X W) (ha : PA X (e :: es) t) (hdb : (x == ("__debug__" : Str)) = false := by decide) (he : starEach (e :: es) X.env = (false, eval e X.env) :: starEach es X.env := by rfl) (hpl : (backTo pos (starEach es X.env)).any (·.1) = false := by rfl) :
    PE X (.Call (.Name x p) (e :: es) [] pos) (tCallS sp (WE W) t) := by
  obtain ⟨f, fd, F, hm, kp, b⟩ := C.ex
  exact pe_callS F (hr.mono hk) hg hm kp b (fun σ => passAt tk σ) ha hdb he hpl
theorem pcalF (C : Cal X.prog X.w X.K X.mg X.base k x ps sp) (hr : Room j X.A) (hk : k ≤ j) (hg : Gl X x) (ha : PA X (e :: es) t) (hdb : (x == ("__debug__" : Str)) = false := by decide) (he : starEach (e :: es) X.env = (false, eval e X.env) :: starEach es X.env := by rfl) (hpl : (backTo pos (starEach es X.env)).any (·.1) = false := by rfl) :
    PE X (.Call (.Name x p) (e :: es) [] pos) (tCall sp [] E0 t) := by
  obtain ⟨f, fd, F, hm, kp, b⟩ := C.ex
  exact pe_call F (hr.mono hk) hg hm kp b .nil passF ha hdb he hpl
end
theorem datAll_repD {ι X ι' X' : List Addr} {H H' : Hp} (x : OutP ι X H ι' X' H') : ∀ {ds : List D} {ps : List P} {vs : List V}, datAll ds = some ps → RepDs K ι X H ds vs → RepDs K ι' X' H' ds vs
  | [], ps, vs, e, r => r
  | .dat p :: ds, ps, vs, e, ⟨y, ys, ev, f, g⟩ => by
    unfold datAll at e
    cases q : datAll ds with
    | none => rw [q] at e; cases e
    | some qs => exact ⟨y, ys, ev, RepP.out x f, datAll_repD x q g⟩
  | .obj _ :: ds, ps, vs, e, r => by cases e
theorem datF_rep {ι X ι' X' : List Addr} {H H' : Hp} (x : OutP ι X H ι' X' H') : ∀ {ds : List (Str × D)} {ps : List (Str × P)} {vs : List (Str × V)}, datF ds = some ps → RepDF K ι X H ds vs → RepFs K ι' X' H' ps vs
  | [], ps, vs, e, r => by
    cases e
    rw [RepFs]
    exact r
  | (f, .dat p) :: ds, ps, vs, e, ⟨y, ys, ev, h, g⟩ => by
    unfold datF at e
    cases q : datF ds with
    | none => rw [q] at e; cases e
    | some qs =>
      rw [q] at e
      cases e
      rw [RepFs]
      exact ⟨y, ys, ev, RepP.out x h, datF_rep x q g⟩
  | (_, .obj _) :: ds, ps, vs, e, r => by cases e
theorem frz1_rep {ι X ι' X' : List Addr} {S : Store} {H : Hp} (rel : Rel K ι X S H) (x : OutP ι X H ι' X' H) {i : Nat} {p : P} {a : Addr} (e : frz1 S i = some p) (ea : ι[i]? = some a) (n : a ∉ ι') (m : a ∉ X') : RepD K ι' X' H (.dat p) (.ref a) := by
  show RepP K ι' X' H p _
  unfold frz1 at e
  cases es : S[i]? with
  | none => rw [es] at e; cases e
  | some o =>
    rw [es] at e
    have ro := rel.at_ i o a es ea
    cases o with
    | lst l =>
      obtain ⟨xs, f, g⟩ := ro
      cases q : datAll l with
      | none => simp only [q] at e; cases e
      | some ps =>
        simp only [q, Option.map_some] at e
        cases e
        rw [RepP]
        exact ⟨a, xs, rfl, n, m, f, RepPs.out x (datAll_rep q g)⟩
    | ins C l =>
      obtain ⟨dx, xs, f, g⟩ := ro
      cases q : datF l with
      | none => simp only [q] at e; cases e
      | some ps =>
        simp only [q, Option.map_some] at e
        cases e
        rw [RepP]
        exact ⟨a, dx, xs, rfl, n, m, f, datF_rep x q g⟩
    | dic l => cases e
    | tup l => cases e
theorem repX_out {ι X ι' X' : List Addr} {H H' : Hp} (x : OutP ι X H ι' X' H') (k : ∀ d f v, H d = some (.xd [(f, v)]) → H' d = some (.xd [(f, v)])) {o : Option (Str × P)} {da : Option Addr} (r : RepX K ι X H o da) : RepX K ι' X' H' o da := by
  cases o with
  | none => exact r
  | some z =>
    obtain ⟨f, p⟩ := z
    obtain ⟨d, v, e, g, h⟩ := r
    exact ⟨d, v, e, k _ _ _ g, RepP.out x h⟩
theorem pure_ok {n : Nat} {f : List D → Store → R D} : ∀ vs H Q E, spM K n (mPure f) vs H Q E → spM K n f vs H Q E := by
  rintro vs H Q E ⟨hn, ι, X, S, ds, rel, rd, hp⟩
  unfold mPure at hp
  cases e : datAll ds with
  | none => rw [e] at hp; exact hp.elim
  | some ps =>
    simp only [e] at hp
    have y : OutP ι X H [] (ι ++ X) H := ⟨fun a o n m e nt => ⟨e, by simp, fun z => by
      rcases List.mem_append.mp z with z | z
      · exact n z
      · exact m z⟩⟩
    have relX : Rel K [] (ι ++ X) [] H := ⟨rfl, List.nodup_nil, fun i o a e => by simp at e, fun a m => ⟨by simp, by
      rcases List.mem_append.mp m with m | m
      · obtain ⟨u, e1, p1⟩ := rel.pl m; exact ⟨u, e1, p1.1⟩
      · exact (rel.ex a m).2⟩, rel.tabs⟩
    refine ⟨hn, [], ι ++ X, [], ds, relX, datAll_repD y e rd, ?_⟩
    -- the caller's own state, behind
    have back : ∀ ι' H', Ext [] H ι' H' → Ext ι H ι H' ∧ Rel K ι X S H' := fun ι' H' x => by
      have o1 : Out1 ι X H ι X H' := ⟨fun e => e, fun a o n m e nt => ⟨x.old a o (by simp) e nt, n, m⟩⟩
      refine ⟨⟨⟨[], by simp⟩, fun b o _ e z => x.old b o (by simp) e z, fun b m n => absurd m n, x.tab⟩, rel.keep o1 rfl (fun a m => ?_) (fun a m => ⟨(rel.ex a m).1, ?_⟩) (x.tab rel.tabs)⟩
      · obtain ⟨u, eu, pu⟩ := rel.pl m
        rw [eu, x.old a u (by simp) eu pu.1]
      · obtain ⟨_, u, eu, zu⟩ := rel.ex a m
        exact ⟨u, x.old a u (by simp) eu zu, zu⟩
    have yy : ∀ ι' H', OutP ι' (ι ++ X) H' ι X H' := fun ι' H' => ⟨fun a o n m e nt => ⟨e, fun z => m (List.mem_append_left _ z), fun z => m (List.mem_append_right _ z)⟩⟩
    cases q : f ds [] with
    | fail => rw [q] at hp; exact hp
    | exc C x S' =>
      rw [q] at hp
      exact fun ι' H' da x rel' rx => hp ι H' da (back ι' H' x).1 (back ι' H' x).2 (repX_out (yy ι' H') (fun _ _ _ z => z) rx)
    | ok d S' =>
      rw [q] at hp
      cases d with
      | dat p => exact fun ι' H' v x rel' rv => hp ι H' v (back ι' H' x).1 (back ι' H' x).2 (RepP.out (yy ι' H') rv)
      | obj i =>
        simp only at hp
        cases z : frz1 S' i with
        | none => rw [z] at hp; exact hp.elim
        | some p =>
          simp only [z] at hp
          rintro ι' H' v x rel' ⟨a, ea, rfl⟩
          have hna : Free H a := x.new a (List.mem_of_getElem? ea) (by simp)
          exact hp ι H' _ (back ι' H' x).1 (back ι' H' x).2 (frz1_rep rel' (yy ι' H') z ea (rel.ninF hna).1 (rel.ninF hna).2)
end
end M3
namespace M3
open PySem PySem.Spec PyProof.Rows L2
variable [TabsP]
section
variable {K : PySem.W.Frag}
/-- fewer are tracked -/
theorem repD_lt {ι t X : List Addr} {H : Hp} {d : D} {v : V} (e : d.lt ι.length = true) (r : RepD K (ι ++ t) X H d v) : RepD K ι X H d v := by
  cases d with
  | dat p => exact RepP.out (⟨fun a o n m e nt => ⟨e, fun z => n (List.mem_append_left _ z), m⟩⟩ : OutP (ι ++ t) X H ι X H) r
  | obj i =>
    obtain ⟨a, ea, ev⟩ := r
    have hi : i < ι.length := of_decide_eq_true e
    rw [List.getElem?_append_left hi] at ea
    exact ⟨a, ea, ev⟩
theorem repDs_lt {ι t X : List Addr} {H : Hp} : ∀ {ds : List D} {vs : List V}, ds.all (D.lt ι.length) = true → RepDs K (ι ++ t) X H ds vs → RepDs K ι X H ds vs
  | [], _, _, r => r
  | d :: ds, _, e, ⟨y, ys, ev, f, g⟩ => by
    rw [List.all_cons, Bool.and_eq_true] at e
    exact ⟨y, ys, ev, repD_lt e.1 f, repDs_lt e.2 g⟩
theorem repDF_lt {ι t X : List Addr} {H : Hp} : ∀ {ds : List (Str × D)} {vs : List (Str × V)}, ds.all (fun p => p.2.lt ι.length) = true → RepDF K (ι ++ t) X H ds vs → RepDF K ι X H ds vs
  | [], _, _, r => r
  | (_, d) :: ds, _, e, ⟨y, ys, ev, f, g⟩ => by
    rw [List.all_cons, Bool.and_eq_true] at e
    exact ⟨y, ys, ev, repD_lt e.1 f, repDF_lt e.2 g⟩
theorem repDK_lt {ι t X : List Addr} {H : Hp} : ∀ {ds : List (Key × D)} {vs : List (Key × V)}, ds.all (fun p => p.2.lt ι.length) = true → RepDK K (ι ++ t) X H ds vs → RepDK K ι X H ds vs
  | [], _, _, r => r
  | (_, d) :: ds, _, e, ⟨y, ys, ev, f, g⟩ => by
    rw [List.all_cons, Bool.and_eq_true] at e
    exact ⟨y, ys, ev, repD_lt e.1 f, repDK_lt e.2 g⟩
theorem repO_lt {ι t X : List Addr} {H : Hp} {o : O} {a : Addr} (e : o.lt ι.length = true) (r : RepO K (ι ++ t) X H o a) : RepO K ι X H o a := by
  cases o with
  | lst l => obtain ⟨xs, f, g⟩ := r; exact ⟨xs, f, repDs_lt e g⟩
  | ins C l => obtain ⟨dx, xs, f, g⟩ := r; exact ⟨dx, xs, f, repDF_lt e g⟩
  | dic l => obtain ⟨xs, f, g⟩ := r; exact ⟨xs, f, repDK_lt e g⟩
  | tup l => obtain ⟨xs, f, g⟩ := r; exact ⟨xs, f, repDs_lt e g⟩
theorem scope_rel {ι ι' X : List Addr} {S S' : Store} {H H' : Hp} (rel : Rel K ι X S H) (x : Ext ι H ι' H') (rel' : Rel K ι' X S' H') (e : (S'.take S.length).all (O.lt S.length) = true) : Ext ι H ι H' ∧ Rel K ι X (S'.take S.length) H' := by
  obtain ⟨t, rfl⟩ := x.pre
  refine ⟨⟨⟨[], by simp⟩, x.old, fun b m n => absurd m n, x.tab⟩, ?_, rel.nd, fun i o a eo ea => ?_, fun a m => ⟨fun z => (rel'.ex a m).1 (List.mem_append_left _ z), (rel'.ex a m).2⟩, rel'.tabs⟩
  · have h1 := rel'.len
    rw [List.length_append] at h1
    rw [List.length_take, ← rel.len]
    omega
  · have hi := (List.getElem?_eq_some_iff.mp ea).1
    have mo : o ∈ S'.take S.length := List.mem_of_getElem? eo
    have eo2 : S'[i]? = some o := by
      rw [List.getElem?_take] at eo
      split at eo
      · exact eo
      · cases eo
    have q := rel'.at_ i o a eo2 (by rw [List.getElem?_append_left hi]; exact ea)
    rw [← rel.len] at e
    exact repO_lt (List.all_eq_true.mp e o (by rw [rel.len]; exact mo)) q
theorem scope_ok {n : Nat} {f : List D → Store → R D} : ∀ vs H Q E, spM K n (mScope f) vs H Q E → spM K n f vs H Q E := by
  rintro vs H Q E ⟨hn, ι, X, S, ds, rel, rd, hp⟩
  refine ⟨hn, ι, X, S, ds, rel, rd, ?_⟩
  unfold mScope at hp
  cases q : f ds S with
  | fail => rw [q] at hp; exact hp
  | exc C x S' =>
    rw [q] at hp
    simp only at hp
    by_cases e : (S'.take S.length).all (O.lt S.length) = true
    · rw [if_pos e] at hp
      intro ι' H' da x' rel' rx
      obtain ⟨x2, rel2⟩ := scope_rel rel x' rel' e
      obtain ⟨t, et⟩ := x'.pre
      refine hp ι H' da x2 rel2 (repX_out ⟨fun a o n m e nt => ⟨e, fun z => n (by rw [et]; exact List.mem_append_left _ z), m⟩⟩ (fun _ _ _ z => z) rx)
    · rw [if_neg e] at hp; exact hp.elim
  | ok d S' =>
    rw [q] at hp
    cases d with
    | dat p =>
      simp only at hp
      by_cases e : (S'.take S.length).all (O.lt S.length) = true
      · rw [if_pos e] at hp
        intro ι' H' v x' rel' rv
        obtain ⟨x2, rel2⟩ := scope_rel rel x' rel' e
        obtain ⟨t, et⟩ := x'.pre
        exact hp ι H' v x2 rel2 (RepP.out (⟨fun a o n m e nt => ⟨e, fun z => n (by rw [et]; exact List.mem_append_left _ z), m⟩⟩ : OutP ι' X H' ι X H') rv)
      · rw [if_neg e] at hp; exact hp.elim
    | obj i =>
      simp only at hp
      by_cases e : (S'.take S.length).all (O.lt S.length) = true
      · rw [if_pos e] at hp
        rintro ι' H' v x' rel' ⟨a, ea, rfl⟩
        obtain ⟨x2, rel2⟩ := scope_rel rel x' rel' e
        obtain ⟨t, et⟩ := x'.pre
        by_cases hi : i < S.length
        · rw [if_pos hi] at hp
          refine hp ι H' _ x2 rel2 ⟨a, ?_, rfl⟩
          rw [et, List.getElem?_append_left (by rw [rel.len]; exact hi)] at ea
          exact ea
        · rw [if_neg hi] at hp
          cases z : frz1 S' i with
          | none => rw [z] at hp; exact hp.elim
          | some p =>
            simp only [z] at hp
            have na : a ∉ ι := fun m => by
              obtain ⟨j, hj⟩ := List.getElem?_of_mem m
              have h1 := x'.at hj
              have := nd_inj rel'.nd ea h1
              have h2 := (List.getElem?_eq_some_iff.mp hj).1
              rw [rel.len] at h2
              omega
            have ma : a ∉ X := fun m => (rel'.ex a m).1 (List.mem_of_getElem? ea)
            exact hp ι H' _ x2 rel2 (frz1_rep rel' ⟨fun a o n m e nt => ⟨e, fun z => n (by rw [et]; exact List.mem_append_left _ z), m⟩⟩ z ea na ma)
      · rw [if_neg e] at hp; exact hp.elim
/-- C(..), as a promise -/
def spNew (C : Addr) (sp : Sp) : Sp := fun vs H Q E => ∀ x dx, H x = none → H dx = none → dx ≠ x → sp (.ref x :: vs) (upd (upd H dx (.own x)) x (.ins C dx [])) (fun v H2 => v = .non ∧ Q (.ref x) H2) E
theorem new_ok {n : Nat} {C : Addr} {f : List D → Store → R D} : ∀ vs H Q E, spM K n (mkC C f) vs H Q E → spNew C (spM K (n + 1) f) vs H Q E := by
  rintro vs H Q E ⟨hn, ι, X, S, ds, rel, rd, hp⟩ x dx hx hdx ne
  have h1 : (upd H dx (.own x)) x = none := by rw [upd_ne (Ne.symm ne)]; exact hx
  have e1 := ext_alloc (o := .own x) rel hdx
  have r1 := rel.alloc (o := .own x) hdx
  have e2 := ext_alloc (o := .ins C dx []) r1 h1
  have r2 := r1.more (o := .ins C dx []) h1
  have e12 := e1.trans e2
  obtain ⟨r3, e3⟩ := r2.trk (o := .ins C []) (X := X) e12 (Free.of hx) (rel.nin hx).2 ⟨dx, [], upd_same, rfl⟩
  refine ⟨by rw [List.length_cons, hn], ι ++ [x], X, S ++ [.ins C []], .obj S.length :: ds, r3, ⟨_, _, rfl, ⟨x, ?_, rfl⟩, rd.ext e3⟩, ?_⟩
  · rw [← rel.len, List.getElem?_append_right (Nat.le_refl _), Nat.sub_self]
    rfl
  unfold mkC at hp
  cases q : f (.obj S.length :: ds) (S ++ [.ins C []]) with
  | fail => rw [q] at hp; exact hp
  | exc C' x' S' => rw [q] at hp; exact fun ι' H' da y rel' rx => hp ι' H' da (e3.trans y) rel' rx
  | ok d S' =>
    rw [q, R.bind_ok] at hp
    intro ι' H' v y rel' rv
    split at hp
    case h_2 => exact hp.elim
    have rv : RepP K ι' X H' .non v := rv
    rw [RepP] at rv
    refine ⟨rv, hp ι' H' _ (e3.trans y) rel' ⟨x, y.at ?_, rfl⟩⟩
    rw [← rel.len, List.getElem?_append_right (Nat.le_refl _), Nat.sub_self]
    rfl
theorem se_new {W : WX} {C : Addr} {n : Nat} {sp : Sp} {m : List D → Store → R D} {t : TA} {a : DA} (hs : ∀ vs H Q E, spM K n m vs H Q E → spNew C sp vs H Q E) (ha : SA K (wk W) t a) :
    SE K (wk W) (fun σ H Q => t σ H fun vs H1 => ∀ x dx, H1 x = none → H1 dx = none → dx ≠ x → sp (.ref x :: vs) (upd (upd H1 dx (.own x)) x (.ins C dx [])) (fun v H2 => v = .non ∧ Q (.ref x) H2) (WE W σ)) (mDef n m a) := by
  intro ι X S H σ δ Q rel re h
  refine ha ι X S H σ δ _ rel re (Post.bind h fun ι1 H1 ds S1 vs x1 rel1 rv h1 => ?_)
  by_cases hn : ds.length = n
  · rw [if_pos hn] at h1
    exact hs _ _ _ _ ⟨by rw [repDs_len rv]; exact hn, ι1, X, S1, ds, rel1, rv, h1⟩
  · rw [if_neg hn] at h1
    exact h1.elim
theorem spM_fail {n : Nat} {vs : List V} {H : Hp} {Q : VK} {E : XK} (h : spM K n (fun _ _ => .fail) vs H Q E) : False := by
  obtain ⟨_, ι, X, S, ds, _, _, h⟩ := h
  exact h
end
end M3
namespace M3
open PySem PySem.Spec PyProof.Rows L2
variable [TabsP]
theorem OpR.or {X : Cx} {f : Value → Value → Sem Value} {r1 r2 : R2} (h1 : OpR X f r1) (h2 : OpR X f r2) : OpR X f (fun x y H Q => r1 x y H Q ∨ r2 x y H Q) := by
  intro pins s σ H x y v u Q I rx ry h
  rcases h with h | h
  · exact h1 pins s σ H x y v u Q I rx ry h
  · exact h2 pins s σ H x y v u Q I rx ry h
theorem CallR.or {X : Cx} {f : Value} {r1 r2 : List V → Hp → VK → Prop} (h1 : CallR X f r1) (h2 : CallR X f r2) : CallR X f (fun x H Q => r1 x H Q ∨ r2 x H Q) := by
  intro pins s σ H xs us Q I r h
  rcases h with h | h
  · exact h1 pins s σ H xs us Q I r h
  · exact h2 pins s σ H xs us Q I r h
section
variable {K : PySem.W.Frag} {ι X : List Addr} {S : Store} {H : Hp}
theorem rI_inv {i : Int} {v : V} (r : RepD K ι X H (.dat (.int i)) v) : v = .int i := by
  have r : RepP K ι X H (.int i) v := r
  rwa [RepP] at r
theorem rB_inv {i : Bool} {v : V} (r : RepD K ι X H (.dat (.bl i)) v) : v = .bl i := by
  have r : RepP K ι X H (.bl i) v := r
  rwa [RepP] at r
theorem rS_inv {i : Str} {v : V} (r : RepD K ι X H (.dat (.str i)) v) : v = .str i := by
  have r : RepP K ι X H (.str i) v := r
  rwa [RepP] at r
theorem rN_inv {v : V} (r : RepD K ι X H (.dat .non) v) : v = .non := by
  have r : RepP K ι X H .non v := r
  rwa [RepP] at r
theorem rC_inv {v w : V} (r : RepD K ι X H (.dat (.con w)) v) : v = w := by
  have r : RepP K ι X H (.con w) v := r
  rwa [RepP] at r
theorem rT_inv {l : List P} {v : V} (r : RepD K ι X H (.dat (.tup l)) v) : ∃ a xs, v = .ref a ∧ TupAt K ι X H a xs ∧ RepPs K ι X H l xs := by
  have r : RepP K ι X H (.tup l) v := r
  rwa [RepP] at r
theorem rL_inv {l : List P} {v : V} (r : RepD K ι X H (.dat (.lst l)) v) : ∃ a xs, v = .ref a ∧ a ∉ ι ∧ a ∉ X ∧ H a = some (.lst xs) ∧ RepPs K ι X H l xs := by
  have r : RepP K ι X H (.lst l) v := r
  rwa [RepP] at r
end
/-- the items of a list -/
def listD (S : Store) : D → Option (List D)
  | .dat (.lst l) => some (l.map .dat)
  | .obj i => match S[i]? with
    | some (.lst l) => some l
    | _ => none
  | _ => none
/-- the items of a list or tuple -/
def seqD (S : Store) : D → Option (List D)
  | .dat (.tup l) => some (l.map .dat)
  | .dat (.scr l) => some (l.map fun i => .dat (.int i))
  | d => listD S d
def listP (S : Store) (d : D) : Option (List P) := (listD S d).bind datAll
def seqP (S : Store) (d : D) : Option (List P) := (seqD S d).bind datAll
section
variable {K : PySem.W.Frag} {ι X : List Addr} {S : Store} {H : Hp}
theorem listD_rep {d : D} {l : List D} {v : V} (rel : Rel K ι X S H) (e : listD S d = some l) (r : RepD K ι X H d v) : ∃ a xs, v = .ref a ∧ H a = some (.lst xs) ∧ RepDs K ι X H l xs := by
  cases d with
  | obj i =>
    obtain ⟨a, ea, rfl⟩ := r
    unfold listD at e
    simp only at e
    cases es : S[i]? with
    | none => rw [es] at e; cases e
    | some o =>
      rw [es] at e
      cases o with
      | lst l' =>
        cases e
        obtain ⟨xs, f, g⟩ := rel.at_ i _ a es ea
        exact ⟨a, xs, rfl, f, g⟩
      | ins C l' => cases e
      | dic l' => cases e
      | tup l' => cases e
  | dat p =>
    cases p with
    | lst l' =>
      cases e
      obtain ⟨a, xs, rfl, _, _, f, g⟩ := rL_inv r
      exact ⟨a, xs, rfl, f, repDs_dat g⟩
    | _ => cases e
theorem repDs_ints : ∀ l : List Int, RepDs K ι X H (l.map fun i => .dat (.int i)) (l.map V.int)
  | [] => rfl
  | i :: l => ⟨_, _, rfl, rd_int, repDs_ints l⟩
theorem seqD_rep {d : D} {l : List D} {v : V} (rel : Rel K ι X S H) (e : seqD S d = some l) (r : RepD K ι X H d v) : ∃ a xs, v = .ref a ∧ (SqL K H a xs ∨ SqT K H a xs) ∧ RepDs K ι X H l xs := by
  cases d with
  | obj i =>
    obtain ⟨a, xs, ev, f, g⟩ := listD_rep rel (d := .obj i) e r
    exact ⟨a, xs, ev, .inl (SqL.of f), g⟩
  | dat p =>
    cases p with
    | tup l' =>
      cases e
      obtain ⟨a, xs, rfl, f, g⟩ := rT_inv r
      exact ⟨a, xs, rfl, .inr f.sq, repDs_dat g⟩
    | scr l' =>
      cases e
      have r : RepP K ι X H (.scr l') v := r
      rw [RepP] at r
      obtain ⟨a, rfl, f⟩ := r
      exact ⟨a, _, rfl, .inl f.sq, repDs_ints l'⟩
    | lst l' =>
      obtain ⟨a, xs, ev, f, g⟩ := listD_rep rel (d := .dat (.lst l')) e r
      exact ⟨a, xs, ev, .inl (SqL.of f), g⟩
    | _ => cases e
theorem listP_rep {d : D} {l : List P} {v : V} (rel : Rel K ι X S H) (e : listP S d = some l) (r : RepD K ι X H d v) : ∃ a xs, v = .ref a ∧ H a = some (.lst xs) ∧ RepPs K ι X H l xs := by
  unfold listP at e
  cases q : listD S d with
  | none => rw [q] at e; cases e
  | some l' =>
    rw [q] at e
    obtain ⟨a, xs, ev, f, g⟩ := listD_rep rel q r
    exact ⟨a, xs, ev, f, datAll_rep e g⟩
theorem seqP_rep {d : D} {l : List P} {v : V} (rel : Rel K ι X S H) (e : seqP S d = some l) (r : RepD K ι X H d v) : ∃ a xs, v = .ref a ∧ (SqL K H a xs ∨ SqT K H a xs) ∧ RepPs K ι X H l xs := by
  unfold seqP at e
  cases q : seqD S d with
  | none => rw [q] at e; cases e
  | some l' =>
    rw [q] at e
    obtain ⟨a, xs, ev, f, g⟩ := seqD_rep rel q r
    exact ⟨a, xs, ev, f, datAll_rep e g⟩
theorem repPs_app : ∀ {l k : List P} {xs ys : List V}, RepPs K ι X H l xs → RepPs K ι X H k ys → RepPs K ι X H (l ++ k) (xs ++ ys)
  | [], k, xs, ys, r, q => by
    rw [RepPs] at r
    rw [r]
    exact q
  | p :: l, k, xs, ys, r, q => by
    rw [RepPs] at r
    obtain ⟨y, zs, rfl, f, g⟩ := r
    rw [List.cons_append, RepPs]
    exact ⟨y, zs ++ ys, rfl, f, repPs_app g q⟩
end
def iop (g : Int → Int → D) (c : Int → Int → Bool) : Store → D → D → Option D := fun _ x y => match x, y with
  | .dat (.int i), .dat (.int j) => if c i j = true then some (g i j) else none
  | _, _ => none
def dInt (i : Int) : D := .dat (.int i)
def dBl (b : Bool) : D := .dat (.bl b)
section
variable {K : PySem.W.Frag}
theorem iop_ok {g : Int → Int → D} {c : Int → Int → Bool} {C : Int → Int → Prop} {gV : Int → Int → V} (hc : ∀ i j, c i j = true → C i j) (hg : ∀ ι X H i j, RepD K ι X H (g i j) (gV i j)) : R2S K (rI C gV) (iop g c) := by
  intro ι X S H x y v u d Q rel rx ry e k
  unfold iop at e
  split at e
  · rename_i i j
    split at e
    · rename_i h
      cases e
      exact ⟨i, j, rI_inv rx, rI_inv ry, hc i j h, k H _ Ext.refl rel (hg ι X H i j)⟩
    · cases e
  · cases e
def yes2 : Int → Int → Bool := fun _ _ => true
theorem iop0_ok {g : Int → Int → D} {gV : Int → Int → V} (hg : ∀ ι X H i j, RepD K ι X H (g i j) (gV i j)) : R2S K (rI0 gV) (iop g yes2) := by
  intro ι X S H x y v u d Q rel rx ry e k
  unfold iop yes2 at e
  split at e
  · rename_i i j
    rw [if_pos rfl] at e
    cases e
    exact ⟨i, j, rI_inv rx, rI_inv ry, k H _ Ext.refl rel (hg ι X H i j)⟩
  · cases e
theorem R2S.or {r1 r2 : R2} {f f1 f2 : Store → D → D → Option D} (h1 : R2S K r1 f1) (h2 : R2S K r2 f2) (hf : ∀ S x y d, f S x y = some d → f1 S x y = some d ∨ f2 S x y = some d) : R2S K (fun x y H Q => r1 x y H Q ∨ r2 x y H Q) f := by
  intro ι X S H x y v u d Q rel rx ry e k
  rcases hf S x y d e with e | e
  · exact .inl (h1 ι X S H x y v u d Q rel rx ry e k)
  · exact .inr (h2 ι X S H x y v u d Q rel rx ry e k)
def aAdd : Store → D → D → Option D := fun S x y => match x, y with
  | .dat (.int i), .dat (.int j) => some (.dat (.int (i + j)))
  | .dat (.str i), .dat (.str j) => if i.length + j.length ≤ 100000 then some (.dat (.str (i ++ j))) else none
  | .dat (.tup l), .dat (.tup k) => if l.length + k.length ≤ 100000 then some (.dat (.tup (l ++ k))) else none
  | x, y => match listP S x, listP S y with
    | some l, some k => if l.length + k.length ≤ 100000 then some (.dat (.lst (l ++ k))) else none
    | _, _ => none
def rAddM (K : PySem.W.Frag) : R2 := fun x y H Q => rI0 (fun i j => .int (i + j)) x y H Q ∨ (∃ i j, x = .str i ∧ y = .str j ∧ i.length + j.length ≤ sizeLine ∧ Q (.str (i ++ j)) H) ∨ rCatA K x y H Q ∨ rCat x y H Q
theorem op_addM {X : Cx} (h : X.K = K) : OpR X (binaryOp .Add) (rAddM K) := by
  subst h
  exact OpR.or op_add (OpR.or op_add_str (OpR.or op_catA op_cat))
theorem add_ok : R2S K (rAddM K) aAdd := by
  intro ι X S H x y v u d Q rel rx ry e k
  unfold aAdd at e
  split at e
  · cases e
    exact .inl ⟨_, _, rI_inv rx, rI_inv ry, k H _ Ext.refl rel rd_int⟩
  · split at e
    · rename_i hl
      cases e
      exact .inr (.inl ⟨_, _, rS_inv rx, rS_inv ry, small hl, k H _ Ext.refl rel rd_str⟩)
    · cases e
  · rename_i l m
    split at e
    · rename_i hl
      cases e
      obtain ⟨a, xs, rfl, f, g⟩ := rT_inv rx
      obtain ⟨b, ys, rfl, f2, g2⟩ := rT_inv ry
      refine .inr (.inr (.inl ⟨a, b, xs, ys, rfl, rfl, f.sq, f2.sq, small (by rw [repPs_len g, repPs_len g2]; exact hl), fun ex => ?_, fun ex ey => ?_, fun ex ey p hp => ?_⟩))
      · subst ex
        have : l = [] := List.length_eq_zero_iff.mp (repPs_len g).symm
        subst this
        exact k H _ Ext.refl rel ry
      · subst ey
        have : m = [] := List.length_eq_zero_iff.mp (repPs_len g2).symm
        subst this
        rw [List.append_nil] at k
        exact k H _ Ext.refl rel rx
      · exact new_tup rel (repPs_app g g2) hp k
    · cases e
  · split at e
    · rename_i l m e1 e2
      split at e
      · rename_i hl
        cases e
        obtain ⟨a, xs, rfl, f, g⟩ := listP_rep rel e1 rx
        obtain ⟨b, ys, rfl, f2, g2⟩ := listP_rep rel e2 ry
        exact .inr (.inr (.inr ⟨a, b, xs, ys, rfl, rfl, f, f2, small (by rw [repPs_len g, repPs_len g2]; exact hl), fun p hp => new_lst rel (repPs_app g g2) hp k⟩))
      · cases e
    · cases e
def aSub := iop (fun i j => dInt (i - j)) yes2
theorem sub_ok : R2S K (rI0 fun i j => .int (i - j)) aSub := iop0_ok fun _ _ _ _ _ => rd_int
def CMulM (i j : Int) : Prop := CMul i j ∨ CMulW i j
def cMul (i j : Int) : Bool := decide (i.natAbs < 2 ^ 64) || decide (j.natAbs < 2 ^ 64) || decide (i.natAbs.log2 + j.natAbs.log2 < 1000000)
theorem cMul_ok {i j : Int} (h : cMul i j = true) : CMulM i j := by
  unfold cMul at h
  rw [Bool.or_eq_true, Bool.or_eq_true] at h
  rcases h with (h | h) | h
  · exact .inl (.inl (by have := of_decide_eq_true h; omega))
  · exact .inl (.inr (by have := of_decide_eq_true h; omega))
  · exact .inr (show i.natAbs.log2 + j.natAbs.log2 < 1000000 from of_decide_eq_true h)
theorem op_mulMM {X : Cx} : OpR X (binaryOp .Mult) (rI CMulM fun i j => .int (i * j)) := opI fun _ _ _ _ _ _ _ hc q => mul_int q (hc.elim (fun h => h.ok) fun h => h.ok)
/-- a tuple * 1 -/
def rRep1 (K : PySem.W.Frag) : R2 := fun x y H Q => ∃ l xs, x = .ref l ∧ y = .int 1 ∧ SqT K H l xs ∧ Q (.ref l) H
theorem tuple_mul1 (l : Addr) (items : Array Value) (n : Nat) (dd : Option Addr) (sl : Array (Option Value)) (u : Tok) :
    Meets (Builtin.«tuple.__mul__» ⟨[.ref l, .int 1 u], []⟩) (fun _ R s => s.heap.get? l = some { cls := .type "tuple", dict := dd, data := .seq items n, slots := sl } ∧ R (.ok (.ret (Value.ref l))) s) :=
  .of_wp fun prog w A R s h => by
    obtain ⟨hp, g, d, tk, os⟩ := s
    obtain ⟨hl, h⟩ := h
    have f1 := AutoSeq1.idx_int
    have c0 : (decide ((1 : Int) < -(2 ^ 63)) || decide ((1 : Int) ≥ 2 ^ 63)) = false := by decide
    have c1 : (items.isEmpty || (1 : Int) == 1) = true := by simp
    wp_walk using PySem.AutoSeq1.wpAny_loadPart' hl
    repeat (first
      | (refine wpAny_ite_false (decide_eq_false (by rw [c0]; exact Bool.false_ne_true)) ?_; wp_walk using PySem.AutoSeq1.wpAny_loadPart' hl)
      | (refine wpAny_ite_true (decide_eq_true c1) ?_; wp_walk using PySem.AutoSeq1.wpAny_loadPart' hl))
    exact ⟨_, rfl, h⟩
theorem op_rep1 {X : Cx} : OpR X (binaryOp .Mult) (rRep1 X.K) := by
  intro pins s σ H x y v u Q I rx ry h
  obtain ⟨l, xs, rfl, rfl, hT, q⟩ := h
  cases rx
  obtain ⟨t, rfl⟩ := ry
  obtain ⟨its, r, ⟨⟨cls, dd, data, sl⟩, ho, hc, n, hd⟩, hs⟩ := I.tuple hT
  simp only at hc hd
  subst hc hd
  refine wpAny_binaryOp_repeat_ref (T := "tuple") (U := "int") (by decide) ⟨_, ho, rfl⟩ (fun s' => typeIs_int s' 1 t) noFill_tuple_mul F.fills_int_mul F.slot_int_rmul repeat_tuple F.slot_int_index.lookup
    (call_meets F.slot_int_rmul (typeIs_int s 1 t) F.entry_int_rmul (F.args_int_rmul_2 _ _) (int_rmul_tuple 1 t l its.toArray n dd sl)
      ⟨ho, rfl, ⟨_, ho, rfl⟩, call_meets F.slot_tuple_mul ⟨_, ho, rfl⟩ F.entry_tuple_mul (F.args_tuple_mul_2 _ _) (tuple_mul1 l its.toArray n dd sl t) ⟨ho, ?_⟩⟩)
  exact ⟨.ref l, H, I, rfl, q⟩
def rMulM (K : PySem.W.Frag) : R2 := fun x y H Q => rI CMulM (fun i j => .int (i * j)) x y H Q ∨ rRep x y H Q ∨ rRepT K x y H Q ∨ rRep1 K x y H Q
theorem op_mulM {X : Cx} (h : X.K = K) : OpR X (binaryOp .Mult) (rMulM K) := by
  subst h
  exact OpR.or op_mulMM (OpR.or op_rep (OpR.or op_repT op_rep1))
def repP (n : Nat) (l : List P) : List P := (List.replicate n l).flatten
theorem repP_rep {ι X : List Addr} {H : Hp} {l : List P} {xs : List V} (r : RepPs K ι X H l xs) : ∀ n, RepPs K ι X H (repP n l) (List.replicate n xs).flatten
  | 0 => by
    show RepPs K ι X H [] []
    rw [RepPs]
  | n + 1 => by
    unfold repP
    rw [List.replicate_succ, List.flatten_cons, List.replicate_succ, List.flatten_cons]
    exact repPs_app r (repP_rep r n)
def aMul : Store → D → D → Option D := fun S x y => match x, y with
  | .dat (.int i), .dat (.int j) => if cMul i j = true then some (.dat (.int (i * j))) else none
  | .dat (.tup l), .dat (.int j) => if l ≠ [] ∧ 1 ≤ j ∧ j ≤ 1000 ∧ l.length ≤ 1000 then some (.dat (.tup (repP j.toNat l))) else none
  | x, .dat (.int j) => match listP S x with
    | some l => if j ≤ 1000000 ∧ 0 ≤ j ∧ l.length * j.toNat ≤ 100000 then some (.dat (.lst (repP j.toNat l))) else none
    | none => none
  | _, _ => none
theorem mul_ok : R2S K (rMulM K) aMul := by
  intro ι X S H x y v u d Q rel rx ry e k
  unfold aMul at e
  split at e
  · split at e
    · rename_i h
      cases e
      exact .inl ⟨_, _, rI_inv rx, rI_inv ry, cMul_ok h, k H _ Ext.refl rel rd_int⟩
    · cases e
  · split at e
    · rename_i h
      cases e
      obtain ⟨a, xs, rfl, f, g⟩ := rT_inv rx
      rename_i l j
      by_cases j1 : j = 1
      · subst j1
        have e1 : repP (1 : Int).toNat l = l := by
          show (List.replicate 1 l).flatten = l
          simp
        refine .inr (.inr (.inr ⟨a, xs, rfl, rI_inv ry, f.sq, k H _ Ext.refl rel ?_⟩))
        rw [e1]
        exact rx
      · refine .inr (.inr (.inl ⟨a, _, xs, rfl, rI_inv ry, f.sq, fun z => h.1 ?_, by omega, h.2.2.1, by rw [repPs_len g]; exact h.2.2.2, fun p hp => new_tup rel (repP_rep g _) hp k⟩))
        subst z
        exact List.length_eq_zero_iff.mp (repPs_len g).symm
    · cases e
  · split at e
    · rename_i l e1
      split at e
      · rename_i h
        cases e
        obtain ⟨a, xs, rfl, f, g⟩ := listP_rep rel e1 rx
        exact .inr (.inl ⟨a, _, xs, rfl, rI_inv ry, f, by omega, by omega, small (by rw [repPs_len g]; exact h.2.2), fun p hp => new_lst rel (repP_rep g _) hp k⟩)
      · cases e
    · cases e
  · cases e
def aMod := iop (fun i j => dInt (i % j)) fun _ j => decide (0 < j)
theorem mod_ok : R2S K (rI (fun _ j => 0 < j) fun i j => .int (i % j)) aMod := iop_ok (fun _ _ h => of_decide_eq_true h) fun _ _ _ _ _ => rd_int
def aDiv := iop (fun i j => dInt (i / j)) fun _ j => decide (0 < j) && decide (j.natAbs.log2 < 9000)
theorem div_ok : R2S K (rI CDivW fun i j => .int (i / j)) aDiv := iop_ok (fun _ _ h => by
  rw [Bool.and_eq_true] at h
  exact ⟨of_decide_eq_true h.1, of_decide_eq_true h.2⟩) fun _ _ _ _ _ => rd_int
def aPow := iop (fun i j => dInt (i ^ j.toNat)) fun i j => decide (0 ≤ j) && decide (j ≤ 1000000) && decide (i.natAbs < 2 ^ 64)
theorem pow_ok : R2S K (rI CPow fun i j => .int (i ^ j.toNat)) aPow := iop_ok (fun _ _ h => by
  rw [Bool.and_eq_true, Bool.and_eq_true] at h
  exact ⟨of_decide_eq_true h.1.1, of_decide_eq_true h.1.2, of_decide_eq_true h.2⟩) fun _ _ _ _ _ => rd_int
def aLt := iop (fun i j => dBl (decide (i < j))) yes2
def aLe := iop (fun i j => dBl (decide (i ≤ j))) yes2
def aGt := iop (fun i j => dBl (decide (j < i))) yes2
def aGe := iop (fun i j => dBl (decide (j ≤ i))) yes2
theorem lt_ok : R2S K (rI0 fun i j => .bl (decide (i < j))) aLt := iop0_ok fun _ _ _ _ _ => rd_bl
theorem le_ok : R2S K (rI0 fun i j => .bl (decide (i ≤ j))) aLe := iop0_ok fun _ _ _ _ _ => rd_bl
theorem gt_ok : R2S K (rI0 fun i j => .bl (decide (j < i))) aGt := iop0_ok fun _ _ _ _ _ => rd_bl
theorem ge_ok : R2S K (rI0 fun i j => .bl (decide (j ≤ i))) aGe := iop0_ok fun _ _ _ _ _ => rd_bl
def aNeg : Store → D → Option D := fun _ x => match x with
  | .dat (.int i) => some (.dat (.int (-i)))
  | _ => none
theorem neg_ok : R1S K (rU fun i => .int (-i)) aNeg := by
  intro ι X S H x v d Q rel rx e k
  unfold aNeg at e
  split at e
  · cases e
    exact ⟨_, rI_inv rx, k H _ Ext.refl rel rd_int⟩
  · cases e
end
end M3
namespace M3
open PySem PySem.Spec PyProof.Rows L2
variable [TabsP]
mutual
def toPy : P → PyData
  | .non => .none
  | .bl b => .bool b
  | .int i => .int i
  | .str s => .str s
  | .tup l => .tuple (toPys l)
  | .lst l => .list (toPys l)
  | _ => .none
def toPys : List P → List PyData
  | [] => []
  | p :: ps => toPy p :: toPys ps
end
mutual
def okD : Nat → P → Bool
  | 0, _ => false
  | _ + 1, .non => true
  | _ + 1, .bl _ => true
  | _ + 1, .int _ => true
  | _ + 1, .str s => PyData.strOk s
  | n + 1, .tup l => okDs n l
  | n + 1, .lst l => okDs n l
  | _ + 1, .dic _ => false
  | _ + 1, .ins _ _ => false
  | _ + 1, .con _ => false
  | _ + 1, .scr _ => false
def okDs : Nat → List P → Bool
  | _, [] => true
  | n, p :: ps => okD n p && okDs n ps
end
def eqP (p q : P) : Bool := PyData.eqv (toPy p) (toPy q)
mutual
theorem okD_lay : ∀ (n : Nat) (p : P), okD n p = true → (toPy p).canLay0 = true ∧ (toPy p).depth ≤ n
  | 0, _, h => by rw [okD] at h; cases h
  | n + 1, .non, _ => ⟨rfl, by rw [toPy, PyData.depth]; first | exact Nat.zero_le _ | omega⟩
  | n + 1, .bl _, _ => ⟨rfl, by rw [toPy, PyData.depth]; first | exact Nat.zero_le _ | omega⟩
  | n + 1, .int _, _ => ⟨rfl, by rw [toPy, PyData.depth]; first | exact Nat.zero_le _ | omega⟩
  | n + 1, .str _, h => ⟨by rw [okD] at h; exact h, by rw [toPy, PyData.depth]; first | exact Nat.zero_le _ | omega⟩
  | n + 1, .tup l, h => by
    rw [okD] at h
    obtain ⟨a, b⟩ := okDs_lay n l h
    rw [toPy]
    exact ⟨a, Nat.succ_le_succ b⟩
  | n + 1, .lst l, h => by
    rw [okD] at h
    obtain ⟨a, b⟩ := okDs_lay n l h
    rw [toPy]
    exact ⟨a, Nat.succ_le_succ b⟩
  | n + 1, .dic _, h => by rw [okD] at h; first | cases h | (intro; contradiction)
  | n + 1, .ins _ _, h => by rw [okD] at h; first | cases h | (intro; contradiction)
  | n + 1, .con _, h => by rw [okD] at h; first | cases h | (intro; contradiction)
  | n + 1, .scr _, h => by rw [okD] at h; first | cases h | (intro; contradiction)
theorem okDs_lay : ∀ (n : Nat) (p : List P), okDs n p = true → PyData.canLayAll0 (toPys p) = true ∧ PyData.depthAll (toPys p) ≤ n
  | n, [], _ => ⟨rfl, Nat.zero_le _⟩
  | n, p :: ps, h => by
    rw [okDs, Bool.and_eq_true] at h
    obtain ⟨a, b⟩ := okD_lay n p h.1
    obtain ⟨c, d⟩ := okDs_lay n ps h.2
    rw [toPys]
    exact ⟨Bool.and_eq_true_iff.mpr ⟨a, c⟩, Nat.max_le.mpr ⟨b, d⟩⟩
end
mutual
theorem okD_dp {K : PySem.W.Frag} {ι X : List Addr} {H : Hp} : ∀ (n : Nat) (p : P) (v : V), okD n p = true → RepP K ι X H p v → Dp K H v (toPy p)
  | 0, _, _, h, _ => by rw [okD] at h; cases h
  | n + 1, .non, _, _, r => by rw [RepP] at r; rw [r, toPy]; exact .non
  | n + 1, .bl _, _, _, r => by rw [RepP] at r; rw [r, toPy]; exact .bl _
  | n + 1, .int _, _, _, r => by rw [RepP] at r; rw [r, toPy]; exact .int _
  | n + 1, .str _, _, _, r => by rw [RepP] at r; rw [r, toPy]; exact .str _
  | n + 1, .tup l, v, h, r => by
    rw [okD] at h
    rw [RepP] at r
    obtain ⟨a, xs, e, f, g⟩ := r
    rw [e, toPy]
    exact .tup f.sq (okDs_dp n l xs h g)
  | n + 1, .lst l, v, h, r => by
    rw [okD] at h
    rw [RepP] at r
    obtain ⟨a, xs, e, _, _, f, g⟩ := r
    rw [e, toPy]
    exact .lst (SqL.of f) (okDs_dp n l xs h g)
  | n + 1, .dic _, _, h, _ => by rw [okD] at h; first | cases h | (intro; contradiction)
  | n + 1, .ins _ _, _, h, _ => by rw [okD] at h; first | cases h | (intro; contradiction)
  | n + 1, .con _, _, h, _ => by rw [okD] at h; first | cases h | (intro; contradiction)
  | n + 1, .scr _, _, h, _ => by rw [okD] at h; first | cases h | (intro; contradiction)
theorem okDs_dp {K : PySem.W.Frag} {ι X : List Addr} {H : Hp} : ∀ (n : Nat) (p : List P) (v : List V), okDs n p = true → RepPs K ι X H p v → DpAll K H v (toPys p)
  | n, [], v, _, r => by
    rw [RepPs] at r
    rw [r, toPys]
    exact .nil
  | n, p :: ps, v, h, r => by
    rw [okDs, Bool.and_eq_true] at h
    rw [RepPs] at r
    obtain ⟨y, ys, e, f, g⟩ := r
    rw [e, toPys]
    exact .cons (okD_dp n p y h.1 f) (okDs_dp n ps ys h.2 g)
end
/-- data, a list of data among the objects too -/
def datOf (S : Store) : D → Option P
  | .dat p => some p
  | .obj i => match S[i]? with
    | some (.lst l) => (datAll l).map .lst
    | _ => none
def eqD (S : Store) (x y : D) : Option Bool := match x, y with
  | .dat (.int i), .dat (.int j) => some (decide (i = j))
  | .dat (.str i), .dat (.str j) => some (decide (i = j))
  | .dat (.bl i), .dat (.bl j) => some (decide (i = j))
  | .dat .non, .dat .non => some true
  | .dat .non, .dat (.int _) => some false
  | .dat (.int _), .dat .non => some false
  | x, y => match datOf S x, datOf S y with
    | some p, some q => if okD 60 p = true ∧ okD 60 q = true then some (eqP p q) else none
    | _, _ => none
def aEq : Store → D → D → Option D := fun S x y => (eqD S x y).map dBl
def aNe : Store → D → D → Option D := fun S x y => (eqD S x y).map fun b => dBl (!b)
def rEqM (K : PySem.W.Frag) : R2 := fun x y H Q => rEq x y H Q ∨ rEqD K x y H Q
def rNeM (K : PySem.W.Frag) : R2 := fun x y H Q => rNe x y H Q ∨ rNeD K x y H Q
section
variable {K : PySem.W.Frag} {ι X : List Addr} {S : Store} {H : Hp}
theorem op_eqM {X : Cx} (h : X.K = K) (hu : X.A.units + 64 < cLine) : OpR X (compareOp .Eq) (rEqM K) := by
  subst h
  exact OpR.or op_eq (op_eqD hu)
theorem op_neM {X : Cx} (h : X.K = K) (hu : X.A.units + 64 < cLine) : OpR X (compareOp .NotEq) (rNeM K) := by
  subst h
  exact OpR.or op_ne (op_neD hu)
theorem datOf_dp {x : D} {p : P} {v : V} {n : Nat} (rel : Rel K ι X S H) (e : datOf S x = some p) (o : okD n p = true) (r : RepD K ι X H x v) : Dp K H v (toPy p) := by
  cases x with
  | dat q =>
    cases e
    exact okD_dp n _ v o r
  | obj i =>
    obtain ⟨a, ea, rfl⟩ := r
    unfold datOf at e
    simp only at e
    cases es : S[i]? with
    | none => rw [es] at e; cases e
    | some ob =>
      rw [es] at e
      cases ob with
      | ins C l => cases e
      | dic l => cases e
      | tup l => cases e
      | lst l =>
        cases q : datAll l with
        | none => simp only [q] at e; cases e
        | some ps =>
          simp only [q, Option.map_some] at e
          cases e
          obtain ⟨xs, f, g⟩ := rel.at_ i _ a es ea
          cases n with
          | zero => rw [okD] at o; cases o
          | succ n =>
            rw [okD] at o
            rw [toPy]
            exact .lst (SqL.of f) (okDs_dp n ps xs o (datAll_rep q g))
theorem eqD_cases {x y : D} {v u : V} {b : Bool} (rel : Rel K ι X S H) (rx : RepD K ι X H x v) (ry : RepD K ι X H y u) (e : eqD S x y = some b) :
    (scal v u = true ∧ decide (v = u) = b) ∨ ∃ d f, Dp K H v d ∧ Dp K H u f ∧ SeqAt.shaped d = true ∧ SeqAt.shaped f = true ∧ PyData.eqv d f = b := by
  unfold eqD at e
  split at e
  · cases e
    rw [rI_inv rx, rI_inv ry]
    exact .inl ⟨rfl, by simp⟩
  · cases e
    rw [rS_inv rx, rS_inv ry]
    exact .inl ⟨rfl, by simp⟩
  · cases e
    rw [rB_inv rx, rB_inv ry]
    exact .inl ⟨rfl, by simp⟩
  · cases e
    rw [rN_inv rx, rN_inv ry]
    exact .inl ⟨rfl, by simp⟩
  · cases e
    rw [rN_inv rx, rI_inv ry]
    exact .inl ⟨rfl, by simp⟩
  · cases e
    rw [rI_inv rx, rN_inv ry]
    exact .inl ⟨rfl, by simp⟩
  · split at e
    · rename_i p q e1 e2
      split at e
      · rename_i h
        cases e
        obtain ⟨l1, d1⟩ := okD_lay 60 p h.1
        obtain ⟨l2, d2⟩ := okD_lay 60 q h.2
        refine .inr ⟨_, _, datOf_dp rel e1 h.1 rx, datOf_dp rel e2 h.2 ry, ?_, ?_, rfl⟩
        · exact Bool.and_eq_true_iff.mpr ⟨l1, decide_eq_true (by omega)⟩
        · exact Bool.and_eq_true_iff.mpr ⟨l2, decide_eq_true (by omega)⟩
      · cases e
    · cases e
end
section
variable {K : PySem.W.Frag}
theorem eq_ok : R2S K (rEqM K) aEq := by
  intro ι X S H x y v u d Q rel rx ry e k
  unfold aEq at e
  cases q : eqD S x y with
  | none => rw [q] at e; cases e
  | some b =>
    rw [q] at e
    cases e
    rcases eqD_cases rel rx ry q with ⟨h1, h2⟩ | ⟨d, f, h1, h2, h3, h4, h5⟩
    · exact .inl ⟨h1, by rw [h2]; exact k H _ Ext.refl rel rd_bl⟩
    · exact .inr ⟨d, f, h1, h2, h3, h4, by rw [h5]; exact k H _ Ext.refl rel rd_bl⟩
theorem ne_ok : R2S K (rNeM K) aNe := by
  intro ι X S H x y v u d Q rel rx ry e k
  unfold aNe at e
  cases q : eqD S x y with
  | none => rw [q] at e; cases e
  | some b =>
    rw [q] at e
    cases e
    rcases eqD_cases rel rx ry q with ⟨h1, h2⟩ | ⟨d, f, h1, h2, h3, h4, h5⟩
    · exact .inl ⟨h1, by rw [h2]; exact k H _ Ext.refl rel rd_bl⟩
    · exact .inr ⟨d, f, h1, h2, h3, h4, by rw [h5]; exact k H _ Ext.refl rel rd_bl⟩
def isN : D → Option Bool
  | .dat .non => some true
  | .dat (.con v) => some (decide (v = .non))
  | _ => some false
def aIsN : Store → D → D → Option D := fun _ x y => match y with
  | .dat .non => (isN x).map dBl
  | _ => none
def aNotN : Store → D → D → Option D := fun _ x y => match y with
  | .dat .non => (isN x).map fun b => dBl (!b)
  | _ => none
theorem isN_ok {ι X : List Addr} {H : Hp} {x : D} {v : V} {b : Bool} (r : RepD K ι X H x v) (e : isN x = some b) : decide (v = .non) = b := by
  cases x with
  | obj i =>
    obtain ⟨a, _, rfl⟩ := r
    cases e
    rfl
  | dat p =>
    have r : RepP K ι X H p v := r
    cases p <;> rw [RepP] at r
    · cases e; rw [r]; rfl
    · cases e; rw [r]; rfl
    · cases e; rw [r]; rfl
    · cases e; rw [r]; rfl
    · cases e; obtain ⟨a, xs, rfl, _⟩ := r; rfl
    · cases e; obtain ⟨a, xs, rfl, _⟩ := r; rfl
    · cases e; obtain ⟨a, xs, rfl, _⟩ := r; rfl
    · cases e; obtain ⟨a, dx, xs, rfl, _⟩ := r; rfl
    · cases e; rw [r]
    · cases e; obtain ⟨a, rfl, _⟩ := r; rfl
theorem isN_okR : R2S K (fun x y H Q => y = .non ∧ Q (.bl (decide (x = .non))) H) aIsN := by
  intro ι X S H x y v u d Q rel rx ry e k
  unfold aIsN at e
  split at e
  · cases q : isN x with
    | none => rw [q] at e; cases e
    | some b =>
      rw [q] at e
      cases e
      refine ⟨rN_inv ry, ?_⟩
      rw [isN_ok rx q]
      exact k H _ Ext.refl rel rd_bl
  · cases e
def flatP : P → Bool
  | .non => true
  | .bl _ => true
  | .int _ => true
  | .str _ => true
  | _ => false
/-- == of flat things -/
def eqF : P → P → Bool
  | .non, .non => true
  | .bl a, .bl b => a == b
  | .bl a, .int b => (if a then 1 else 0) == b
  | .int a, .bl b => a == (if b then 1 else 0)
  | .int a, .int b => a == b
  | .str a, .str b => a == b
  | _, _ => false
theorem flat_rep {ι X : List Addr} {H : Hp} {p : P} {v : V} (e : flatP p = true) (r : RepP K ι X H p v) : flatV v = true := by
  cases p <;> first | (rw [RepP] at r; rw [r]; rfl) | cases e
theorem eqF_rep {ι X : List Addr} {H : Hp} {p q : P} {v u : V} (e : flatP p = true) (f : flatP q = true) (r : RepP K ι X H p v) (s : RepP K ι X H q u) : eqV v u = eqF p q := by
  cases p <;> first | exact (Bool.false_ne_true e).elim | skip
  all_goals cases q <;> first | exact (Bool.false_ne_true f).elim | (rw [RepP] at r; rw [RepP] at s; rw [r, s]; rfl)
theorem flats_rep {ι X : List Addr} {H : Hp} : ∀ {ps : List P} {vs : List V}, ps.all flatP = true → RepPs K ι X H ps vs → vs.all flatV = true
  | [], vs, _, r => by rw [RepPs] at r; rw [r]; rfl
  | p :: ps, vs, e, r => by
    rw [RepPs] at r
    obtain ⟨y, ys, rfl, f, g⟩ := r
    rw [List.all_cons, Bool.and_eq_true] at e ⊢
    exact ⟨flat_rep e.1 f, flats_rep e.2 g⟩
def inP (x : P) (l : List P) : Bool := l.any fun y => eqF y x
theorem inP_rep {ι X : List Addr} {H : Hp} {x : P} {v : V} (ex : flatP x = true) (rx : RepP K ι X H x v) : ∀ {ps : List P} {vs : List V}, ps.all flatP = true → RepPs K ι X H ps vs → inV v vs = inP x ps
  | [], vs, _, r => by rw [RepPs] at r; rw [r]; rfl
  | p :: ps, vs, e, r => by
    rw [RepPs] at r
    obtain ⟨y, ys, rfl, f, g⟩ := r
    rw [List.all_cons, Bool.and_eq_true] at e
    have ih := inP_rep ex rx e.2 g
    unfold inV inP at ih ⊢
    rw [List.any_cons, List.any_cons, ih, eqF_rep e.1 ex f rx]
/-- a text of one sign -/
def oneSign (s : Str) : Option Nat := match s.cps.toList with
  | [c] => some c
  | _ => none
theorem oneSign_eq {s : Str} {c : Nat} (e : oneSign s = some c) : s = ⟨#[c]⟩ := by
  unfold oneSign at e
  split at e
  · rename_i q
    cases e
    obtain ⟨⟨l⟩⟩ := s
    have : l = [c] := q
    rw [this]
  · cases e
def inD (S : Store) (x y : D) : Option Bool := match x, y with
  | .dat (.str s), .dat (.str z) => (oneSign s).map fun c => decide (c ∈ z.cps.toList)
  | .dat p, y => match seqP S y with
    | some l => if flatP p = true ∧ l.all flatP = true then some (inP p l) else none
    | none => none
  | _, _ => none
def aIn : Store → D → D → Option D := fun S x y => (inD S x y).map dBl
def aNotIn : Store → D → D → Option D := fun S x y => (inD S x y).map fun b => dBl (!b)
def rInM (K : PySem.W.Frag) : R2 := fun x y H Q => rIn K false x y H Q ∨ (∃ (c : Nat) (z : Str), x = .str ⟨#[c]⟩ ∧ y = .str z ∧ Q (.bl (decide (c ∈ z.cps.toList))) H)
def rNotInM (K : PySem.W.Frag) : R2 := fun x y H Q => rIn K true x y H Q ∨ (∃ (c : Nat) (z : Str), x = .str ⟨#[c]⟩ ∧ y = .str z ∧ Q (.bl (!decide (c ∈ z.cps.toList))) H)
theorem op_inM {X : Cx} (h : X.K = K) : OpR X (compareOp .In) (rInM K) := by
  subst h
  exact OpR.or op_in_seq op_in_sign
theorem op_notInM {X : Cx} (h : X.K = K) : OpR X (compareOp .NotIn) (rNotInM K) := by
  subst h
  exact OpR.or op_notIn_seq op_notIn_sign
theorem in_cases {ι X : List Addr} {S : Store} {H : Hp} {x y : D} {v u : V} {b : Bool} (rel : Rel K ι X S H) (rx : RepD K ι X H x v) (ry : RepD K ι X H y u) (e : inD S x y = some b) :
    (∃ p xs, u = .ref p ∧ (SqL K H p xs ∨ SqT K H p xs) ∧ flatV v = true ∧ xs.all flatV = true ∧ inV v xs = b) ∨ ∃ (c : Nat) (z : Str), v = .str ⟨#[c]⟩ ∧ u = .str z ∧ decide (c ∈ z.cps.toList) = b := by
  unfold inD at e
  split at e
  · rename_i s z
    cases q : oneSign s with
    | none => rw [q] at e; cases e
    | some c =>
      rw [q] at e
      cases e
      exact .inr ⟨c, _, by rw [rS_inv rx, oneSign_eq q], rS_inv ry, rfl⟩
  · split at e
    · rename_i l e1
      split at e
      · rename_i h
        cases e
        obtain ⟨a, xs, rfl, f, g⟩ := seqP_rep rel e1 ry
        exact .inl ⟨a, xs, rfl, f, flat_rep h.1 rx, flats_rep h.2 g, inP_rep h.1 rx h.2 g⟩
      · cases e
    · cases e
  · cases e
theorem in_ok : R2S K (rInM K) aIn := by
  intro ι X S H x y v u d Q rel rx ry e k
  unfold aIn at e
  cases q : inD S x y with
  | none => rw [q] at e; cases e
  | some b =>
    rw [q] at e
    cases e
    rcases in_cases rel rx ry q with ⟨p, xs, h1, h2, h3, h4, h5⟩ | ⟨c, z, h1, h2, h3⟩
    · refine .inl ⟨p, xs, h1, h2, h3, h4, ?_⟩
      rw [if_neg Bool.false_ne_true, h5]
      exact k H _ Ext.refl rel rd_bl
    · exact .inr ⟨c, z, h1, h2, by rw [h3]; exact k H _ Ext.refl rel rd_bl⟩
theorem notIn_ok : R2S K (rNotInM K) aNotIn := by
  intro ι X S H x y v u d Q rel rx ry e k
  unfold aNotIn at e
  cases q : inD S x y with
  | none => rw [q] at e; cases e
  | some b =>
    rw [q] at e
    cases e
    rcases in_cases rel rx ry q with ⟨p, xs, h1, h2, h3, h4, h5⟩ | ⟨c, z, h1, h2, h3⟩
    · refine .inl ⟨p, xs, h1, h2, h3, h4, ?_⟩
      rw [if_pos rfl, h5]
      exact k H _ Ext.refl rel rd_bl
    · exact .inr ⟨c, z, h1, h2, by rw [h3]; exact k H _ Ext.refl rel rd_bl⟩
end
end M3
namespace PySem
open Sem (wp)
open AutoSeq1 (wpAny_loadPart')
end PySem
namespace W2
open PySem PySem.Spec PyProof.Rows L2
/-- the written dict at d: its pairs, each value by what is read of it -/
structure KD (K : PySem.W.Frag) (w : World) (d : Addr) (kvs : List (Str × V)) : Prop where
  ex : ∃ es n, KDict K w d es n
  hit : ∀ z v, kvs.lookup z = some v → ∃ u, PySem.W.nsIn K d z = some (some u) ∧ RelV v u
  miss : ∀ z, kvs.lookup z = none → PySem.W.nsIn K d z = some none
end W2
namespace M3
open PySem PySem.Spec PyProof.Rows L2
variable [TabsP]
def iM (K : PySem.W.Frag) (te : TE) : TI := fun σ H R => te σ H fun x H1 => (∃ a, x = .ref a ∧ (∃ xs, SqL K H1 a xs) ∧ R (Itl K a) H1) ∨ (∃ a, x = .ref a ∧ (∃ xs, SqT K H1 a xs) ∧ R (Itt K a) H1) ∨ ∃ z, x = .str z ∧ R (Its z) H1
theorem pi_M {X : Cx} {K : PySem.W.Frag} {tg e : Expr} {te : TE} (hK : X.K = K) (he : PE X e te) : PI X tg e (iM K te) := by
  subst hK
  refine ⟨fun pins s σ H R I h => ?_⟩
  refine thn (he.run pins s σ H _ I h) fun v s1 ⟨x, H1, I1, r1, q1⟩ => ?_
  rcases q1 with ⟨a, e, ⟨xs, hq⟩, q⟩ | ⟨a, e, ⟨xs, hq⟩, q⟩ | ⟨z, e, q⟩
  · subst e
    cases r1
    obtain ⟨its, rv, p, hz⟩ := I1.list hq
    refine wpAny_pyIter_list p.isList ?_
    refine ⟨s1.heap.objs.size, [s1.heap.objs.size], _, _, H1, rfl, I1.kept (t' := s1.toks) fun b o e => Heap.get?_push_of_some _ e, turn_list a _, ⟨_, Heap.get?_push_size _ rfl, rfl, rfl⟩, fun b hb => ?_, q⟩
    have e : b = s1.heap.objs.size := by simpa using hb
    subst e
    exact I1.fpOk (Nat.le_refl _) (I1.hok.fresh (Nat.le_refl _))
  · subst e
    cases r1
    obtain ⟨its, rv, p, hz⟩ := I1.tuple hq
    refine wpAny_pyIter_tuple (show s1.heap.IsTuple a its.toArray from p) ?_
    refine ⟨s1.heap.objs.size, [s1.heap.objs.size], _, _, H1, rfl, I1.kept (t' := s1.toks) fun b o e => Heap.get?_push_of_some _ e, turn_tuple a _, ⟨_, Heap.get?_push_size _ rfl, rfl, rfl⟩, fun b hb => ?_, q⟩
    have e : b = s1.heap.objs.size := by simpa using hb
    subst e
    exact I1.fpOk (Nat.le_refl _) (I1.hok.fresh (Nat.le_refl _))
  · subst e
    obtain ⟨t, rfl⟩ := r1
    cases ha : z.cps.all (· < 128)
    · exact wpAny_pyIter_wide ha (pi_one (tk := s1.toks) I1 _ (turn_str _ z t "str_iterator" (.inr rfl)) ⟨_, Heap.get?_push_size _ rfl, rfl, rfl⟩ q)
    · exact wpAny_pyIter_ascii ha (pi_one (tk := s1.toks) I1 _ (turn_str _ z t "str_ascii_iterator" (.inl rfl)) ⟨_, Heap.get?_push_size _ rfl, rfl, rfl⟩ q)
/-- the signs of a text -/
def signs (z : Str) : List P := z.cps.toList.map fun c => .str ⟨#[c]⟩
def wkOf (S : Store) : D → Option Wk
  | .obj i => match S[i]? with
    | some (.lst _) => some (.ob i)
    | _ => none
  | .dat (.tup l) => some (.items (l.map .dat))
  | .dat (.lst l) => some (.items (l.map .dat))
  | .dat (.scr l) => some (.items (l.map fun i => .dat (.int i)))
  | .dat (.str z) => some (.items ((signs z).map .dat))
  | _ => none
def mWalk (a : DE) : DI := fun δ S => (a δ S).bind fun d S1 => oR (wkOf S1 d) S1
section
variable {K : PySem.W.Frag} {W : L2.St → WK}
theorem repPs_at {ι X : List Addr} {H : Hp} : ∀ {l : List P} {xs : List V} {i : Nat} {p : P}, RepPs K ι X H l xs → l[i]? = some p → ∃ x, xs[i]? = some x ∧ RepP K ι X H p x := by
  intro l xs i p r e
  obtain ⟨x, ex, rx⟩ := repDs_at (repDs_dat r) (d := .dat p) (i := i) (by rw [List.getElem?_map, e]; rfl)
  exact ⟨x, ex, rx⟩
theorem itOk_lst {ι X : List Addr} {H : Hp} {a : Addr} {xs : List V} {l : List D} (h : ∀ ι' X' H', Out1 ι X H ι' X' H' → H' a = some (.lst xs) ∧ RepDs K ι' X' H' l xs) : ItOk K (Itl K a) l ι X H := by
  intro ι' X' H' x
  obtain ⟨e, r⟩ := h ι' X' H' x
  have hl := repDs_len r
  refine ⟨fun i hi => ?_, ⟨xs, SqL.of e, by omega⟩, fun i x H'' d S y ed rel => ?_⟩
  · obtain ⟨v, ev, _⟩ := repDs_at r (List.getElem?_eq_getElem hi)
    exact ⟨xs, v, SqL.of e, ev⟩
  · obtain ⟨rfl, y⟩ := y
    obtain ⟨v, ev, rv⟩ := repDs_at r ed
    have := y xs (SqL.of e)
    rw [ev] at this
    cases this
    exact ⟨rel, Ext.refl, rv⟩
theorem itOk_sqL {ι X : List Addr} {H : Hp} {a : Addr} {xs : List V} {l : List D} (h : ∀ ι' X' H', Out1 ι X H ι' X' H' → SqL K H' a xs ∧ RepDs K ι' X' H' l xs) : ItOk K (Itl K a) l ι X H := by
  intro ι' X' H' x
  obtain ⟨e, r⟩ := h ι' X' H' x
  have hl := repDs_len r
  refine ⟨fun i hi => ?_, ⟨xs, e, by omega⟩, fun i x H'' d S y ed rel => ?_⟩
  · obtain ⟨v, ev, _⟩ := repDs_at r (List.getElem?_eq_getElem hi)
    exact ⟨xs, v, e, ev⟩
  · obtain ⟨rfl, y⟩ := y
    obtain ⟨v, ev, rv⟩ := repDs_at r ed
    have := y xs e
    rw [ev] at this
    cases this
    exact ⟨rel, Ext.refl, rv⟩
theorem itOk_tup {ι X : List Addr} {H : Hp} {a : Addr} {xs : List V} {l : List D} (h : ∀ ι' X' H', Out1 ι X H ι' X' H' → SqT K H' a xs ∧ RepDs K ι' X' H' l xs) : ItOk K (Itt K a) l ι X H := by
  intro ι' X' H' x
  obtain ⟨e, r⟩ := h ι' X' H' x
  have hl := repDs_len r
  refine ⟨fun i hi => ?_, ⟨xs, e, by omega⟩, fun i x H'' d S y ed rel => ?_⟩
  · obtain ⟨v, ev, _⟩ := repDs_at r (List.getElem?_eq_getElem hi)
    exact ⟨xs, v, e, ev⟩
  · obtain ⟨rfl, y⟩ := y
    obtain ⟨v, ev, rv⟩ := repDs_at r ed
    have := y xs e
    rw [ev] at this
    cases this
    exact ⟨rel, Ext.refl, rv⟩
theorem repDs_signs {ι X : List Addr} {H : Hp} : ∀ l : List Nat, RepDs K ι X H ((l.map fun c => P.str ⟨#[c]⟩).map .dat) (l.map fun c => V.str ⟨#[c]⟩)
  | [] => rfl
  | c :: l => ⟨_, _, rfl, rd_str, repDs_signs l⟩
theorem itOk_str {ι X : List Addr} {H : Hp} {z : Str} : ItOk K (Its z) ((signs z).map .dat) ι X H := by
  intro ι' X' H' x
  have hl : ((signs z).map D.dat).length = z.cps.size := by simp [signs]
  refine ⟨fun i hi => by show i < z.cps.size; omega, by show z.cps.size ≤ _; omega, fun i x H'' d S y ed rel => ?_⟩
  obtain ⟨rfl, c, ec, rfl⟩ := y
  refine ⟨rel, Ext.refl, ?_⟩
  unfold signs at ed
  rw [List.getElem?_map, List.getElem?_map, Array.getElem?_toList, ec] at ed
  cases ed
  exact rd_str
theorem itOk_rng {ι X : List Addr} {H : Hp} {lo : Int} {n : Nat} : ItOk K (Itr lo n) ((List.range n).map fun (i : Nat) => .dat (.int (lo + i))) ι X H := by
  intro ι' X' H' x
  have hl : ((List.range n).map fun (i : Nat) => (D.dat (.int (lo + i)))).length = n := by simp
  refine ⟨fun i hi => by show i < n; omega, by show n ≤ _; omega, fun i x H'' d S y ed rel => ?_⟩
  obtain ⟨rfl, rfl⟩ := y
  refine ⟨rel, Ext.refl, ?_⟩
  rw [List.getElem?_map] at ed
  cases q : (List.range n)[i]? with
  | none => rw [q] at ed; cases ed
  | some j =>
    rw [q] at ed
    cases ed
    have : j = i := by
      obtain ⟨h1, h2⟩ := List.getElem?_eq_some_iff.mp q
      rw [List.getElem_range] at h2
      exact h2.symm
    subst this
    exact rd_int
theorem si_walk {te : TE} {a : DE} (ha : SE K W te a) : SI K W (iM K te) (mWalk a) := by
  intro ι X S H σ δ Q rel re h
  refine ha ι X S H σ δ _ rel re ?_
  unfold mWalk at h
  cases e : a δ S with
  | fail => rw [e] at h; exact h
  | exc C x S1 => rw [e] at h; exact h
  | ok d S1 =>
    rw [e, R.bind_ok] at h
    intro ι1 H1 v x1 rel1 rv
    cases d with
    | obj o =>
      obtain ⟨b, eb, rfl⟩ := rv
      obtain ⟨ob, eo, ro⟩ := rel1.obj eb
      unfold wkOf at h
      simp only [eo] at h
      cases ob with
      | lst l =>
        obtain ⟨xs, f, g⟩ := ro
        exact .inl ⟨b, rfl, ⟨xs, SqL.of f⟩, h ι1 H1 b x1 rel1 eb⟩
      | ins C l => exact h.elim
      | dic l => exact h.elim
      | tup l => exact h.elim
    | dat p =>
      cases p with
      | tup l =>
        obtain ⟨b, xs, rfl, f, g⟩ := rT_inv rv
        exact .inr (.inl ⟨b, rfl, ⟨xs, f.sq⟩, h ι1 H1 _ x1 rel1 (itOk_tup fun ι' X' H' x => ⟨(f.out x.p).sq, repDs_dat (RepPs.out x.p g)⟩)⟩)
      | lst l =>
        obtain ⟨b, xs, rfl, n, m, f, g⟩ := rL_inv rv
        exact .inl ⟨b, rfl, ⟨xs, SqL.of f⟩, h ι1 H1 _ x1 rel1 (itOk_lst fun ι' X' H' x => ⟨(x.ok b _ n m f (by intro ps z; cases z)).1, repDs_dat (RepPs.out x.p g)⟩)⟩
      | scr l =>
        have rv : RepP K ι1 X H1 (.scr l) v := rv
        rw [RepP] at rv
        obtain ⟨b, rfl, f⟩ := rv
        exact .inl ⟨b, rfl, ⟨_, f.sq⟩, h ι1 H1 _ x1 rel1 (itOk_sqL fun ι' X' H' x => ⟨(f.out x.p).sq, repDs_ints l⟩)⟩
      | str z =>
        rw [rS_inv rv]
        exact .inr (.inr ⟨z, rfl, h ι1 H1 _ x1 rel1 itOk_str⟩)
      | _ => exact h.elim
/-- range -/
def rngD (lo : Int) (n : Nat) : List D := (List.range n).map fun (i : Nat) => .dat (.int (lo + i))
def mRng1 (a : DA) : DI := fun δ S => (a δ S).bind fun ds S1 => match ds with
  | [.dat (.int j)] => if -1000000000 ≤ j ∧ j ≤ 1000000000 then .ok (.items (rngD 0 j.toNat)) S1 else .fail
  | _ => .fail
theorem si_rng1 {ta : TA} {a : DA} (ha : SA K W ta a) : SI K W (iRng1 ta) (mRng1 a) := by
  intro ι X S H σ δ Q rel re h
  refine ha ι X S H σ δ _ rel re ?_
  unfold mRng1 at h
  cases e : a δ S with
  | fail => rw [e] at h; exact h
  | exc C x S1 => rw [e] at h; exact h
  | ok ds S1 =>
    rw [e, R.bind_ok] at h
    intro ι1 H1 vs x1 rel1 rv
    split at h
    · rename_i j
      split at h
      · rename_i hj
        obtain ⟨y, ys, rfl, r1, r2⟩ := rv
        rw [show ys = [] from r2, rI_inv r1]
        exact ⟨j, rfl, by omega, by omega, h ι1 H1 _ x1 rel1 itOk_rng⟩
      · exact h.elim
    · exact h.elim
end
end M3
namespace M3
open PySem PySem.Spec PyProof.Rows L2
variable [TabsP]
section
variable {K : PySem.W.Frag} {W : L2.St → WK}
theorem repDs_atI {ι X : List Addr} {H : Hp} {l : List D} {xs : List V} {i : Int} {d : D} (r : RepDs K ι X H l xs) (e : atI l i = some d) : ∃ x, atI xs i = some x ∧ RepD K ι X H d x := by
  unfold atI at e ⊢
  rw [repDs_len r]
  cases q : ixN l.length i with
  | none => rw [q] at e; cases e
  | some j => rw [q] at e; exact repDs_at r e
theorem repPs_atI {ι X : List Addr} {H : Hp} {l : List P} {xs : List V} {i : Int} {d : P} (r : RepPs K ι X H l xs) (e : atI l i = some d) : ∃ x, atI xs i = some x ∧ RepP K ι X H d x := by
  unfold atI at e ⊢
  rw [repPs_len r]
  cases q : ixN l.length i with
  | none => rw [q] at e; cases e
  | some j => rw [q] at e; exact repPs_at r e
def rIxM (K : PySem.W.Frag) : R2 := fun x y H Q => rIxL K x y H Q ∨ rIxT K x y H Q ∨ rIxS x y H Q
theorem ix_M {X : Cx} (h : X.K = K) : IxR X (rIxM K) := by
  subst h
  exact IxR.or ix_list (IxR.or ix_tup ix_str)
def aIx : Store → D → D → Option D := fun S x y => match x, y with
  | .dat (.tup l), .dat (.int i) => (atI l i).map .dat
  | .dat (.lst l), .dat (.int i) => (atI l i).map .dat
  | .dat (.str z), .dat (.int i) => if z.length ≤ 100000 then (atI z.cps.toList i).map fun c => .dat (.str ⟨#[c]⟩) else none
  | x, .dat (.int i) => match seqD S x with
    | some l => atI l i
    | none => none
  | _, _ => none
theorem ix_ok : R2S K (rIxM K) aIx := by
  intro ι X S H x y v u d Q rel rx ry e k
  unfold aIx at e
  split at e
  · rename_i l i
    obtain ⟨a, xs, rfl, f, g⟩ := rT_inv rx
    cases q : atI l i with
    | none => rw [q] at e; cases e
    | some p =>
      rw [q] at e
      cases e
      obtain ⟨w, ew, rw1⟩ := repPs_atI g q
      exact .inr (.inl ⟨a, xs, i, w, rfl, rI_inv ry, f.sq, ew, k H _ Ext.refl rel rw1⟩)
  · rename_i l i
    obtain ⟨a, xs, rfl, n, m, f, g⟩ := rL_inv rx
    cases q : atI l i with
    | none => rw [q] at e; cases e
    | some p =>
      rw [q] at e
      cases e
      obtain ⟨w, ew, rw1⟩ := repPs_atI g q
      exact .inl ⟨a, xs, i, w, rfl, rI_inv ry, SqL.of f, ew, k H _ Ext.refl rel rw1⟩
  · rename_i z i
    split at e
    · rename_i hz
      cases q : atI z.cps.toList i with
      | none => rw [q] at e; cases e
      | some c =>
        rw [q] at e
        cases e
        exact .inr (.inr ⟨z, i, c, rS_inv rx, rI_inv ry, small hz, q, k H _ Ext.refl rel rd_str⟩)
    · cases e
  · rename_i i _ _ _
    split at e
    · rename_i l e1
      obtain ⟨a, xs, rfl, f, g⟩ := seqD_rep rel e1 rx
      obtain ⟨w, ew, rw1⟩ := repDs_atI g e
      rcases f with f | f
      · exact .inl ⟨a, xs, i, w, rfl, rI_inv ry, f, ew, k H _ Ext.refl rel rw1⟩
      · exact .inr (.inl ⟨a, xs, i, w, rfl, rI_inv ry, f, ew, k H _ Ext.refl rel rw1⟩)
    · cases e
  · cases e
abbrev DO := DEnv → Store → R (Option Int)
def moN : DO := fun _ S => .ok none S
def moS (a : DE) : DO := fun δ S => (a δ S).bind fun d S1 => match d with
  | .dat (.int i) => .ok (some i) S1
  | _ => .fail
def SO (K : PySem.W.Frag) (W : L2.St → WK) (t : TO) (m : DO) : Prop := ∀ ι X S H σ δ Q, Rel K ι X S H → RepE K ι X H δ σ → Post K X ι H (W σ) (m δ S) (fun _ _ d v => v = d) Q → t σ H Q
theorem so_none : SO K W tNoPart moN := fun ι X S H σ δ Q rel re h => h ι H none Ext.refl rel rfl
theorem so_some {t : TE} {a : DE} (ha : SE K W t a) : SO K W (tPart t) (moS a) := by
  intro ι X S H σ δ Q rel re h
  refine ha ι X S H σ δ _ rel re (Post.bind h fun ι1 H1 x S1 v x1 rel1 rv h1 => ?_)
  split at h1
  · rename_i i
    exact ⟨i, rI_inv rv, h1 ι1 H1 _ Ext.refl rel1 rfl⟩
  · exact h1.elim
def cutL {α : Type} (xs : List α) (lo hi : Option Int) : List α := (xs.drop (HT.sIx xs.length 0 lo)).take (HT.sIx xs.length xs.length hi - HT.sIx xs.length 0 lo)
theorem repDs_drop {ι X : List Addr} {H : Hp} : ∀ {l : List D} {xs : List V} (n : Nat), RepDs K ι X H l xs → RepDs K ι X H (l.drop n) (xs.drop n)
  | [], xs, n, r => by rw [show xs = [] from r, List.drop_nil, List.drop_nil]; rfl
  | _ :: _, _, 0, r => r
  | _ :: _, _, n + 1, ⟨y, ys, rfl, f, g⟩ => repDs_drop n g
theorem repDs_take {ι X : List Addr} {H : Hp} : ∀ {l : List D} {xs : List V} (n : Nat), RepDs K ι X H l xs → RepDs K ι X H (l.take n) (xs.take n)
  | [], xs, n, r => by rw [show xs = [] from r, List.take_nil, List.take_nil]; rfl
  | _ :: _, xs, 0, r => rfl
  | _ :: _, _, n + 1, ⟨y, ys, rfl, f, g⟩ => ⟨y, _, rfl, f, repDs_take n g⟩
theorem repDs_cut {ι X : List Addr} {H : Hp} {l : List D} {xs : List V} (lo hi : Option Int) (r : RepDs K ι X H l xs) : RepDs K ι X H (cutL l lo hi) (cutV xs lo hi) := by
  unfold cutL cutV
  rw [repDs_len r]
  exact repDs_take _ (repDs_drop _ r)
theorem repPs_of {ι X : List Addr} {H : Hp} {l : List P} {xs : List V} (r : RepDs K ι X H (l.map .dat) xs) : RepPs K ι X H l xs := datAll_rep (datAll_map l) r
theorem repPs_cut {ι X : List Addr} {H : Hp} {l : List P} {xs : List V} (lo hi : Option Int) (r : RepPs K ι X H l xs) : RepPs K ι X H (cutL l lo hi) (cutV xs lo hi) := by
  refine repPs_of ?_
  have := repDs_cut lo hi (repDs_dat r)
  rwa [show cutL (l.map D.dat) lo hi = (cutL l lo hi).map D.dat by unfold cutL; rw [List.length_map, ← List.map_drop, ← List.map_take]] at this
def aSl (S : Store) (x : D) (lo hi : Option Int) : Option D := match x with
  | .dat (.tup l) => some (.dat (.tup (cutL l lo hi)))
  | .dat (.str z) => if z.length ≤ 100000 then some (.dat (.str (Txt.slice z lo hi))) else none
  | .dat (.scr l) => some (.dat (.lst ((cutL l lo hi).map .int)))
  | x => (listP S x).map fun l => .dat (.lst (cutL l lo hi))
def rSlM (K : PySem.W.Frag) : V → Option Int → Option Int → Hp → VK → Prop := fun x lo hi H Q => rSlA K x lo hi H Q ∨ rSlL K x lo hi H Q ∨ C8.rSlX x lo hi H Q
theorem sl_M {X : Cx} (h : X.K = K) : SlR X (rSlM K) := by
  subst h
  exact L2.SlR.or sl_tupA (L2.SlR.or sl_list C8.sl_txt)
def mSl (a : DE) (lo hi : DO) : DE := fun δ S => (a δ S).bind fun x S1 => (lo δ S1).bind fun l S2 => (hi δ S2).bind fun h S3 => oR (aSl S3 x l h) S3
theorem cut_all {α : Type} {xs : List α} {lo hi : Option Int} (h : HT.sIx xs.length 0 lo = 0 ∧ HT.sIx xs.length xs.length hi = xs.length) : cutL xs lo hi = xs := by
  unfold cutL
  rw [h.1, h.2, List.drop_zero, Nat.sub_zero, List.take_length]
theorem repPs_ints {ι X : List Addr} {H : Hp} (l : List Int) : RepPs K ι X H (l.map .int) (l.map V.int) := by
  refine repPs_of ?_
  rw [List.map_map]
  exact repDs_ints l
theorem sl_ok {ι X : List Addr} {S : Store} {H : Hp} {x : D} {v : V} {lo hi : Option Int} {d : D} {Q : VK} (rel : Rel K ι X S H) (rx : RepD K ι X H x v) (e : aSl S x lo hi = some d)
    (k : ∀ H' w, Ext ι H ι H' → Rel K ι X S H' → RepD K ι X H' d w → Q w H') : rSlM K v lo hi H Q := by
  unfold aSl at e
  split at e
  · rename_i l
    cases e
    obtain ⟨a, xs, rfl, f, g⟩ := rT_inv rx
    have hl := repPs_len g
    refine .inl ⟨a, xs, rfl, f.sq, fun h => ?_, fun h p hp => new_tup rel (repPs_cut lo hi g) hp k⟩
    rw [cut_all (xs := l) (by rw [hl] at h; exact h)] at k
    exact k H _ Ext.refl rel rx
  · rename_i z
    split at e
    · rename_i hz
      cases e
      exact .inr (.inr ⟨z, rS_inv rx, small hz, k H _ Ext.refl rel rd_str⟩)
    · cases e
  · rename_i l
    cases e
    have rx : RepP K ι X H (.scr l) v := rx
    rw [RepP] at rx
    obtain ⟨a, rfl, f⟩ := rx
    refine .inr (.inl ⟨a, _, rfl, f.sq, fun p hp => new_lst rel ?_ hp k⟩)
    have := repPs_cut lo hi (repPs_ints (K := K) (ι := ι) (X := X) (H := H) l)
    rwa [show cutL (l.map P.int) lo hi = (cutL l lo hi).map P.int by unfold cutL; rw [List.length_map, ← List.map_drop, ← List.map_take]] at this
  · rename_i h1 h2 h3
    cases q : listP S x with
    | none => rw [q] at e; cases e
    | some l =>
      rw [q] at e
      cases e
      obtain ⟨a, xs, rfl, f, g⟩ := listP_rep rel q rx
      exact .inr (.inl ⟨a, xs, rfl, SqL.of f, fun p hp => new_lst rel (repPs_cut lo hi g) hp k⟩)
theorem se_sl {te : TE} {tl th : TO} {a : DE} {lo hi : DO} (ha : SE K W te a) (hl : SO K W tl lo) (hh : SO K W th hi) : SE K W (tSl (rSlM K) te tl th) (mSl a lo hi) := by
  intro ι X S H σ δ Q rel re h
  refine ha ι X S H σ δ _ rel re (Post.bind h fun ι1 H1 x S1 v x1 rel1 rv h1 => ?_)
  refine hl ι1 X S1 H1 σ δ _ rel1 (re.ext x1) (Post.bind h1 fun ι2 H2 l S2 l' x2 rel2 rl h2 => ?_)
  subst rl
  refine hh ι2 X S2 H2 σ δ _ rel2 ((re.ext x1).ext x2) (Post.bind h2 fun ι3 H3 l S3 l' x3 rel3 rl h3 => ?_)
  subst rl
  obtain ⟨d, e, k⟩ := post_oR h3
  exact sl_ok rel3 ((rv.ext x2).ext x3) e k
def aLen : Store → List D → Option D := fun S ds => match ds with
  | [.dat (.str z)] => if z.length ≤ 100000 then some (dInt z.length) else none
  | [.dat (.dic l)] => some (dInt l.length)
  | [d] => (seqD S d).map fun l => dInt l.length
  | _ => none
def rLenM (K : PySem.W.Frag) : List V → Hp → VK → Prop := fun xs H Q => (∃ p ys, xs = [.ref p] ∧ (SqL K H p ys ∨ SqT K H p ys) ∧ Q (.int ys.length) H) ∨ (∃ z, xs = [.str z] ∧ z.length ≤ sizeLine ∧ Q (.int z.length) H) ∨ ∃ a kvs, xs = [V.ref a] ∧ H a = some (.dK kvs) ∧ Q (.int kvs.length) H
theorem call_lenM {X : Cx} (h : X.K = K) : CallR X (.builtin "len") (rLenM K) := by
  subst h
  exact CallR.or call_len_seq (CallR.or call_len_str call_lenD)
theorem repDs_one {ι X : List Addr} {H : Hp} {d : D} {vs : List V} (r : RepDs K ι X H [d] vs) : ∃ v, vs = [v] ∧ RepD K ι X H d v := by
  obtain ⟨y, ys, e, f, g⟩ := r
  exact ⟨y, by rw [e, show ys = [] from g], f⟩
theorem repDs_two {ι X : List Addr} {H : Hp} {d f : D} {vs : List V} (r : RepDs K ι X H [d, f] vs) : ∃ v u, vs = [v, u] ∧ RepD K ι X H d v ∧ RepD K ι X H f u := by
  obtain ⟨y, ys, e, f, z, zs, e2, g, h⟩ := r
  exact ⟨y, z, by rw [e, e2, show zs = [] from h], f, g⟩
theorem repKs_len {ι X : List Addr} {H : Hp} : ∀ {ps : List (P × P)} {vs : List (Key × V)}, RepKs K ι X H ps vs → vs.length = ps.length
  | [], vs, r => by rw [RepKs] at r; rw [r]; rfl
  | (_, _) :: ps, vs, r => by
    rw [RepKs] at r
    obtain ⟨c, y, ys, e, _, f, g⟩ := r
    rw [e, List.length_cons, List.length_cons, repKs_len g]
theorem len_ok : RCS K (rLenM K) aLen := by
  intro ι X S H ds vs d Q rel rv e k
  unfold aLen at e
  split at e
  · rename_i z
    split at e
    · rename_i hz
      cases e
      obtain ⟨v, rfl, r⟩ := repDs_one rv
      rw [rS_inv r]
      exact .inr (.inl ⟨z, rfl, small hz, k H _ Ext.refl rel rd_int⟩)
    · cases e
  · rename_i l
    cases e
    obtain ⟨v, rfl, r⟩ := repDs_one rv
    have r : RepP K ι X H (.dic l) v := r
    rw [RepP] at r
    obtain ⟨a, xs, rfl, _, _, f, g⟩ := r
    refine .inr (.inr ⟨a, xs, rfl, f, ?_⟩)
    rw [repKs_len g]
    exact k H _ Ext.refl rel rd_int
  · rename_i x _ _
    obtain ⟨v, rfl, r⟩ := repDs_one rv
    cases q : seqD S x with
    | none => rw [q] at e; cases e
    | some l =>
      rw [q] at e
      cases e
      obtain ⟨a, xs, rfl, f, g⟩ := seqD_rep rel q r
      refine .inl ⟨a, xs, rfl, f, ?_⟩
      rw [repDs_len g]
      exact k H _ Ext.refl rel rd_int
  · cases e
def rTupM (K : PySem.W.Frag) : List V → Hp → VK → Prop := fun xs H Q => ∃ p ys, xs = [.ref p] ∧ ((SqL K H p ys ∧ ∀ l, H l = none → Q (.ref l) (upd H l (.tup ys))) ∨ (SqT K H p ys ∧ Q (.ref p) H))
theorem call_tupM {X : Cx} (h : X.K = K) : CallR X (.type "tuple") (rTupM K) := h ▸ call_tuple_of
def aTuple : Store → List D → Option D := fun S ds => match ds with
  | [.dat (.tup l)] => some (.dat (.tup l))
  | [d] => (listP S d).map fun l => .dat (.tup l)
  | _ => none
theorem tuple_ok : RCS K (rTupM K) aTuple := by
  intro ι X S H ds vs d Q rel rv e k
  unfold aTuple at e
  split at e
  · cases e
    obtain ⟨v, rfl, r⟩ := repDs_one rv
    obtain ⟨a, xs, rfl, f, g⟩ := rT_inv r
    exact ⟨a, xs, rfl, .inr ⟨f.sq, k H _ Ext.refl rel r⟩⟩
  · rename_i x _
    obtain ⟨v, rfl, r⟩ := repDs_one rv
    cases q : listP S x with
    | none => rw [q] at e; cases e
    | some l =>
      rw [q] at e
      cases e
      obtain ⟨a, xs, rfl, f, g⟩ := listP_rep rel q r
      exact ⟨a, xs, rfl, .inl ⟨SqL.of f, fun p hp => new_tup rel g hp k⟩⟩
  · cases e
def rListM (K : PySem.W.Frag) : List V → Hp → VK → Prop := fun xs H Q => ∃ p ys, xs = [.ref p] ∧ (SqL K H p ys ∨ SqT K H p ys) ∧ ∀ l, H l = none → Q (.ref l) (upd H l (.lst ys))
/-- list(x): a new list -/
def mList (a : DA) : DA := fun δ S => (a δ S).bind fun ds S1 => match ds with
  | [d] => oR (seqD S1 d) S1
  | _ => .fail
theorem postL_of {X ι : List Addr} {H : Hp} {α β : Type} {W : WK} {r : R α} {f : α → Store → R (List D)} {Q : V → Hp → Prop} {Rp : List Addr → Hp → α → β → Prop} {Q1 : β → Hp → Prop} (h : PostL K X ι H W (r.bind f) Q)
    (k : ∀ ι1 H1 a S1 v, Ext ι H ι1 H1 → Rel K ι1 X S1 H1 → Rp ι1 H1 a v → PostL K X ι H W (f a S1) Q → Q1 v H1) : Post K X ι H W r Rp Q1 := by
  cases r with
  | ok a S => exact fun ι' H' v x rel rp => k ι' H' a S v x rel rp h
  | exc C z S => exact h
  | fail => exact h
theorem newL {X ι ι1 : List Addr} {H H1 : Hp} {S1 : Store} {ds : List D} {xs : List V} {Q : V → Hp → Prop} (x1 : Ext ι H ι1 H1) (rel1 : Rel K ι1 X S1 H1) (r : RepDs K ι1 X H1 ds xs)
    (h : ∀ ι' H' p xs, Ext ι H ι' H' → Rel K ι' (p :: X) S1 H' → Free H p → H' p = some (.lst xs) → RepDs K ι' (p :: X) H' ds xs → Q (.ref p) H') {p : Addr} (hp : H1 p = none) : Q (.ref p) (upd H1 p (.lst xs)) := by
  have x := ext_alloc (o := .lst xs) rel1 hp
  exact h ι1 _ p xs (x1.trans x) (rel1.more hp) (ext_free x1 (rel1.nin hp).1 (Free.of hp)) upd_same (r.out (Out1.more hp))
theorem sl_list {ta : TA} {a : DA} (ha : SA K W ta a) : SL K W (tCB (rListM K) ta) (mList a) := by
  intro ι X S H σ δ Q rel re h
  refine ha ι X S H σ δ _ rel re (postL_of h fun ι1 H1 ds S1 vs x1 rel1 rv h1 => ?_)
  split at h1
  · rename_i d
    obtain ⟨v, rfl, r⟩ := repDs_one rv
    cases q : seqD S1 d with
    | none => rw [q] at h1; exact h1.elim
    | some l =>
      rw [q] at h1
      obtain ⟨b, xs, rfl, f, g⟩ := seqD_rep rel1 q r
      exact ⟨b, xs, rfl, f, fun p hp => newL x1 rel1 g h1 hp⟩
  · exact h1.elim
/-- ints among the data -/
def intsP : List P → Option (List Int)
  | [] => some []
  | .int i :: l => (intsP l).map (i :: ·)
  | _ :: _ => none
def boolsP : List P → Option (List Bool)
  | [] => some []
  | .bl i :: l => (boolsP l).map (i :: ·)
  | _ :: _ => none
@[simp] theorem intsP_map (l : List Int) : intsP (l.map .int) = some l := by
  induction l with
  | nil => rfl
  | cons i l ih => rw [List.map_cons, intsP, ih]; rfl
@[simp] theorem boolsP_map (l : List Bool) : boolsP (l.map .bl) = some l := by
  induction l with
  | nil => rfl
  | cons i l ih => rw [List.map_cons, boolsP, ih]; rfl
theorem intsP_rep {ι X : List Addr} {H : Hp} : ∀ {l : List P} {ns : List Int} {xs : List V}, intsP l = some ns → RepPs K ι X H l xs → xs = ns.map V.int
  | [], ns, xs, e, r => by
    cases e
    rw [RepPs] at r
    exact r
  | p :: l, ns, xs, e, r => by
    rw [RepPs] at r
    obtain ⟨y, ys, rfl, f, g⟩ := r
    cases p with
    | int i =>
      unfold intsP at e
      cases q : intsP l with
      | none => rw [q] at e; cases e
      | some ms =>
        rw [q] at e
        cases e
        rw [RepP] at f
        rw [f, intsP_rep q g]
        rfl
    | _ => cases e
theorem boolsP_rep {ι X : List Addr} {H : Hp} : ∀ {l : List P} {ns : List Bool} {xs : List V}, boolsP l = some ns → RepPs K ι X H l xs → xs = ns.map V.bl
  | [], ns, xs, e, r => by
    cases e
    rw [RepPs] at r
    exact r
  | p :: l, ns, xs, e, r => by
    rw [RepPs] at r
    obtain ⟨y, ys, rfl, f, g⟩ := r
    cases p with
    | bl i =>
      unfold boolsP at e
      cases q : boolsP l with
      | none => rw [q] at e; cases e
      | some ms =>
        rw [q] at e
        cases e
        rw [RepP] at f
        rw [f, boolsP_rep q g]
        rfl
    | _ => cases e
def aAll : Store → List D → Option D := fun S ds => match ds with
  | [d] => ((listP S d).bind boolsP).map fun l => dBl (l.all id)
  | _ => none
theorem bools_of {ι X : List Addr} {S : Store} {H : Hp} {d : D} {v : V} {l : List Bool} (rel : Rel K ι X S H) (e : (listP S d).bind boolsP = some l) (r : RepD K ι X H d v) : ∃ a, v = .ref a ∧ SqL K H a (l.map V.bl) := by
  cases q : listP S d with
  | none => rw [q] at e; cases e
  | some ps =>
    rw [q] at e
    obtain ⟨a, xs, rfl, f, g⟩ := listP_rep rel q r
    rw [boolsP_rep e g] at f
    exact ⟨a, rfl, SqL.of f⟩
theorem ints_of {ι X : List Addr} {S : Store} {H : Hp} {d : D} {v : V} {l : List Int} (rel : Rel K ι X S H) (e : (listP S d).bind intsP = some l) (r : RepD K ι X H d v) : ∃ a, v = .ref a ∧ SqL K H a (l.map V.int) := by
  cases q : listP S d with
  | none => rw [q] at e; cases e
  | some ps =>
    rw [q] at e
    obtain ⟨a, xs, rfl, f, g⟩ := listP_rep rel q r
    rw [intsP_rep e g] at f
    exact ⟨a, rfl, SqL.of f⟩
theorem all_ok : RCS K (rAll K) aAll := by
  intro ι X S H ds vs d Q rel rv e k
  unfold aAll at e
  split at e
  · rename_i x
    obtain ⟨v, rfl, r⟩ := repDs_one rv
    cases q : (listP S x).bind boolsP with
    | none => rw [q] at e; cases e
    | some l =>
      rw [q] at e
      cases e
      obtain ⟨a, rfl, f⟩ := bools_of rel q r
      exact ⟨a, l, rfl, f, k H _ Ext.refl rel rd_bl⟩
  · cases e
/-- the greatest, the least of some ints -/
def maxI : List Int → Option Int
  | [] => none
  | i :: l => some (l.foldl max i)
def minI : List Int → Option Int
  | [] => none
  | i :: l => some (l.foldl min i)
theorem foldl_min : ∀ (l : List Int) (i : Int), (l.foldl min i = i ∨ l.foldl min i ∈ l) ∧ l.foldl min i ≤ i ∧ ∀ y ∈ l, l.foldl min i ≤ y
  | [], i => ⟨.inl rfl, Int.le_refl _, fun y h => by cases h⟩
  | a :: l, i => by
    obtain ⟨h1, h2, h3⟩ := foldl_min l (min i a)
    rw [List.foldl_cons]
    refine ⟨?_, by omega, fun y hy => ?_⟩
    · rcases h1 with h1 | h1
      · by_cases z : a ≤ i
        · right; rw [h1, show min i a = a by omega]; exact List.mem_cons_self
        · left; rw [h1]; omega
      · right; exact List.mem_cons_of_mem _ h1
    · rcases List.mem_cons.mp hy with rfl | hy
      · omega
      · exact h3 y hy
theorem minI_spec {l : List Int} {m : Int} (e : minI l = some m) : m ∈ l ∧ ∀ y ∈ l, m ≤ y := by
  cases l with
  | nil => cases e
  | cons i l =>
    cases e
    obtain ⟨h1, h2, h3⟩ := foldl_min l i
    refine ⟨?_, fun y hy => ?_⟩
    · rcases h1 with h1 | h1
      · rw [h1]; exact List.mem_cons_self
      · exact List.mem_cons_of_mem _ h1
    · rcases List.mem_cons.mp hy with rfl | hy
      · exact h2
      · exact h3 y hy
def aMax : Store → List D → Option D := fun S ds => match ds with
  | [.dat (.int i), .dat (.int j)] => some (dInt (if j > i then j else i))
  | [d] => (((listP S d).bind intsP).bind maxI).map dInt
  | _ => none
def aMin : Store → List D → Option D := fun S ds => match ds with
  | [.dat (.int i), .dat (.int j)] => some (dInt (if j < i then j else i))
  | [d] => (((listP S d).bind intsP).bind minI).map dInt
  | _ => none
def rMinM (K : PySem.W.Frag) : List V → Hp → VK → Prop := fun xs H Q => (∃ i j, xs = [.int i, .int j] ∧ Q (.int (if j < i then j else i)) H) ∨ rMin K xs H Q
theorem call_minM {X : Cx} (h : X.K = K) (hc : X.calm = true) : CallR X (.builtin "min") (rMinM K) := by
  subst h
  exact CallR.or (call_min2 hc) (cr_min hc)
theorem min_ok : RCS K (rMinM K) aMin := by
  intro ι X S H ds vs d Q rel rv e k
  unfold aMin at e
  split at e
  · cases e
    obtain ⟨v, u, rfl, r1, r2⟩ := repDs_two rv
    rw [rI_inv r1, rI_inv r2]
    exact .inl ⟨_, _, rfl, k H _ Ext.refl rel rd_int⟩
  · rename_i x
    obtain ⟨v, rfl, r⟩ := repDs_one rv
    cases q : (listP S x).bind intsP with
    | none => rw [q] at e; cases e
    | some l =>
      rw [q] at e
      cases q2 : minI l with
      | none => simp only [Option.bind_some, q2] at e; cases e
      | some m =>
        simp only [Option.bind_some, q2, Option.map_some] at e
        cases e
        obtain ⟨a, rfl, f⟩ := ints_of rel q r
        obtain ⟨h1, h2⟩ := minI_spec q2
        refine .inr ⟨a, l, rfl, f, List.length_pos_of_mem h1, fun m' h3 h4 => ?_⟩
        have : m' = m := Int.le_antisymm (h4 m h1) (h2 m' h3)
        subst this
        exact k H _ Ext.refl rel rd_int
  · cases e
def aAbs : Store → List D → Option D := fun _ ds => match ds with
  | [.dat (.int i)] => some (dInt (if i < 0 then -i else i))
  | _ => none
theorem abs_ok : RCS K (fun xs H Q => ∃ i, xs = [.int i] ∧ Q (.int (if i < 0 then -i else i)) H) aAbs := by
  intro ι X S H ds vs d Q rel rv e k
  unfold aAbs at e
  split at e
  · cases e
    obtain ⟨v, rfl, r⟩ := repDs_one rv
    exact ⟨_, by rw [rI_inv r], k H _ Ext.refl rel rd_int⟩
  · cases e
def aInt : Store → List D → Option D := fun _ ds => match ds with
  | [.dat (.int i)] => some (dInt i)
  | [.dat (.bl b)] => some (dInt (if b then 1 else 0))
  | _ => none
theorem int_ok : RCS K (fun xs H Q => (∃ i, xs = [.int i] ∧ Q (.int i) H) ∨ ∃ k, xs = [.bl k] ∧ Q (.int (if k then 1 else 0)) H) aInt := by
  intro ι X S H ds vs d Q rel rv e k
  unfold aInt at e
  split at e
  · cases e
    obtain ⟨v, rfl, r⟩ := repDs_one rv
    exact .inl ⟨_, by rw [rI_inv r], k H _ Ext.refl rel rd_int⟩
  · cases e
    obtain ⟨v, rfl, r⟩ := repDs_one rv
    exact .inr ⟨_, by rw [rB_inv r], k H _ Ext.refl rel rd_int⟩
  · cases e
end
end M3
namespace M3
open PySem PySem.Spec PyProof.Rows L2
variable [TabsP]
/-- own classes, so that isinstance tells of their instances -/
structure OwnC (K : PySem.W.Frag) (C : Addr) : Prop where
  cl : Cls K C
  ha : PySem.W.findIn K (.ref C) "__class__" = some (some (.builtin "object.__class__"))
  hn : PySem.W.specialIn K (.builtin "object.__class__") "__get__" = some (some (.builtin "getset_descriptor.__get__"))
  htk : PySem.W.takesIn K (.builtin "object.__class__") = some true
  hm : PySem.W.mroIn K C (.type "object") = some true
def OwnCs (K : PySem.W.Frag) (CS : List Addr) : Prop := ∀ C ∈ CS, OwnC K C
theorem OwnCs.nil {K : PySem.W.Frag} : OwnCs K [] := fun _ h => nomatch h
/-- the type of a thing, as isinstance asks it -/
def tyD (CS : List Addr) (S : Store) : D → Option Value
  | .dat .non => some (.type "NoneType")
  | .dat (.bl _) => some (.type "bool")
  | .dat (.int _) => some (.type "int")
  | .dat (.str _) => some (.type "str")
  | .dat (.tup _) => some (.type "tuple")
  | .dat (.lst _) => some (.type "list")
  | .dat (.dic _) => some (.type "dict")
  | .dat (.scr _) => some (.type "list")
  | .dat (.ins C _) => if C ∈ CS then some (.ref C) else none
  | .dat (.con _) => none
  | .obj i => match S[i]? with
    | some (.lst _) => some (.type "list")
    | some (.dic _) => some (.type "dict")
    | some (.tup _) => some (.type "tuple")
    | some (.ins C _) => if C ∈ CS then some (.ref C) else none
    | none => none
section
variable {K : PySem.W.Frag} {CS : List Addr}
theorem tyD_rep {ι X : List Addr} {S : Store} {H : Hp} {d : D} {v : V} {t : Value} (O : OwnCs K CS) (rel : Rel K ι X S H) (e : tyD CS S d = some t) (r : RepD K ι X H d v) : TyX K H v t := by
  cases d with
  | obj i =>
    obtain ⟨a, ea, rfl⟩ := r
    obtain ⟨o, eo, ro⟩ := rel.obj ea
    unfold tyD at e
    simp only [eo] at e
    cases o with
    | lst l => cases e; obtain ⟨xs, f, _⟩ := ro; exact .base (.lst f)
    | dic l => cases e; obtain ⟨xs, f, _⟩ := ro; exact .base (.dK f)
    | tup l => cases e; obtain ⟨xs, f, _⟩ := ro; exact .base (.tup f)
    | ins C l =>
      simp only at e
      split at e
      · rename_i m
        cases e
        obtain ⟨dx, xs, f, _⟩ := ro
        have o := O C m
        exact .base (.ins f o.cl o.ha o.hn o.htk o.hm)
      · cases e
  | dat p =>
    have r : RepP K ι X H p v := r
    cases p with
    | non => cases e; rw [RepP] at r; rw [r]; exact .base .non
    | bl b => cases e; rw [RepP] at r; rw [r]; exact .base (.bl b)
    | int b => cases e; rw [RepP] at r; rw [r]; exact .base (.int b)
    | str b => cases e; rw [RepP] at r; rw [r]; exact .base (.str b)
    | tup l =>
      cases e
      rw [RepP] at r
      obtain ⟨a, xs, rfl, f, _⟩ := r
      rcases f with ⟨_, _, f | ⟨o, f⟩⟩ | ⟨o, its, n, h1, h2, _⟩
      · exact .base (.tup f)
      · exact .fTuple f
      · exact .kTuple h1 h2
    | lst l => cases e; rw [RepP] at r; obtain ⟨a, xs, rfl, _, _, f, _⟩ := r; exact .base (.lst f)
    | dic l => cases e; rw [RepP] at r; obtain ⟨a, xs, rfl, _, _, f, _⟩ := r; exact .base (.dK f)
    | ins C l =>
      rw [RepP] at r
      obtain ⟨a, dx, xs, rfl, _, _, f, _⟩ := r
      unfold tyD at e
      simp only at e
      split at e
      · rename_i m
        cases e
        have o := O C m
        exact .base (.ins f o.cl o.ha o.hn o.htk o.hm)
      · cases e
    | con w => cases e
    | scr l =>
      cases e
      rw [RepP] at r
      obtain ⟨a, rfl, f⟩ := r
      rcases f with ⟨_, _, f | ⟨o, f⟩⟩ | ⟨o, its, n, h1, h2, _⟩
      · exact .base (.lst f)
      · exact .base (.frz f)
      · exact .kList h1 h2
/-- a class, as a value -/
def clsD : D → Option Value
  | .dat (.con (.ty n)) => some (.type n)
  | .dat (.con (.ref C)) => some (.ref C)
  | _ => none
theorem clsD_rep {ι X : List Addr} {H : Hp} {d : D} {v : V} {u : Value} (e : clsD d = some u) (r : RepD K ι X H d v) : ClsV v u := by
  unfold clsD at e
  split at e
  · cases e
    rw [rC_inv r]
    exact .ty _
  · cases e
    rw [rC_inv r]
    exact .own _
  · cases e
def aIsi (K : PySem.W.Frag) (CS : List Addr) : Store → List D → Option D := fun S ds => match ds with
  | [x, c] => match tyD CS S x, clsD c with
    | some t, some u => (PySem.W.kitOne K t u).map dBl
    | _, _ => none
  | _ => none
theorem call_isiM {X : Cx} (h : X.K = K) : CallR X (.builtin "isinstance") (rIsi K) := h ▸ call_isi
theorem isi_ok (O : OwnCs K CS) : RCS K (rIsi K) (aIsi K CS) := by
  intro ι X S H ds vs d Q rel rv e k
  unfold aIsi at e
  split at e
  · rename_i x c
    obtain ⟨v, w, rfl, r1, r2⟩ := repDs_two rv
    split at e
    · rename_i t u e1 e2
      cases q : PySem.W.kitOne K t u with
      | none => rw [q] at e; cases e
      | some b =>
        rw [q] at e
        cases e
        exact ⟨v, w, t, u, b, rfl, clsD_rep e2 r2, tyD_rep O rel e1 r1, q, k H _ Ext.refl rel rd_bl⟩
    · cases e
  · cases e
/-- isinstance(x, (c1, c2, ..)): the tuple of classes is just laid -/
def clssD : List P → Option (List Value)
  | [] => some []
  | .con (.ty n) :: l => (clssD l).map (.type n :: ·)
  | .con (.ref C) :: l => (clssD l).map (.ref C :: ·)
  | _ :: _ => none
theorem clssD_rep {ι X : List Addr} {H : Hp} : ∀ {l : List P} {us : List Value} {vs : List V}, clssD l = some us → RepPs K ι X H l vs → Paired ClsV vs us
  | [], us, vs, e, r => by
    cases e
    rw [RepPs] at r
    rw [r]
    exact .nil
  | p :: l, us, vs, e, r => by
    rw [RepPs] at r
    obtain ⟨y, ys, rfl, f, g⟩ := r
    unfold clssD at e
    split at e
    · rename_i heq; cases heq
    · rename_i heq
      cases heq
      cases q : clssD l with
      | none => rw [q] at e; cases e
      | some ws =>
        rw [q] at e
        cases e
        rw [RepP] at f
        rw [f]
        exact .cons (.ty _) (clssD_rep q g)
    · rename_i heq
      cases heq
      cases q : clssD l with
      | none => rw [q] at e; cases e
      | some ws =>
        rw [q] at e
        cases e
        rw [RepP] at f
        rw [f]
        exact .cons (.own _) (clssD_rep q g)
    · cases e
def aIsiT (K : PySem.W.Frag) (CS : List Addr) : Store → List D → Option D := fun S ds => match ds with
  | [x, .dat (.tup l)] => match tyD CS S x, clssD l with
    | some t, some us => (PySem.W.kitAny K t us).map dBl
    | _, _ => none
  | _ => none
def rIsiTM (K : PySem.W.Frag) : List V → Hp → VK → Prop := rIsiT K
theorem call_isiTM {X : Cx} (h : X.K = K) : CallR X (.builtin "isinstance") (rIsiTM K) := h ▸ call_isiT
end
def MSim (K : PySem.W.Frag) (r : V → List V → Hp → VK → Prop) (f : D → List D → Store → R D) : Prop := ∀ ι X S H x v ds vs Q, Rel K ι X S H → RepD K ι X H x v → RepDs K ι X H ds vs →
  Post K X ι H (fun _ _ _ => False) (f x ds S) (fun ι' H' d w => RepD K ι' X H' d w) Q → r v vs H Q
def isKind (T : String) (S : Store) (d : D) : Bool :=
  if T = "list" then (listD S d).isSome else if T = "str" then (match d with
    | .dat (.str _) => true
    | _ => false) else false
def mBM (T : String) (f : D → List D → Store → R D) (a : DE) (b : DA) : DE := fun δ S => (a δ S).bind fun x S1 => if isKind T S1 x = true then (b δ S1).bind fun ds S2 => (match f x ds S2 with
    | .ok d S3 => .ok d S3
    | _ => .fail) else .fail
section
variable {K : PySem.W.Frag} {W : L2.St → WK}
theorem isKind_ty {ι X : List Addr} {S : Store} {H : Hp} {T : String} {d : D} {v : V} (rel : Rel K ι X S H) (e : isKind T S d = true) (r : RepD K ι X H d v) : tyV K T v H := by
  unfold isKind at e
  split at e
  · rename_i hT
    subst hT
    cases q : listD S d with
    | none => rw [q] at e; cases e
    | some l =>
      obtain ⟨a, xs, rfl, f, _⟩ := listD_rep rel q r
      exact .inl ⟨rfl, xs, SqL.of f⟩
  · split at e
    · rename_i hT
      subst hT
      split at e
      · rw [rS_inv r]; rfl
      · cases e
    · cases e
theorem noexc {X ι : List Addr} {H : Hp} {W : WK} {r : R D} {Rp : List Addr → Hp → D → V → Prop} {Q : V → Hp → Prop} (h : Post K X ι H W (match r with
    | .ok d S3 => .ok d S3
    | _ => .fail) Rp Q) : Post K X ι H (fun _ _ _ => False) r Rp Q := by
  cases r with
  | ok d S => exact h
  | exc C x S => exact h.elim
  | fail => exact h
theorem se_bm {T : String} {r : V → List V → Hp → VK → Prop} {f : D → List D → Store → R D} {to : TE} {t : TA} {a : DE} {b : DA} (hr : MSim K r f) (ha : SE K W to a) (hb : SA K W t b) : SE K W (tBM K T r to t) (mBM T f a b) := by
  intro ι X S H σ δ Q rel re h
  refine ha ι X S H σ δ _ rel re (Post.bind h fun ι1 H1 x S1 v x1 rel1 rv h1 => ?_)
  split at h1
  · rename_i hk
    refine ⟨isKind_ty rel1 hk rv, ?_⟩
    refine hb ι1 X S1 H1 σ δ _ rel1 (re.ext x1) (Post.bind h1 fun ι2 H2 ds S2 vs x2 rel2 rvs h2 => ?_)
    exact hr ι2 X S2 H2 x v ds vs Q rel2 (rv.ext x2) rvs (noexc h2)
  · exact h1.elim
theorem se_bm0 {T : String} {r : V → List V → Hp → VK → Prop} {f : D → List D → Store → R D} {to : TE} {a : DE} (hr : MSim K r f) (ha : SE K W to a) : SE K W (tBM0 K T r to) (mBM T f a mNil) := by
  intro ι X S H σ δ Q rel re h
  refine ha ι X S H σ δ _ rel re (Post.bind h fun ι1 H1 x S1 v x1 rel1 rv h1 => ?_)
  split at h1
  · rename_i hk
    refine ⟨isKind_ty rel1 hk rv, ?_⟩
    exact hr ι1 X S1 H1 x v [] [] Q rel1 rv rfl (noexc h1)
  · exact h1.elim
/-- a change of a list among the objects -/
def updL (f : List D → List D → Option (D × List D)) : D → List D → Store → R D := fun x ds S => match x with
  | .obj i => match S[i]? with
    | some (.lst l) => (match f l ds with
      | some (d, l') => .ok d (S.set i (.lst l'))
      | none => .fail)
    | _ => .fail
  | _ => .fail
theorem updL_ok {r : V → List V → Hp → VK → Prop} {f : List D → List D → Option (D × List D)}
    (h : ∀ ι X S H a xs l ds vs d l' Q, Rel K ι X S H → H a = some (.lst xs) → RepDs K ι X H l xs → RepDs K ι X H ds vs → f l ds = some (d, l') →
      (∀ v ys, RepD K ι X H d v → RepDs K ι X H l' ys → Q v (upd H a (.lst ys))) → r (.ref a) vs H Q) : MSim K r (updL f) := by
  intro ι X S H x v ds vs Q rel rx rvs hp
  unfold updL at hp
  cases x with
  | dat p => exact hp.elim
  | obj i =>
    obtain ⟨a, ea, rfl⟩ := rx
    simp only at hp
    cases es : S[i]? with
    | none => rw [es] at hp; exact hp.elim
    | some o =>
      cases o with
      | ins C l => simp only [es] at hp; exact hp.elim
      | dic l => simp only [es] at hp; exact hp.elim
      | tup l => simp only [es] at hp; exact hp.elim
      | lst l =>
        simp only [es] at hp
        cases q : f l ds with
        | none => rw [q] at hp; exact hp.elim
        | some z =>
          obtain ⟨d, l'⟩ := z
          simp only [q] at hp
          obtain ⟨xs, ex, rxs⟩ := rel.at_ i _ a es ea
          refine h ι X S H a xs l ds vs d l' Q rel ex rxs rvs q fun v ys rv rys => ?_
          have ma : a ∈ ι := List.mem_of_getElem? ea
          have o1 : Out1 ι X H ι X (upd H a (.lst ys)) := Out1.ext ⟨⟨[], by simp⟩, fun b w n h _ => by rw [upd_ne (fun z => n (by rw [z]; exact ma))]; exact h, fun b m n => absurd m n, let ⟨_, hu0, pl0⟩ := rel.pl ma; tabs_put hu0 pl0⟩
          obtain ⟨r2, x2⟩ := rel.put (o := .lst l') (u := .lst ys) ea ⟨ys, upd_same, rys.out o1⟩
          exact hp ι _ v x2 r2 (rv.ext x2)
def fAppend : List D → List D → Option (D × List D) := fun l ds => match ds with
  | [d] => if l.length < 100000 then some (.dat .non, l ++ [d]) else none
  | _ => none
theorem append_ok : MSim K rAppend (updL fAppend) := updL_ok fun ι X S H a xs l ds vs d l' Q rel ex rxs rvs e k => by
  unfold fAppend at e
  split at e
  · split at e
    · rename_i hl
      cases e
      obtain ⟨v, rfl, rv⟩ := repDs_one rvs
      exact ⟨a, xs, v, rfl, rfl, ex, smalls (by rw [repDs_len rxs]; exact hl), k _ _ rd_non (repDs_snoc rxs rv)⟩
    · cases e
  · cases e
def fPop : List D → List D → Option (D × List D) := fun l ds => match ds with
  | [] => match l[l.length - 1]? with
    | some d => some (d, l.dropLast)
    | none => none
  | _ => none
theorem repDs_dropLast {ι X : List Addr} {H : Hp} {l : List D} {xs : List V} (r : RepDs K ι X H l xs) : RepDs K ι X H l.dropLast xs.dropLast := by
  rw [List.dropLast_eq_take, List.dropLast_eq_take, repDs_len r]
  exact repDs_take _ r
theorem pop_ok : MSim K rPop (updL fPop) := updL_ok fun ι X S H a xs l ds vs d l' Q rel ex rxs rvs e k => by
  unfold fPop at e
  split at e
  · split at e
    · rename_i d' ed
      cases e
      rw [show vs = [] from rvs]
      obtain ⟨y, ey, ry⟩ := repDs_at rxs ed
      exact ⟨a, xs, y, rfl, rfl, ex, by rw [repDs_len rxs]; exact ey, k _ _ ry (repDs_dropLast rxs)⟩
    · cases e
  · cases e
def setD (x y v : D) (S : Store) : Option Store := match x, y with
  | .obj i, .dat (.int k) => match S[i]? with
    | some (.lst l) => (ixN l.length k).map fun j => S.set i (.lst (l.set j v))
    | _ => none
  | _, _ => none
theorem repDs_set {ι X : List Addr} {H : Hp} {d : D} {v : V} : ∀ {l : List D} {xs : List V} (k : Nat), RepDs K ι X H l xs → RepD K ι X H d v → RepDs K ι X H (l.set k d) (xs.set k v)
  | [], xs, k, r, q => by rw [show xs = [] from r]; rfl
  | _ :: _, _, 0, ⟨y, ys, rfl, f, g⟩, q => ⟨v, ys, rfl, q, g⟩
  | _ :: _, _, k + 1, ⟨y, ys, rfl, f, g⟩, q => ⟨y, _, rfl, f, repDs_set k g q⟩
theorem setD_ok {ι X : List Addr} {S S' : Store} {H : Hp} {x y d : D} {v u w : V} {Q : Hp → Prop} (rel : Rel K ι X S H) (rx : RepD K ι X H x v) (ry : RepD K ι X H y u) (rd : RepD K ι X H d w) (e : setD x y d S = some S')
    (k : ∀ H', Ext ι H ι H' → Rel K ι X S' H' → Q H') : rSetL v u w H Q := by
  unfold setD at e
  split at e
  · rename_i i n
    obtain ⟨a, ea, rfl⟩ := rx
    cases es : S[i]? with
    | none => rw [es] at e; cases e
    | some o =>
      cases o with
      | ins C l => simp only [es] at e; cases e
      | dic l => simp only [es] at e; cases e
      | tup l => simp only [es] at e; cases e
      | lst l =>
        simp only [es] at e
        cases q : ixN l.length n with
        | none => rw [q] at e; cases e
        | some j =>
          rw [q] at e
          cases e
          obtain ⟨xs, ex, rxs⟩ := rel.at_ i _ a es ea
          refine ⟨a, xs, n, j, rfl, rI_inv ry, ex, by rw [repDs_len rxs]; exact q, ?_⟩
          have ma : a ∈ ι := List.mem_of_getElem? ea
          have o1 : Out1 ι X H ι X (upd H a (.lst (xs.set j w))) := Out1.ext ⟨⟨[], by simp⟩, fun b w n h _ => by rw [upd_ne (fun z => n (by rw [z]; exact ma))]; exact h, fun b m n => absurd m n, let ⟨_, hu0, pl0⟩ := rel.pl ma; tabs_put hu0 pl0⟩
          obtain ⟨r2, x2⟩ := rel.put (o := .lst (l.set j d)) (u := .lst (xs.set j w)) ea ⟨_, upd_same, (repDs_set j rxs rd).out o1⟩
          exact k _ x2 r2
  · cases e
def gmSub (a b : DE) : DG := fun d δ S => (a δ S).bind fun x S1 => (b δ S1).bind fun y S2 => match setD x y d S2 with
  | some S3 => .ok δ S3
  | none => .fail
theorem sg_sub {to ti : TE} {a b : DE} (ha : SE K W to a) (hb : SE K W ti b) : SG K W (gSub to ti rSetL) (gmSub a b) := by
  intro ι X S H σ δ d w N rel re rd h
  refine ha ι X S H σ δ _ rel re (Post.bind h fun ι1 H1 x S1 v x1 rel1 rv h1 => ?_)
  refine hb ι1 X S1 H1 σ δ _ rel1 (re.ext x1) (Post.bind h1 fun ι2 H2 y S2 u x2 rel2 ru h2 => ?_)
  cases q : setD x y d S2 with
  | none => simp only [q] at h2; exact h2.elim
  | some S3 =>
    simp only [q] at h2
    exact setD_ok rel2 (rv.ext x2) ru ((rd.ext x1).ext x2) q fun H3 x3 rel3 => h2 ι2 H3 σ x3 rel3 (((re.ext x1).ext x2).ext x3)
/-- xs[i] += e -/
def getD (S : Store) (x y : D) : Option D := match y with
  | .dat (.int (.ofNat k)) => match listD S x with
    | some l => l[k]?
    | none => none
  | _ => none
/-- x op= e -/
def mAug (i : Nat) (f : Store → D → D → Option D) (a : DE) : DS := fun δ S => match δ[i]? with
  | some (some x) => (a δ S).st δ fun y S1 => (match f S1 x y with
    | some z => .ok (.nx (δ.set i (some z))) S1
    | none => .fail)
  | _ => .fail
theorem ss_aug {i : Nat} {te : TE} {ti : TIp} {f : Store → D → D → Option D} {a : DE} (ha : SE K W te a)
    (hf : ∀ ι X S H x y v u d Q, Rel K ι X S H → RepD K ι X H x v → RepD K ι X H y u → f S x y = some d → (∀ H' w, Ext ι H ι H' → Rel K ι X S H' → RepD K ι X H' d w → Q w H') → ti v u H Q) : SS K W (tAug i te ti) (mAug i f a) := by
  intro ι X S H σ δ E rel re h
  unfold mAug at h
  split at h
  · rename_i x ex
    obtain ⟨v, ev, rv⟩ := re.2 i x ex
    refine ⟨v, ev, ha ι X S H σ δ _ rel re (PostS.st re h fun ι1 H1 y S1 u x1 rel1 ru h1 => ?_)⟩
    split at h1
    · rename_i z ez
      exact hf ι1 X S1 H1 x y v u z _ rel1 (rv.ext x1) ru ez fun H2 w x2 rel2 rw2 => h1 ι1 H2 _ x2 rel2 (((re.ext x1).ext x2).set rw2)
    · exact h1.elim
  · exact h.elim
theorem ip_add_ok : ∀ ι X S H x y v u d Q, Rel K ι X S H → RepD K ι X H x v → RepD K ι X H y u → iop (fun i j => dInt (i + j)) yes2 S x y = some d → (∀ H' w, Ext ι H ι H' → Rel K ι X S H' → RepD K ι X H' d w → Q w H') → ipI (fun i j => i + j) v u H Q := by
  intro ι X S H x y v u d Q rel rx ry e k
  unfold iop yes2 at e
  split at e
  · rename_i i j
    rw [if_pos rfl] at e
    cases e
    exact ⟨i, j, rI_inv rx, rI_inv ry, k H _ Ext.refl rel rd_int⟩
  · cases e
end
end M3
namespace M3
open PySem PySem.Spec PyProof.Rows L2
variable [TabsP]
def tMakeS (C : Addr) (sp : Sp) (E : L2.St → XK) (t : TA) : TE := fun σ H Q => t σ H fun vs H1 => ∀ x dx, H1 x = none → H1 dx = none → dx ≠ x → sp (.ref x :: vs) (upd (upd H1 dx (.own x)) x (.ins C dx [])) (fun v H2 => v = .non ∧ Q (.ref x) H2) (E σ)
section
variable {X : Cx} {C f : Addr} {k : Nat} {fd : FuncData} {ps : List Str} {sp : Sp} {CX : CXT} {x : Str} {e : Expr} {es : List Expr} {t : TA} {p pos : Pos} {E : L2.St → XK}
theorem pe_makeS (M : Mk X.K C f) (F : FnOk X.prog X.w X.K X.mg X.base CX k f fd ps sp) (hr : Room (k + 1) X.A) (hg : Gl X x) (hm : X.mg x = some (.ref C)) (hb : Binds X.K fd ps []) (hx : ∀ σ, PassesAt CX X σ (E σ))
    (ha : PA X (e :: es) t) (hdb : (x == ("__debug__" : Str)) = false := by decide) (he : starEach (e :: es) X.env = (false, eval e X.env) :: starEach es X.env := by rfl) (hpl : (backTo pos (starEach es X.env)).any (·.1) = false := by rfl) :
    PE X (.Call (.Name x p) (e :: es) [] pos) (tMakeS C sp E t) := by
  refine ⟨fun pins s σ H Q I h => ?_⟩
  refine wpAny_Call_Name_kw (ld_glob I hg hm ?_ hdb)
  refine PySem.W.callWith_K (h₀ := X.base) I.ok.mod.kin M.kp (thn (ha.run pos pins s σ H _ I h) fun us s1 ⟨vs, H1, I1, r, q⟩ => ⟨I1.kIn, ?_⟩) he hpl
  have hq := q (s1.heap.objs.size + 1) s1.heap.objs.size (I1.hok.fresh (Nat.le_succ _)) (I1.hok.fresh (Nat.le_refl _)) (Nat.ne_of_lt (Nat.lt_succ_self _))
  have I2 := Inv.made (C := C) I1
  have r2 : Vals (V.ref (s1.heap.objs.size + 1) :: vs) (Value.ref (s1.heap.objs.size + 1) :: us) := .cons rfl r
  have hl : (Value.ref (s1.heap.objs.size + 1) :: us ++ []).length = ps.length := by
    have e := r2.length
    rw [F.len _ _ _ _ hq] at e
    rw [List.append_nil]
    exact e.symm
  have b := hb _ (Value.ref (s1.heap.objs.size + 1) :: us) I2.kIn hl
  rw [List.append_nil] at b
  refine wpAny_call (make_map (f := f) I1.kIn M.makes M.init (beq_iff_eq.mp M.fn) (codeAny_mono (F.run _ X.stack _ _ ⟨Value.ref (s1.heap.objs.size + 1) :: us, []⟩ (Value.ref (s1.heap.objs.size + 1) :: us) _ _ (E σ) (hr.make C us [])
    (I2.env0.make C us []) b r2 hq) fun r s' hq' => ?_))
  cases r with
  | error e => exact hx σ pins _ _ e s' I2 hq'
  | ok fl =>
    cases fl with
    | ret u =>
      obtain ⟨v, H', I3, rv, ev, q3⟩ := I2.after hq'
      subst ev
      exact ⟨rv, ⟨V.ref (s1.heap.objs.size + 1), H', I3, rfl, q3⟩⟩
    | next => exact False.elim hq'
    | brk => exact False.elim hq'
    | cont => exact False.elim hq'
end
/-- attributes that may be read and written -/
def FlOk (K : PySem.W.Frag) (FL : List (Addr × Str)) : Prop := ∀ z ∈ FL, Cls K z.1 ∧ NoAttr K z.1 z.2
def lookPf (f : Str) : List (Str × P) → Option P
  | [] => none
  | (g, d) :: l => if f = g then some d else lookPf f l
def putD (f : Str) (d : D) : List (Str × D) → List (Str × D)
  | [] => [(f, d)]
  | (g, x) :: r => if g = f then (g, d) :: r else (g, x) :: putD f d r
section
variable {K : PySem.W.Frag} {W : L2.St → WK} {FL : List (Addr × Str)}
theorem putD_rep {ι X : List Addr} {H : Hp} {f : Str} {d : D} {v : V} (rd : RepD K ι X H d v) : ∀ {l : List (Str × D)} {xs : List (Str × V)}, RepDF K ι X H l xs → RepDF K ι X H (putD f d l) (putF f v xs)
  | [], xs, r => by
    rw [show xs = [] from r]
    exact ⟨v, [], rfl, rd, rfl⟩
  | (g, d') :: l, xs, ⟨y, ys, ex, h, k⟩ => by
    subst ex
    unfold putD putF
    by_cases hg : g = f
    · rw [if_pos hg, if_pos hg]
      exact ⟨v, ys, rfl, rd, k⟩
    · rw [if_neg hg, if_neg hg]
      exact ⟨y, _, rfl, h, putD_rep rd k⟩
theorem repDF_len {ι X : List Addr} {H : Hp} : ∀ {l : List (Str × D)} {xs : List (Str × V)}, RepDF K ι X H l xs → xs.length = l.length
  | [], xs, r => by rw [show xs = [] from r]; rfl
  | (g, d') :: l, xs, ⟨y, ys, ex, h, k⟩ => by rw [ex, List.length_cons, List.length_cons, repDF_len k]
def setF (FL : List (Addr × Str)) (f : Str) (x d : D) (S : Store) : Option Store := match x with
  | .obj i => match S[i]? with
    | some (.ins C l) => if (C, f) ∈ FL ∧ l.length < 1000 then some (S.set i (.ins C (putD f d l))) else none
    | _ => none
  | _ => none
def mSetF (FL : List (Addr × Str)) (f : Str) (a v : DE) : DS := fun δ S => (v δ S).st δ fun d S1 => (a δ S1).st δ fun x S2 => match setF FL f x d S2 with
  | some S3 => .ok (.nx δ) S3
  | none => .fail
theorem setF_ok {ι X : List Addr} {S S' : Store} {H : Hp} {f : Str} {x d : D} {v w : V} (FO : FlOk K FL) (rel : Rel K ι X S H) (rx : RepD K ι X H x v) (rd : RepD K ι X H d w) (e : setF FL f x d S = some S') :
    ∃ a C dx fs, v = .ref a ∧ H a = some (.ins C dx fs) ∧ Cls K C ∧ NoAttr K C f ∧ fs.length < 1000 ∧ Ext ι H ι (upd H a (.ins C dx (putF f w fs))) ∧ Rel K ι X S' (upd H a (.ins C dx (putF f w fs))) := by
  unfold setF at e
  split at e
  · rename_i i
    obtain ⟨a, ea, rfl⟩ := rx
    cases es : S[i]? with
    | none => rw [es] at e; cases e
    | some o =>
      cases o with
      | lst l => simp only [es] at e; cases e
      | dic l => simp only [es] at e; cases e
      | tup l => simp only [es] at e; cases e
      | ins C l =>
        simp only [es] at e
        split at e
        · rename_i m
          cases e
          obtain ⟨dx, xs, ex, rxs⟩ := rel.at_ i _ a es ea
          have ma : a ∈ ι := List.mem_of_getElem? ea
          have o1 : Out1 ι X H ι X (upd H a (.ins C dx (putF f w xs))) := Out1.ext ⟨⟨[], by simp⟩, fun b w n h _ => by rw [upd_ne (fun z => n (by rw [z]; exact ma))]; exact h, fun b m n => absurd m n, let ⟨_, hu0, pl0⟩ := rel.pl ma; tabs_put hu0 pl0⟩
          obtain ⟨r2, x2⟩ := rel.put (o := .ins C (putD f d l)) (u := .ins C dx (putF f w xs)) ea ⟨dx, _, upd_same, (putD_rep rd rxs).out o1⟩
          exact ⟨a, C, dx, xs, rfl, ex, (FO _ m.1).1, (FO _ m.1).2, by rw [repDF_len rxs]; exact m.2, x2, r2⟩
        · cases e
  · cases e
theorem ss_setF {f : Str} {ta tv : TE} {a v : DE} (FO : FlOk K FL) (ha : SE K W ta a) (hv : SE K W tv v) : SS K W (sFld K ta tv f) (mSetF FL f a v) := by
  intro ι X S H σ δ E rel re h
  refine hv ι X S H σ δ _ rel re (PostS.st re h fun ι1 H1 d S1 w x1 rel1 rd h1 => ?_)
  refine ha ι1 X S1 H1 σ δ _ rel1 (re.ext x1) (PostS.st (re.ext x1) h1 fun ι2 H2 x S2 u x2 rel2 rx h2 => ?_)
  cases q : setF FL f x d S2 with
  | none => simp only [q] at h2; exact h2.elim
  | some S3 =>
    simp only [q] at h2
    obtain ⟨a, C, dx, fs, e1, e2, e3, e4, e5, x3, rel3⟩ := setF_ok FO rel2 rx (rd.ext x2) q
    exact ⟨a, C, dx, fs, e1, e2, e3, e4, e5, h2 ι2 _ σ x3 rel3 (((re.ext x1).ext x2).ext x3)⟩
def mRaise0 (C : Addr) : DS := fun δ S => .ok (.ex C none δ) S
def mRaise1 (C : Addr) (f : Str) (a : DA) : DS := fun δ S => (a δ S).st δ fun ds S1 => match ds with
  | [.dat p] => .ok (.ex C (some (f, p)) δ) S1
  | _ => .fail
theorem ss_raise0 {C : Addr} {W : WX} : SS K (wk W) (fun _ σ H => W (.ref C) none σ H) (mRaise0 C) := fun ι X S H σ δ E rel re h => h ι H none σ Ext.refl rel rfl re
theorem ss_raise1 {C : Addr} {f : Str} {W : WX} {ta : TA} {a : DA} (ha : SA K (wk W) ta a) : SS K (wk W) (fun _ σ H => ta σ H fun vs H1 => ∃ v, vs = [v] ∧ ∀ d, H1 d = none → W (.ref C) (some d) σ (upd H1 d (.xd [(f, v)]))) (mRaise1 C f a) := by
  intro ι X S H σ δ E rel re h
  refine ha ι X S H σ δ _ rel re (PostS.st re h fun ι1 H1 ds S1 vs x1 rel1 rv h1 => ?_)
  split at h1
  · rename_i p
    obtain ⟨v, rfl, r⟩ := repDs_one rv
    refine ⟨v, rfl, fun d hd => ?_⟩
    have x2 := ext_alloc (o := .xd [(f, v)]) rel1 hd
    exact h1 ι1 _ (some d) σ x2 (rel1.alloc hd) ⟨d, v, rfl, upd_same, RepP.ext x2 r⟩ ((re.ext x1).ext x2)
  · exact h1.elim
end
end M3
namespace M3
open PySem PySem.Spec PyProof.Rows L2
variable [TabsP]
section
variable {X : Cx} {K : PySem.W.Frag} {W : L2.St → WK} {CS : List Addr}
theorem call_allM (h : X.K = K) (hc : X.calm = true) : CallR X (.builtin "all") (rAll K) := h ▸ cr_all hc
theorem pe_bmK {o e : Expr} {es : List Expr} {to : TE} {t : TA} {name : Str} {apos cpos : Pos} {T id : String} {r : V → List V → Hp → VK → Prop} (h : X.K = K) (pa : PlainAttrs T) (slot : Slot T name id) (hty : typeOf (.builtin id) = pure (.type "method_descriptor")) (hm : MtR X id r) (ho : PE X o to) (ha : PA X (e :: es) t)
    (hbase : attributeBase o name X.env (eval o X.env) = eval o X.env := by rfl)
    (hfew : ((backTo cpos (starEach (e :: es) X.env)).all (fun x => !x.1) && (backToKw cpos (keywordEach [] X.env)).all (fun x => x.1.isSome)
      && decide ((e :: es).length + ([] : List Keyword).length + (if ([] : List Keyword).isEmpty then 0 else 1) < 30)) = true := by rfl)
    (hline : (apos.endLine == cpos.line) = true := by rfl) (hs : starEach (e :: es) X.env = (false, eval e X.env) :: starEach es X.env := by rfl) (hplain : (backTo cpos (starEach es X.env)).any (·.1) = false := by rfl) :
    PE X (.Call (.Attribute o name apos) (e :: es) [] cpos) (tBM K T r to t) := h ▸ pe_bm pa slot hty hm ho ha hbase hfew hline hs hplain
theorem pe_bm0K {o : Expr} {to : TE} {name : Str} {apos cpos : Pos} {T id : String} {r : V → List V → Hp → VK → Prop} (h : X.K = K) (pa : PlainAttrs T) (slot : Slot T name id) (hty : typeOf (.builtin id) = pure (.type "method_descriptor")) (hm : MtR X id r) (ho : PE X o to)
    (hbase : attributeBase o name X.env (eval o X.env) = eval o X.env := by rfl) (hline : (apos.endLine == cpos.line) = true := by rfl) : PE X (.Call (.Attribute o name apos) [] [] cpos) (tBM0 K T r to) := h ▸ pe_bm0 pa slot hty hm ho hbase hline
theorem se_isiT {te : TE} {ta : TA} {a : DE} {b : DA} (O : OwnCs K CS) (ha : SE K W te a) (hb : SA K W ta b) : SE K W (tCB (rIsiTM K) (tCons te (tCons (tTup ta) tNil))) (mCall (aIsiT K CS) (mCons a (mCons (mTup b) mNil))) := by
  intro ι X S H σ δ Q rel re h
  refine ha ι X S H σ δ _ rel re ?_
  unfold mCall mCons mNil mTup at h
  cases e : a δ S with
  | fail => rw [e] at h; exact h
  | exc C x S1 => rw [e] at h; exact h
  | ok d S1 =>
    rw [e, R.bind_ok] at h
    intro ι1 H1 v x1 rel1 rv
    refine hb ι1 X S1 H1 σ δ _ rel1 (re.ext x1) ?_
    cases e2 : b δ S1 with
    | fail => rw [e2] at h; exact h
    | exc C x S2 => rw [e2] at h; exact (fun ι' H' da x rel rx => h ι' H' da (x1.trans x) rel rx)
    | ok cs S2 =>
      rw [e2, R.bind_ok] at h
      intro ι2 H2 us x2 rel2 rus
      cases q : datAll cs with
      | none => simp only [q] at h; exact h.elim
      | some ps =>
        simp only [q] at h
        by_cases hl : ps.length ≤ 100000
        · rw [if_pos hl] at h
          have rp := datAll_rep q rus
          refine ⟨small (by rw [repPs_len rp]; exact hl), fun p hp => ?_⟩
          simp only [R.bind_ok] at h
          cases q2 : aIsiT K CS S2 [d, .dat (.tup ps)] with
          | none => rw [q2] at h; exact h.elim
          | some r =>
            rw [q2] at h
            have xa := ext_alloc (o := .tup us) rel2 hp
            have ra := rel2.alloc (o := .tup us) hp
            unfold aIsiT at q2
            simp only at q2
            split at q2
            · rename_i t ws e3 e4
              cases q5 : PySem.W.kitAny K t ws with
              | none => rw [q5] at q2; cases q2
              | some bb =>
                rw [q5] at q2
                cases q2
                refine ⟨v, p, us, t, ws, bb, rfl, upd_same, clssD_rep e4 rp, tyD_rep O ra e3 ((rv.ext x2).ext xa), q5, ?_⟩
                exact h ι2 _ _ ((x1.trans x2).trans xa) ra rd_bl
            · cases q2
        · rw [if_neg hl] at h
          exact h.elim
end
section
variable {K : PySem.W.Frag} {W : L2.St → WK}
def aAddI := iop (fun i j => dInt (i + j)) yes2
end
structure G where
  K : PySem.W.Frag
  CS : List Addr
  FL : List (Addr × Str)
  (ForestError BadForest NoHouse NoDeed BadDeeds NoNumber NoAsk NoShape NoTurn BadAccount NoMoment NoWeight Full BadHistory NoParcel NoRow BadRow NoCut NoBlocks NoDisk OtherForest NoThing BadThing BadText NothingDone NoLine NoName : Addr)
  (Forest Stand Kept Account Roads History Disk SavedKept Reel Work Desk : Addr)
  (FORMS FORMS_asks FORMS_deeds FORMS_histories CONSTANTS FLAGS OF_FORESTS OF_ACCOUNTS : Addr)
  /-- defs that are values -/
  V : Str → Addr := fun _ => 0
end M3
namespace M3
open PySem PySem.Spec PyProof.Rows L2
variable [TabsP]
section
variable {K : PySem.W.Frag}
def isB (b : Bool) : D → Option Bool
  | .dat (.bl c) => some (decide (c = b))
  | .dat (.con _) => none
  | _ => some false
def aIsB : Store → D → D → Option D := fun _ x y => match y with
  | .dat (.bl b) => (isB b x).map dBl
  | _ => none
end
end M3
namespace M3
open PySem PySem.Spec PyProof.Rows L2
variable [TabsP]
inductive AllM {α : Type} (p : α → Prop) : List α → Prop
  | nil : AllM p []
  | cons {a : α} {l : List α} (h : p a) (t : AllM p l) : AllM p (a :: l)
theorem AllM.mem {α : Type} {p : α → Prop} {l : List α} (h : AllM p l) : ∀ a ∈ l, p a := by
  induction h with
  | nil => exact fun _ m => nomatch m
  | cons h t ih =>
    intro a m
    cases m with
    | head => exact h
    | tail _ m => exact ih a m
theorem ownCs_mk {K : PySem.W.Frag} {l : List Addr} (h : AllM (OwnC K) l) : OwnCs K l := h.mem
theorem flOk_mk {K : PySem.W.Frag} {l : List (Addr × Str)} (h : AllM (fun z => Cls K z.1 ∧ NoAttr K z.1 z.2) l) : FlOk K l := h.mem
/-- an error of the class at S, and what «except D» names -/
theorem exm_ab {K : PySem.W.Frag} {S D : Addr} (b : Bool) (h1 : PySem.W.subIn K (.ref D) (.type "BaseException") = some true) (h2 : PySem.W.isClsIn K D = true) (h3 : PySem.W.typeIn K (.ref D) = some (.type "type")) (h4 : PySem.W.subIn K (.ref S) (.ref D) = some b) :
    PySem.W.exmOne K (.ref S) (.ref D) = some b := by
  have e1 : (PySem.W.subIn K (.ref D) (.type "BaseException") == some true) = true := by rw [h1] <;> rfl
  have e2 : ((PySem.W.clsIn K D).isSome && PySem.W.typeIn K (.ref D) == some (.type "type")) = true := by
    have h2' : (PySem.W.clsIn K D).isSome = true := h2
    rw [h2', h3] <;> rfl
  show (if (PySem.W.subIn K (.ref D) (.type "BaseException") == some true) = true then (if ((PySem.W.clsIn K D).isSome && PySem.W.typeIn K (.ref D) == some (.type "type")) = true then PySem.W.subIn K (.ref S) (.ref D) else none) else none) = some b
  rw [if_pos e1, if_pos e2]
  exact h4
/-- what the law promises -/
def spLaw (K : PySem.W.Frag) : Sp := fun vs H Q _ => ∃ (a : Addr) (ns : List Int), vs = [.ref a] ∧ SqL K H a (ns.map V.int) ∧ ns.length ≤ 63 ∧ HeldOk H ∧ ∀ H', Q (.bl true) H'
theorem law_sp {K : PySem.W.Frag} {m : List D → Store → R D} (h : ∀ ns : List Int, ns.length ≤ 63 → ∃ S, m [.dat (.scr ns)] [] = .ok (.dat (.bl true)) S) : ∀ vs H Q E, spLaw K vs H Q E → spM K 1 m vs H Q E := by
  rintro vs H Q E ⟨a, ns, rfl, hs, hl, ht, hq⟩
  obtain ⟨S, e⟩ := h ns hl
  refine ⟨rfl, [], [], [], [.dat (.scr ns)], ⟨rfl, List.nodup_nil, fun i o a e => by simp at e, fun a m => by simp at m, ht⟩, ?_, ?_⟩
  · refine ⟨.ref a, [], rfl, ?_, rfl⟩
    show RepP K [] [] H (.scr ns) _
    rw [RepP]
    refine ⟨a, rfl, hs.imp (fun x => ⟨by simp, by simp, x⟩) id⟩
  · rw [e]
    intro ι' H' v _ _ rv
    have := rB_inv rv
    rw [this]
    exact hq H'
end M3
namespace M3
open PySem PySem.Spec PyProof.Rows L2
variable [TabsP]
/-- the end of a def -/
def fin (r : R Out) : R D := match r with
  | .ok (.nx _) S' => .ok (.dat .non) S'
  | .ok (.rt d) S' => .ok d S'
  | .ok (.ex C x _) S' => .exc C x S'
  | _ => .fail
theorem mBody_fin {N : Nat} {b : DS} {ds : List D} {S : Store} : mBody N b ds S = fin (b (ds.map some ++ List.replicate (N - ds.length) none) S) := rfl
theorem fin_nx {δ : DEnv} {S : Store} : fin (.ok (.nx δ) S) = .ok (.dat .non) S := rfl
theorem fin_rt {d : D} {S : Store} : fin (.ok (.rt d) S) = .ok d S := rfl
theorem fin_ex {C : Addr} {x : Option (Str × P)} {δ : DEnv} {S : Store} : fin (.ok (.ex C x δ) S) = .exc C x S := rfl
/-- one statement, then the rest -/
def thenS (r : R Out) (b : DS) : R Out := match r with
  | .ok (.nx δ1) S1 => b δ1 S1
  | r => r
theorem mSeq_then {a b : DS} {δ : DEnv} {S : Store} : mSeq a b δ S = thenS (a δ S) b := rfl
theorem then_nx {δ : DEnv} {S : Store} {b : DS} : thenS (.ok (.nx δ) S) b = b δ S := rfl
theorem then_rt {d : D} {S : Store} {b : DS} : thenS (.ok (.rt d) S) b = .ok (.rt d) S := rfl
theorem then_bk {δ : DEnv} {S : Store} {b : DS} : thenS (.ok (.bk δ) S) b = .ok (.bk δ) S := rfl
theorem then_ct {δ : DEnv} {S : Store} {b : DS} : thenS (.ok (.ct δ) S) b = .ok (.ct δ) S := rfl
theorem then_ex {C : Addr} {x : Option (Str × P)} {δ : DEnv} {S : Store} {b : DS} : thenS (.ok (.ex C x δ) S) b = .ok (.ex C x δ) S := rfl
/-- which way -/
def pick2 {α : Type} (x : Bool) (a b : α) : α := match x with
  | true => a
  | false => b
theorem mIfS_eq {c : DT} {a b : DS} {δ : DEnv} {S : Store} : mIfS c a b δ S = (c δ S).st δ fun x S1 => pick2 x a b δ S1 := by
  unfold mIfS pick2
  cases c δ S with
  | ok x S1 => cases x <;> rfl
  | _ => rfl
theorem mIf_eq {c : DT} {a b : DE} {δ : DEnv} {S : Store} : mIf c a b δ S = (c δ S).bind fun x S1 => pick2 x a b δ S1 := by
  unfold mIf pick2
  cases c δ S with
  | ok x S1 => cases x <;> rfl
  | _ => rfl
theorem mAndT_eq {a b : DT} {δ : DEnv} {S : Store} : mAndT a b δ S = (a δ S).bind fun x S1 => pick2 x (b δ S1) (.ok false S1) := by
  unfold mAndT pick2
  cases a δ S with
  | ok x S1 => cases x <;> rfl
  | _ => rfl
theorem mOrT_eq {a b : DT} {δ : DEnv} {S : Store} : mOrT a b δ S = (a δ S).bind fun x S1 => pick2 x (.ok true S1) (b δ S1) := by
  unfold mOrT pick2
  cases a δ S with
  | ok x S1 => cases x <;> rfl
  | _ => rfl
def andK (x : D) (b : R D) (S : Store) : R D := match asB x with
  | some true => b
  | some false => .ok (.dat (.bl false)) S
  | none => .fail
def orK (x : D) (b : R D) (S : Store) : R D := match asB x with
  | some true => .ok (.dat (.bl true)) S
  | some false => b
  | none => .fail
theorem mAnd_eq {a b : DE} {δ : DEnv} {S : Store} : mAnd a b δ S = (a δ S).bind fun x S1 => andK x (b δ S1) S1 := rfl
theorem mOr_eq {a b : DE} {δ : DEnv} {S : Store} : mOr a b δ S = (a δ S).bind fun x S1 => orK x (b δ S1) S1 := rfl
theorem mChain_eq {f h : Store → D → D → Option D} {a b c : DE} {δ : DEnv} {S : Store} : mChain f h a b c δ S = (a δ S).bind fun x S1 => (b δ S1).bind fun y S2 => (oR (f S2 x y) S2).bind fun z S3 => andK z ((c δ S3).bind fun w S4 => oR (h S4 y w) S4) S3 := rfl
theorem andK_t {b : R D} {S : Store} : andK (.dat (.bl true)) b S = b := rfl
theorem andK_f {b : R D} {S : Store} : andK (.dat (.bl false)) b S = .ok (.dat (.bl false)) S := rfl
theorem andK_ok {x y : Bool} {S : Store} : andK (.dat (.bl x)) (.ok (.dat (.bl y)) S) S = .ok (.dat (.bl (x && y))) S := by cases x <;> rfl
theorem orK_t {b : R D} {S : Store} : orK (.dat (.bl true)) b S = .ok (.dat (.bl true)) S := rfl
theorem orK_f {b : R D} {S : Store} : orK (.dat (.bl false)) b S = b := rfl
theorem orK_ok {x y : Bool} {S : Store} : orK (.dat (.bl x)) (.ok (.dat (.bl y)) S) S = .ok (.dat (.bl (x || y))) S := by cases x <;> rfl
theorem pick2_t {α : Type} {a b : α} : pick2 true a b = a := rfl
theorem pick2_f {α : Type} {a b : α} : pick2 false a b = b := rfl
theorem mNot_b {a : DE} {δ : DEnv} {S : Store} : mNot a δ S = (a δ S).bind fun x S1 => match asB x with
  | some b => .ok (.dat (.bl (!b))) S1
  | none => .fail := rfl
section
variable {K : PySem.W.Frag} {CS : List Addr} {S : Store}
theorem isi_non_int  : aIsi K CS S [.dat .non, .dat (.con (.ty "int"))] = some (.dat (.bl false)) := by
  show (PySem.W.kitOne K (.type "NoneType") (.type "int")).map dBl = _
  rw [kit_ty (r := false) (by decide +kernel)]; rfl
theorem isi_non_bool  : aIsi K CS S [.dat .non, .dat (.con (.ty "bool"))] = some (.dat (.bl false)) := by
  show (PySem.W.kitOne K (.type "NoneType") (.type "bool")).map dBl = _
  rw [kit_ty (r := false) (by decide +kernel)]; rfl
theorem isi_non_str  : aIsi K CS S [.dat .non, .dat (.con (.ty "str"))] = some (.dat (.bl false)) := by
  show (PySem.W.kitOne K (.type "NoneType") (.type "str")).map dBl = _
  rw [kit_ty (r := false) (by decide +kernel)]; rfl
theorem isi_non_tuple  : aIsi K CS S [.dat .non, .dat (.con (.ty "tuple"))] = some (.dat (.bl false)) := by
  show (PySem.W.kitOne K (.type "NoneType") (.type "tuple")).map dBl = _
  rw [kit_ty (r := false) (by decide +kernel)]; rfl
theorem isi_non_list  : aIsi K CS S [.dat .non, .dat (.con (.ty "list"))] = some (.dat (.bl false)) := by
  show (PySem.W.kitOne K (.type "NoneType") (.type "list")).map dBl = _
  rw [kit_ty (r := false) (by decide +kernel)]; rfl
theorem isi_non_dict  : aIsi K CS S [.dat .non, .dat (.con (.ty "dict"))] = some (.dat (.bl false)) := by
  show (PySem.W.kitOne K (.type "NoneType") (.type "dict")).map dBl = _
  rw [kit_ty (r := false) (by decide +kernel)]; rfl
theorem isi_bl_int {b : Bool} : aIsi K CS S [.dat (.bl b), .dat (.con (.ty "int"))] = some (.dat (.bl true)) := by
  show (PySem.W.kitOne K (.type "bool") (.type "int")).map dBl = _
  rw [kit_ty (r := true) (by decide +kernel)]; rfl
theorem isi_bl_bool {b : Bool} : aIsi K CS S [.dat (.bl b), .dat (.con (.ty "bool"))] = some (.dat (.bl true)) := by
  show (PySem.W.kitOne K (.type "bool") (.type "bool")).map dBl = _
  rw [kit_ty (r := true) (by decide +kernel)]; rfl
theorem isi_bl_str {b : Bool} : aIsi K CS S [.dat (.bl b), .dat (.con (.ty "str"))] = some (.dat (.bl false)) := by
  show (PySem.W.kitOne K (.type "bool") (.type "str")).map dBl = _
  rw [kit_ty (r := false) (by decide +kernel)]; rfl
theorem isi_bl_tuple {b : Bool} : aIsi K CS S [.dat (.bl b), .dat (.con (.ty "tuple"))] = some (.dat (.bl false)) := by
  show (PySem.W.kitOne K (.type "bool") (.type "tuple")).map dBl = _
  rw [kit_ty (r := false) (by decide +kernel)]; rfl
theorem isi_bl_list {b : Bool} : aIsi K CS S [.dat (.bl b), .dat (.con (.ty "list"))] = some (.dat (.bl false)) := by
  show (PySem.W.kitOne K (.type "bool") (.type "list")).map dBl = _
  rw [kit_ty (r := false) (by decide +kernel)]; rfl
theorem isi_bl_dict {b : Bool} : aIsi K CS S [.dat (.bl b), .dat (.con (.ty "dict"))] = some (.dat (.bl false)) := by
  show (PySem.W.kitOne K (.type "bool") (.type "dict")).map dBl = _
  rw [kit_ty (r := false) (by decide +kernel)]; rfl
theorem isi_int_int {i : Int} : aIsi K CS S [.dat (.int i), .dat (.con (.ty "int"))] = some (.dat (.bl true)) := by
  show (PySem.W.kitOne K (.type "int") (.type "int")).map dBl = _
  rw [kit_ty (r := true) (by decide +kernel)]; rfl
theorem isi_int_bool {i : Int} : aIsi K CS S [.dat (.int i), .dat (.con (.ty "bool"))] = some (.dat (.bl false)) := by
  show (PySem.W.kitOne K (.type "int") (.type "bool")).map dBl = _
  rw [kit_ty (r := false) (by decide +kernel)]; rfl
theorem isi_int_str {i : Int} : aIsi K CS S [.dat (.int i), .dat (.con (.ty "str"))] = some (.dat (.bl false)) := by
  show (PySem.W.kitOne K (.type "int") (.type "str")).map dBl = _
  rw [kit_ty (r := false) (by decide +kernel)]; rfl
theorem isi_int_tuple {i : Int} : aIsi K CS S [.dat (.int i), .dat (.con (.ty "tuple"))] = some (.dat (.bl false)) := by
  show (PySem.W.kitOne K (.type "int") (.type "tuple")).map dBl = _
  rw [kit_ty (r := false) (by decide +kernel)]; rfl
theorem isi_int_list {i : Int} : aIsi K CS S [.dat (.int i), .dat (.con (.ty "list"))] = some (.dat (.bl false)) := by
  show (PySem.W.kitOne K (.type "int") (.type "list")).map dBl = _
  rw [kit_ty (r := false) (by decide +kernel)]; rfl
theorem isi_int_dict {i : Int} : aIsi K CS S [.dat (.int i), .dat (.con (.ty "dict"))] = some (.dat (.bl false)) := by
  show (PySem.W.kitOne K (.type "int") (.type "dict")).map dBl = _
  rw [kit_ty (r := false) (by decide +kernel)]; rfl
theorem isi_str_int {z : Str} : aIsi K CS S [.dat (.str z), .dat (.con (.ty "int"))] = some (.dat (.bl false)) := by
  show (PySem.W.kitOne K (.type "str") (.type "int")).map dBl = _
  rw [kit_ty (r := false) (by decide +kernel)]; rfl
theorem isi_str_bool {z : Str} : aIsi K CS S [.dat (.str z), .dat (.con (.ty "bool"))] = some (.dat (.bl false)) := by
  show (PySem.W.kitOne K (.type "str") (.type "bool")).map dBl = _
  rw [kit_ty (r := false) (by decide +kernel)]; rfl
theorem isi_str_str {z : Str} : aIsi K CS S [.dat (.str z), .dat (.con (.ty "str"))] = some (.dat (.bl true)) := by
  show (PySem.W.kitOne K (.type "str") (.type "str")).map dBl = _
  rw [kit_ty (r := true) (by decide +kernel)]; rfl
theorem isi_str_tuple {z : Str} : aIsi K CS S [.dat (.str z), .dat (.con (.ty "tuple"))] = some (.dat (.bl false)) := by
  show (PySem.W.kitOne K (.type "str") (.type "tuple")).map dBl = _
  rw [kit_ty (r := false) (by decide +kernel)]; rfl
theorem isi_str_list {z : Str} : aIsi K CS S [.dat (.str z), .dat (.con (.ty "list"))] = some (.dat (.bl false)) := by
  show (PySem.W.kitOne K (.type "str") (.type "list")).map dBl = _
  rw [kit_ty (r := false) (by decide +kernel)]; rfl
theorem isi_str_dict {z : Str} : aIsi K CS S [.dat (.str z), .dat (.con (.ty "dict"))] = some (.dat (.bl false)) := by
  show (PySem.W.kitOne K (.type "str") (.type "dict")).map dBl = _
  rw [kit_ty (r := false) (by decide +kernel)]; rfl
theorem isi_tup_int {l : List P} : aIsi K CS S [.dat (.tup l), .dat (.con (.ty "int"))] = some (.dat (.bl false)) := by
  show (PySem.W.kitOne K (.type "tuple") (.type "int")).map dBl = _
  rw [kit_ty (r := false) (by decide +kernel)]; rfl
theorem isi_tup_bool {l : List P} : aIsi K CS S [.dat (.tup l), .dat (.con (.ty "bool"))] = some (.dat (.bl false)) := by
  show (PySem.W.kitOne K (.type "tuple") (.type "bool")).map dBl = _
  rw [kit_ty (r := false) (by decide +kernel)]; rfl
theorem isi_tup_str {l : List P} : aIsi K CS S [.dat (.tup l), .dat (.con (.ty "str"))] = some (.dat (.bl false)) := by
  show (PySem.W.kitOne K (.type "tuple") (.type "str")).map dBl = _
  rw [kit_ty (r := false) (by decide +kernel)]; rfl
theorem isi_tup_tuple {l : List P} : aIsi K CS S [.dat (.tup l), .dat (.con (.ty "tuple"))] = some (.dat (.bl true)) := by
  show (PySem.W.kitOne K (.type "tuple") (.type "tuple")).map dBl = _
  rw [kit_ty (r := true) (by decide +kernel)]; rfl
theorem isi_tup_list {l : List P} : aIsi K CS S [.dat (.tup l), .dat (.con (.ty "list"))] = some (.dat (.bl false)) := by
  show (PySem.W.kitOne K (.type "tuple") (.type "list")).map dBl = _
  rw [kit_ty (r := false) (by decide +kernel)]; rfl
theorem isi_tup_dict {l : List P} : aIsi K CS S [.dat (.tup l), .dat (.con (.ty "dict"))] = some (.dat (.bl false)) := by
  show (PySem.W.kitOne K (.type "tuple") (.type "dict")).map dBl = _
  rw [kit_ty (r := false) (by decide +kernel)]; rfl
theorem isi_lst_int {l : List P} : aIsi K CS S [.dat (.lst l), .dat (.con (.ty "int"))] = some (.dat (.bl false)) := by
  show (PySem.W.kitOne K (.type "list") (.type "int")).map dBl = _
  rw [kit_ty (r := false) (by decide +kernel)]; rfl
theorem isi_lst_bool {l : List P} : aIsi K CS S [.dat (.lst l), .dat (.con (.ty "bool"))] = some (.dat (.bl false)) := by
  show (PySem.W.kitOne K (.type "list") (.type "bool")).map dBl = _
  rw [kit_ty (r := false) (by decide +kernel)]; rfl
theorem isi_lst_str {l : List P} : aIsi K CS S [.dat (.lst l), .dat (.con (.ty "str"))] = some (.dat (.bl false)) := by
  show (PySem.W.kitOne K (.type "list") (.type "str")).map dBl = _
  rw [kit_ty (r := false) (by decide +kernel)]; rfl
theorem isi_lst_tuple {l : List P} : aIsi K CS S [.dat (.lst l), .dat (.con (.ty "tuple"))] = some (.dat (.bl false)) := by
  show (PySem.W.kitOne K (.type "list") (.type "tuple")).map dBl = _
  rw [kit_ty (r := false) (by decide +kernel)]; rfl
theorem isi_lst_list {l : List P} : aIsi K CS S [.dat (.lst l), .dat (.con (.ty "list"))] = some (.dat (.bl true)) := by
  show (PySem.W.kitOne K (.type "list") (.type "list")).map dBl = _
  rw [kit_ty (r := true) (by decide +kernel)]; rfl
theorem isi_lst_dict {l : List P} : aIsi K CS S [.dat (.lst l), .dat (.con (.ty "dict"))] = some (.dat (.bl false)) := by
  show (PySem.W.kitOne K (.type "list") (.type "dict")).map dBl = _
  rw [kit_ty (r := false) (by decide +kernel)]; rfl
theorem isi_dic_int {l : List (P × P)} : aIsi K CS S [.dat (.dic l), .dat (.con (.ty "int"))] = some (.dat (.bl false)) := by
  show (PySem.W.kitOne K (.type "dict") (.type "int")).map dBl = _
  rw [kit_ty (r := false) (by decide +kernel)]; rfl
theorem isi_dic_bool {l : List (P × P)} : aIsi K CS S [.dat (.dic l), .dat (.con (.ty "bool"))] = some (.dat (.bl false)) := by
  show (PySem.W.kitOne K (.type "dict") (.type "bool")).map dBl = _
  rw [kit_ty (r := false) (by decide +kernel)]; rfl
theorem isi_dic_str {l : List (P × P)} : aIsi K CS S [.dat (.dic l), .dat (.con (.ty "str"))] = some (.dat (.bl false)) := by
  show (PySem.W.kitOne K (.type "dict") (.type "str")).map dBl = _
  rw [kit_ty (r := false) (by decide +kernel)]; rfl
theorem isi_dic_tuple {l : List (P × P)} : aIsi K CS S [.dat (.dic l), .dat (.con (.ty "tuple"))] = some (.dat (.bl false)) := by
  show (PySem.W.kitOne K (.type "dict") (.type "tuple")).map dBl = _
  rw [kit_ty (r := false) (by decide +kernel)]; rfl
theorem isi_dic_list {l : List (P × P)} : aIsi K CS S [.dat (.dic l), .dat (.con (.ty "list"))] = some (.dat (.bl false)) := by
  show (PySem.W.kitOne K (.type "dict") (.type "list")).map dBl = _
  rw [kit_ty (r := false) (by decide +kernel)]; rfl
theorem isi_dic_dict {l : List (P × P)} : aIsi K CS S [.dat (.dic l), .dat (.con (.ty "dict"))] = some (.dat (.bl true)) := by
  show (PySem.W.kitOne K (.type "dict") (.type "dict")).map dBl = _
  rw [kit_ty (r := true) (by decide +kernel)]; rfl
theorem isi_scr_int {l : List Int} : aIsi K CS S [.dat (.scr l), .dat (.con (.ty "int"))] = some (.dat (.bl false)) := by
  show (PySem.W.kitOne K (.type "list") (.type "int")).map dBl = _
  rw [kit_ty (r := false) (by decide +kernel)]; rfl
theorem isi_scr_bool {l : List Int} : aIsi K CS S [.dat (.scr l), .dat (.con (.ty "bool"))] = some (.dat (.bl false)) := by
  show (PySem.W.kitOne K (.type "list") (.type "bool")).map dBl = _
  rw [kit_ty (r := false) (by decide +kernel)]; rfl
theorem isi_scr_str {l : List Int} : aIsi K CS S [.dat (.scr l), .dat (.con (.ty "str"))] = some (.dat (.bl false)) := by
  show (PySem.W.kitOne K (.type "list") (.type "str")).map dBl = _
  rw [kit_ty (r := false) (by decide +kernel)]; rfl
theorem isi_scr_tuple {l : List Int} : aIsi K CS S [.dat (.scr l), .dat (.con (.ty "tuple"))] = some (.dat (.bl false)) := by
  show (PySem.W.kitOne K (.type "list") (.type "tuple")).map dBl = _
  rw [kit_ty (r := false) (by decide +kernel)]; rfl
theorem isi_scr_list {l : List Int} : aIsi K CS S [.dat (.scr l), .dat (.con (.ty "list"))] = some (.dat (.bl true)) := by
  show (PySem.W.kitOne K (.type "list") (.type "list")).map dBl = _
  rw [kit_ty (r := true) (by decide +kernel)]; rfl
theorem isi_scr_dict {l : List Int} : aIsi K CS S [.dat (.scr l), .dat (.con (.ty "dict"))] = some (.dat (.bl false)) := by
  show (PySem.W.kitOne K (.type "list") (.type "dict")).map dBl = _
  rw [kit_ty (r := false) (by decide +kernel)]; rfl
end
section
variable {S : Store} {i j : Int}
theorem add_ii : aAdd S (.dat (.int i)) (.dat (.int j)) = some (.dat (.int (i + j))) := rfl
theorem sub_ii : aSub S (.dat (.int i)) (.dat (.int j)) = some (.dat (.int (i - j))) := rfl
theorem lt_ii : aLt S (.dat (.int i)) (.dat (.int j)) = some (.dat (.bl (decide (i < j)))) := rfl
theorem le_ii : aLe S (.dat (.int i)) (.dat (.int j)) = some (.dat (.bl (decide (i ≤ j)))) := rfl
theorem gt_ii : aGt S (.dat (.int i)) (.dat (.int j)) = some (.dat (.bl (decide (j < i)))) := rfl
theorem ge_ii : aGe S (.dat (.int i)) (.dat (.int j)) = some (.dat (.bl (decide (j ≤ i)))) := rfl
theorem mul_ii : aMul S (.dat (.int i)) (.dat (.int j)) = if cMul i j = true then some (.dat (.int (i * j))) else none := rfl
theorem mul_l (h : i.natAbs < 2 ^ 64) : aMul S (.dat (.int i)) (.dat (.int j)) = some (.dat (.int (i * j))) := by rw [mul_ii, if_pos (by unfold cMul; simp [h])]
theorem mul_r (h : j.natAbs < 2 ^ 64) : aMul S (.dat (.int i)) (.dat (.int j)) = some (.dat (.int (i * j))) := by rw [mul_ii, if_pos (by unfold cMul; simp [h])]
theorem mod_ii (h : 0 < j) : aMod S (.dat (.int i)) (.dat (.int j)) = some (.dat (.int (i % j))) := by show (if decide (0 < j) = true then _ else _) = _; rw [if_pos (by simpa using h)]; rfl
theorem div_ii (h : 0 < j) (h2 : j < 2 ^ 64) : aDiv S (.dat (.int i)) (.dat (.int j)) = some (.dat (.int (i / j))) := by
  show (if (decide (0 < j) && decide (j.natAbs.log2 < 9000)) = true then _ else _) = _
  have q : j.natAbs.log2 < 64 := (Nat.log2_lt (by omega)).mpr (by omega)
  rw [if_pos (by rw [Bool.and_eq_true]; exact ⟨decide_eq_true h, decide_eq_true (by omega)⟩)]; rfl
theorem pow_ii (h : 0 ≤ j) (h1 : j ≤ 1000000) (h2 : i.natAbs < 2 ^ 64) : aPow S (.dat (.int i)) (.dat (.int j)) = some (.dat (.int (i ^ j.toNat))) := by
  show (if _ = true then _ else _) = _
  rw [if_pos (by rw [Bool.and_eq_true, Bool.and_eq_true]; exact ⟨⟨decide_eq_true h, decide_eq_true h1⟩, decide_eq_true h2⟩)]; rfl
theorem neg_i : aNeg S (.dat (.int i)) = some (.dat (.int (-i))) := rfl
theorem eq_ii : aEq S (.dat (.int i)) (.dat (.int j)) = some (.dat (.bl (decide (i = j)))) := rfl
theorem ne_ii : aNe S (.dat (.int i)) (.dat (.int j)) = some (.dat (.bl (!decide (i = j)))) := rfl
theorem eq_ss {s z : Str} : aEq S (.dat (.str s)) (.dat (.str z)) = some (.dat (.bl (decide (s = z)))) := rfl
theorem ne_ss {s z : Str} : aNe S (.dat (.str s)) (.dat (.str z)) = some (.dat (.bl (!decide (s = z)))) := rfl
theorem eq_bb {a b : Bool} : aEq S (.dat (.bl a)) (.dat (.bl b)) = some (.dat (.bl (decide (a = b)))) := rfl
theorem ne_bb {a b : Bool} : aNe S (.dat (.bl a)) (.dat (.bl b)) = some (.dat (.bl (!decide (a = b)))) := rfl
theorem isN_n : aIsN S (.dat .non) (.dat .non) = some (.dat (.bl true)) := rfl
theorem notN_n : aNotN S (.dat .non) (.dat .non) = some (.dat (.bl false)) := rfl
theorem isN_i : aIsN S (.dat (.int i)) (.dat .non) = some (.dat (.bl false)) := rfl
theorem notN_i : aNotN S (.dat (.int i)) (.dat .non) = some (.dat (.bl true)) := rfl
theorem isN_b {b : Bool} : aIsN S (.dat (.bl b)) (.dat .non) = some (.dat (.bl false)) := rfl
theorem notN_b {b : Bool} : aNotN S (.dat (.bl b)) (.dat .non) = some (.dat (.bl true)) := rfl
theorem isN_s {b : Str} : aIsN S (.dat (.str b)) (.dat .non) = some (.dat (.bl false)) := rfl
theorem notN_s {b : Str} : aNotN S (.dat (.str b)) (.dat .non) = some (.dat (.bl true)) := rfl
theorem isN_t {b : List P} : aIsN S (.dat (.tup b)) (.dat .non) = some (.dat (.bl false)) := rfl
theorem notN_t {b : List P} : aNotN S (.dat (.tup b)) (.dat .non) = some (.dat (.bl true)) := rfl
theorem isN_l {b : List P} : aIsN S (.dat (.lst b)) (.dat .non) = some (.dat (.bl false)) := rfl
theorem notN_l {b : List P} : aNotN S (.dat (.lst b)) (.dat .non) = some (.dat (.bl true)) := rfl
theorem isB_n {c : Bool} : aIsB S (.dat .non) (.dat (.bl c)) = some (.dat (.bl false)) := rfl
theorem isB_i {c : Bool} : aIsB S (.dat (.int i)) (.dat (.bl c)) = some (.dat (.bl false)) := rfl
theorem isB_b {b c : Bool} : aIsB S (.dat (.bl b)) (.dat (.bl c)) = some (.dat (.bl (decide (b = c)))) := rfl
theorem isB_s {b : Str} {c : Bool} : aIsB S (.dat (.str b)) (.dat (.bl c)) = some (.dat (.bl false)) := rfl
theorem isB_t {b : List P} {c : Bool} : aIsB S (.dat (.tup b)) (.dat (.bl c)) = some (.dat (.bl false)) := rfl
theorem isB_l {b : List P} {c : Bool} : aIsB S (.dat (.lst b)) (.dat (.bl c)) = some (.dat (.bl false)) := rfl
theorem int_i : aInt S [.dat (.int i)] = some (.dat (.int i)) := rfl
theorem int_b {b : Bool} : aInt S [.dat (.bl b)] = some (.dat (.int (if b then 1 else 0))) := rfl
theorem max_ii : aMax S [.dat (.int i), .dat (.int j)] = some (.dat (.int (if j > i then j else i))) := rfl
theorem min_ii : aMin S [.dat (.int i), .dat (.int j)] = some (.dat (.int (if j < i then j else i))) := rfl
theorem listP_l {l : List P} : listP S (.dat (.lst l)) = some l := by show datAll _ = _; exact datAll_map l
theorem len_t {l : List P} : aLen S [.dat (.tup l)] = some (.dat (.int l.length)) := by show some (dInt ((l.map D.dat).length : Nat)) = _; rw [List.length_map]; rfl
theorem len_l {l : List P} : aLen S [.dat (.lst l)] = some (.dat (.int l.length)) := by show some (dInt ((l.map D.dat).length : Nat)) = _; rw [List.length_map]; rfl
theorem len_scr {l : List Int} : aLen S [.dat (.scr l)] = some (.dat (.int l.length)) := by show some (dInt ((l.map fun i => D.dat (.int i)).length : Nat)) = _; rw [List.length_map]; rfl
theorem len_o {o : Nat} {l : List D} (h : S[o]? = some (.lst l)) : aLen S [.obj o] = some (.dat (.int l.length)) := by
  have q : seqD S (.obj o) = some l := by show (match S[o]? with | some (.lst l) => some l | _ => none) = _; rw [h]
  show (seqD S (.obj o)).map _ = _
  rw [q]; rfl
theorem tuple_l {l : List P} : aTuple S [.dat (.lst l)] = some (.dat (.tup l)) := by show (listP S _).map _ = _; rw [listP_l]; rfl
theorem tuple_t {l : List P} : aTuple S [.dat (.tup l)] = some (.dat (.tup l)) := rfl
theorem listP_o {o : Nat} {l : List P} (h : S[o]? = some (.lst (l.map .dat))) : listP S (.obj o) = some l := by
  show (match S[o]? with | some (.lst l) => some l | _ => none : Option (List D)).bind datAll = _
  rw [h]; exact datAll_map l
theorem tuple_o {o : Nat} {l : List P} (h : S[o]? = some (.lst (l.map .dat))) : aTuple S [.obj o] = some (.dat (.tup l)) := by show (listP S _).map _ = _; rw [listP_o h]; rfl
theorem add_ll {l k : List P} (h : l.length + k.length ≤ 100000) : aAdd S (.dat (.lst l)) (.dat (.lst k)) = some (.dat (.lst (l ++ k))) := by
  show (match listP S (.dat (.lst l)), listP S (.dat (.lst k)) with | some l, some k => _ | _, _ => _) = _
  rw [listP_l, listP_l]; exact if_pos h
theorem ixN_nat {n k : Nat} (h : k < n) : ixN n (k : Int) = some k := by
  unfold ixN
  rw [if_pos (by omega), if_pos (by omega)]; rfl
theorem ixN_of {n : Nat} {i : Int} (h : 0 ≤ i) (h1 : i < n) : ixN n i = some i.toNat := by
  unfold ixN
  rw [if_pos h, if_pos h1]
theorem ixN_last {n : Nat} (h : 0 < n) : ixN n (-1) = some (n - 1) := by
  unfold ixN
  rw [if_neg (by omega), if_pos (by omega)]
  congr 1
  omega
theorem atN {α : Type} {l : List α} {k : Nat} {x : α} (h : l[k]? = some x) : atI l (k : Int) = some x := by
  unfold atI
  rw [ixN_nat (List.getElem?_eq_some_iff.mp h).1]
  exact h
theorem atI_of {α : Type} {l : List α} {i : Int} {x : α} (h0 : 0 ≤ i) (h : l[i.toNat]? = some x) : atI l i = some x := by
  have q := (List.getElem?_eq_some_iff.mp h).1
  unfold atI
  rw [ixN_of h0 (by omega)]
  exact h
theorem atI_last {α : Type} {l : List α} {x : α} (h : l.getLast? = some x) : atI l (-1) = some x := by
  cases l with
  | nil => cases h
  | cons a l =>
    unfold atI
    rw [ixN_last (by simp)]
    rw [List.getLast?_eq_getElem?] at h
    exact h
theorem ix_t {l : List P} {x : P} (h : atI l i = some x) : aIx S (.dat (.tup l)) (.dat (.int i)) = some (.dat x) := by show (atI l i).map D.dat = _; rw [h]; rfl
theorem ix_l {l : List P} {x : P} (h : atI l i = some x) : aIx S (.dat (.lst l)) (.dat (.int i)) = some (.dat x) := by show (atI l i).map D.dat = _; rw [h]; rfl
theorem seqD_o {o : Nat} {l : List D} (h : S[o]? = some (.lst l)) : seqD S (.obj o) = some l := by show (match S[o]? with | some (.lst l) => some l | _ => none) = _; rw [h]
theorem ix_o {o : Nat} {l : List D} {x : D} (ho : S[o]? = some (.lst l)) (h : atI l i = some x) : aIx S (.obj o) (.dat (.int i)) = some x := by
  show (match seqD S (.obj o) with | some l => atI l i | none => none) = _
  rw [seqD_o ho]; exact h
theorem setD_o {o : Nat} {l : List D} {x : D} {k : Nat} (ho : S[o]? = some (.lst l)) (h : ixN l.length i = some k) : setD (.obj o) (.dat (.int i)) x S = some (S.set o (.lst (l.set k x))) := by
  show (match S[o]? with | some (.lst l) => (ixN l.length i).map fun j => S.set o (.lst (l.set j x)) | _ => none) = _
  rw [ho]
  show (ixN l.length i).map _ = _
  rw [h]; rfl
theorem app_o {o : Nat} {l : List D} {x : D} (ho : S[o]? = some (.lst l)) (h : l.length < 100000) : updL fAppend (.obj o) [x] S = .ok (.dat .non) (S.set o (.lst (l ++ [x]))) := by
  have q : fAppend l [x] = some (.dat .non, l ++ [x]) := if_pos h
  unfold updL
  simp only [ho, q]
theorem kind_o {o : Nat} {l : List D} (ho : S[o]? = some (.lst l)) : isKind "list" S (.obj o) = true := by
  show (if ("list" : String) = "list" then (listD S (.obj o)).isSome else _) = true
  rw [if_pos rfl]
  show (match S[o]? with | some (.lst l) => some l | _ => none : Option (List D)).isSome = true
  rw [ho]; rfl
end
theorem pure_dat {f : List D → Store → R D} {ds : List D} {ps : List P} {p : P} {S S' : Store} (hd : datAll ds = some ps) (h : f ds [] = .ok (.dat p) S') : mPure f ds S = .ok (.dat p) S := by
  unfold mPure; rw [hd]; simp only [h]
theorem pure_obj {f : List D → Store → R D} {ds : List D} {ps : List P} {p : P} {i : Nat} {S S' : Store} (hd : datAll ds = some ps) (h : f ds [] = .ok (.obj i) S') (z : frz1 S' i = some p) : mPure f ds S = .ok (.dat p) S := by
  unfold mPure; rw [hd]; simp only [h, z]
theorem pure_exc {f : List D → Store → R D} {ds : List D} {ps : List P} {C : Addr} {x : Option (Str × P)} {S S' : Store} (hd : datAll ds = some ps) (h : f ds [] = .exc C x S') : mPure f ds S = .exc C x S := by
  unfold mPure; rw [hd]; simp only [h]
/-- a run that ends well -/
def Ends (r : R Out) (Q : Out → Store → Prop) : Prop := ∃ o S, r = .ok o S ∧ Q o S
/-- what a turn leaves: go on (to J), or leave (to Q) -/
def TurnP (J : DEnv → Store → Prop) (Q : Out → Store → Prop) : Out → Store → Prop
  | .nx δ, S => J δ S
  | .ct δ, S => J δ S
  | .bk δ, S => Q (.nx δ) S
  | .rt d, S => Q (.rt d) S
  | .ex C x δ, S => Q (.ex C x δ) S
theorem turn_ends {r : R Out} {k : DEnv → Store → R Out} {J : DEnv → Store → Prop} {Q : Out → Store → Prop} (h : Ends r (TurnP J Q)) (hk : ∀ δ S, J δ S → Ends (k δ S) Q) : Ends (mTurn r k) Q := by
  obtain ⟨o, S, rfl, q⟩ := h
  cases o with
  | nx δ => exact hk δ S q
  | ct δ => exact hk δ S q
  | bk δ => exact ⟨_, _, rfl, q⟩
  | rt d => exact ⟨_, _, rfl, q⟩
  | ex C x δ => exact ⟨_, _, rfl, q⟩
/-- for: I i before the item at i -/
theorem forL_ends {g : DG} {b : DS} (I : Nat → DEnv → Store → Prop) {Q : Out → Store → Prop} : ∀ {l : List D} {i : Nat} {δ : DEnv} {S : Store}, I i δ S →
    (∀ k d δ S, l[k]? = some d → I (i + k) δ S → Ends ((g d δ S).st δ b) (TurnP (I (i + k + 1)) Q)) → (∀ δ S, I (i + l.length) δ S → Q (.nx δ) S) → Ends (mForL g b l δ S) Q
  | [], i, δ, S, h, _, q => ⟨_, _, rfl, q δ S h⟩
  | d :: l, i, δ, S, h, st, q => by
    refine turn_ends (J := I (i + 1)) (st 0 d δ S rfl h) fun δ S h1 => forL_ends (l := l) (i := i + 1) I h1 (fun k d δ S e hi => ?_) (fun δ S hi => q δ S ?_)
    · have z := st (k + 1) d δ S (by simpa using e) (by rw [show i + (k + 1) = i + 1 + k by omega]; exact hi)
      rw [show i + (k + 1) + 1 = i + 1 + k + 1 by omega] at z
      exact z
    · rw [List.length_cons, show i + (l.length + 1) = i + 1 + l.length by omega]; exact hi
/-- while: a measure goes down -/
theorem whileN_ends {c : DT} {b : DS} (I : Nat → DEnv → Store → Prop) {Q : Out → Store → Prop}
    (st : ∀ m δ S, I m δ S → ∃ x S1, c δ S = .ok x S1 ∧ (x = true → Ends (b δ S1) (TurnP (fun δ' S' => ∃ m', m' < m ∧ I m' δ' S') Q)) ∧ (x = false → Q (.nx δ) S1)) : ∀ {n m : Nat} {δ : DEnv} {S : Store}, m < n → I m δ S → Ends (mWhileN c b n δ S) Q
  | 0, m, δ, S, h, _ => absurd h (Nat.not_lt_zero _)
  | n + 1, m, δ, S, h, hi => by
    obtain ⟨x, S1, e, h1, h2⟩ := st m δ S hi
    unfold mWhileN
    rw [e, R.st_ok]
    cases x with
    | false => exact ⟨_, _, rfl, h2 rfl⟩
    | true => exact turn_ends (h1 rfl) fun δ' S' ⟨m', lt, hi'⟩ => whileN_ends I st (by omega) hi'
theorem while_ends {c : DT} {b : DS} (I : Nat → DEnv → Store → Prop) {Q : Out → Store → Prop} {m : Nat} {δ : DEnv} {S : Store} (hm : m < 1000000000) (hi : I m δ S)
    (st : ∀ m δ S, I m δ S → ∃ x S1, c δ S = .ok x S1 ∧ (x = true → Ends (b δ S1) (TurnP (fun δ' S' => ∃ m', m' < m ∧ I m' δ' S') Q)) ∧ (x = false → Q (.nx δ) S1)) : Ends (mWhile c b δ S) Q := by
  unfold mWhile FUEL
  exact whileN_ends I st hm hi
theorem then_ends {r : R Out} {b : DS} {Q1 Q : Out → Store → Prop} (h : Ends r Q1) (k : ∀ o S, Q1 o S → Ends (thenS (.ok o S) b) Q) : Ends (thenS r b) Q := by
  obtain ⟨o, S, rfl, q⟩ := h
  exact k o S q
/-- a comprehension over items, when each item is a pure value: f i = none leaves out -/
theorem lc_pure {g : DG} {t : DT} {e : DE} {vs : List Nat} {δ : DEnv} {S : Store} (f : D → Option D) : ∀ {l acc : List D}, (acc.length + l.length ≤ 100000) →
    (∀ d ∈ l, ∃ δ1, g d (wipeD δ vs) S = .ok δ1 S ∧ match f d with
      | some y => t δ1 S = .ok true S ∧ e δ1 S = .ok y S
      | none => t δ1 S = .ok false S) → mLcL g t e vs δ l acc S = .ok (acc ++ l.filterMap f) S
  | [], acc, _, _ => by simp [mLcL]
  | d :: l, acc, hl, h => by
    obtain ⟨δ1, e1, e2⟩ := h d (List.mem_cons_self ..)
    unfold mLcL
    rw [e1, R.bnf_ok]
    rw [List.length_cons] at hl
    cases q : f d with
    | none =>
      rw [q] at e2
      rw [e2, R.bnf_ok]
      show mLcL g t e vs δ l acc S = _
      rw [lc_pure f (by omega) fun d m => h d (List.mem_cons_of_mem _ m), List.filterMap_cons, q]
    | some y =>
      rw [q] at e2
      rw [e2.1, R.bnf_ok]
      show (e δ1 S).bnf _ = _
      rw [e2.2, R.bnf_ok, if_pos (by omega), lc_pure f (by rw [List.length_append, List.length_singleton]; omega) fun d m => h d (List.mem_cons_of_mem _ m), List.filterMap_cons, q]
      simp
end M3
local macro_rules | `(tactic| dsimp! [$ls,*]) => `(tactic| simp only [M3.mBody_fin, M3.fin_nx, M3.fin_rt, M3.fin_ex, M3.mSeq_then, M3.then_nx, M3.then_rt, M3.then_bk, M3.then_ct, M3.then_ex, M3.mIfS_eq, M3.mIf_eq, M3.mAndT_eq, M3.mOrT_eq, M3.mAnd_eq, M3.mOr_eq, M3.andK_t, M3.andK_f, M3.andK_ok, M3.orK_t, M3.orK_f, M3.orK_ok, M3.pick2_t, M3.pick2_f, M3.mNot_b, M3.asB, M3.mVar, M3.mC, M3.mOp, M3.mUn, M3.mNil, M3.mCons, M3.mTst, M3.mNotT, M3.mChain_eq, M3.mCall, M3.mDef, M3.mRet, M3.mRetN, M3.mDrop, M3.mAsg, M3.gmName, M3.gmSub, M3.mBrk, M3.mCnt, M3.mNext, M3.mTrk, M3.mLst, M3.mFrz, M3.mTup, M3.mYes, M3.mPar, M3.mRaise0, M3.mRaise1, M3.gmTup, M3.gmCons, M3.gmNil, M3.wipeD, M3.R.bind_ok, M3.R.bind_exc, M3.R.st_ok, M3.R.st_exc, M3.R.bnf_ok, M3.oR_some, M3.datAll_map, M3.datAll, Option.map_some, Option.bind_some, List.getElem?_cons_zero, List.getElem?_cons_succ, List.set_cons_zero, List.set_cons_succ, List.map_cons, List.map_nil, List.length_cons, List.length_nil, List.replicate_succ, List.replicate_zero, List.cons_append, List.nil_append, Nat.reduceAdd, Nat.reduceSub, Nat.zero_add, Nat.sub_self, Nat.reduceEqDiff, Nat.zero_le, Nat.reduceLeDiff, Int.reduceLE, Int.reduceLT, Int.reduceEq, Int.reduceNeg, Int.reduceAdd, Int.reduceSub, Int.reduceMul, decide_true, decide_false, Bool.not_true, Bool.not_false, Bool.true_and, Bool.false_and, Bool.and_true, Bool.and_false, Bool.true_or, Bool.false_or, if_true, ite_true, reduceIte, M3.isi_non_int, M3.isi_non_bool, M3.isi_non_str, M3.isi_non_tuple, M3.isi_non_list, M3.isi_non_dict, M3.isi_bl_int, M3.isi_bl_bool, M3.isi_bl_str, M3.isi_bl_tuple, M3.isi_bl_list, M3.isi_bl_dict, M3.isi_int_int, M3.isi_int_bool, M3.isi_int_str, M3.isi_int_tuple, M3.isi_int_list, M3.isi_int_dict, M3.isi_str_int, M3.isi_str_bool, M3.isi_str_str, M3.isi_str_tuple, M3.isi_str_list, M3.isi_str_dict, M3.isi_tup_int, M3.isi_tup_bool, M3.isi_tup_str, M3.isi_tup_tuple, M3.isi_tup_list, M3.isi_tup_dict, M3.isi_lst_int, M3.isi_lst_bool, M3.isi_lst_str, M3.isi_lst_tuple, M3.isi_lst_list, M3.isi_lst_dict, M3.isi_dic_int, M3.isi_dic_bool, M3.isi_dic_str, M3.isi_dic_tuple, M3.isi_dic_list, M3.isi_dic_dict, M3.isi_scr_int, M3.isi_scr_bool, M3.isi_scr_str, M3.isi_scr_tuple, M3.isi_scr_list, M3.isi_scr_dict, M3.add_ii, M3.sub_ii, M3.lt_ii, M3.le_ii, M3.gt_ii, M3.ge_ii, M3.neg_i, M3.eq_ii, M3.ne_ii, M3.eq_ss, M3.ne_ss, M3.eq_bb, M3.ne_bb, M3.isN_n, M3.notN_n, M3.isN_i, M3.notN_i, M3.isN_b, M3.notN_b, M3.isN_s, M3.notN_s, M3.isN_t, M3.notN_t, M3.isN_l, M3.notN_l, M3.isB_n, M3.isB_i, M3.isB_b, M3.isB_s, M3.isB_t, M3.isB_l, M3.int_i, M3.int_b, M3.max_ii, M3.min_ii, M3.len_t, M3.len_l, M3.len_scr, M3.tuple_l, M3.tuple_t, $ls,*])
namespace W2
inductive Ch (ps : List (Option Nat)) : Nat → List Nat → Prop
  | root {h : Nat} : ps[h]? = some none → Ch ps h [h]
  | step {h p : Nat} {l : List Nat} : ps[h]? = some (some p) → Ch ps p l → Ch ps h (h :: l)
theorem Ch.head {ps : List (Option Nat)} {h : Nat} {l : List Nat} (c : Ch ps h l) : ∃ r, l = h :: r := by
  cases c with
  | root _ => exact ⟨[], rfl⟩
  | step _ _ => exact ⟨_, rfl⟩
theorem Ch.det {ps : List (Option Nat)} {h : Nat} {l : List Nat} (c : Ch ps h l) : ∀ {m : List Nat}, Ch ps h m → l = m := by
  induction c with
  | root e =>
    intro m d
    cases d with
    | root _ => rfl
    | step e2 _ => rw [e] at e2; cases e2
  | step e c ih =>
    intro m d
    cases d with
    | root e2 => rw [e] at e2; cases e2
    | step e2 d2 =>
      rw [e] at e2
      cases e2
      rw [ih d2]
theorem Ch.tail {ps : List (Option Nat)} : ∀ {pre : List Nat} {h x : Nat} {post : List Nat}, Ch ps h (pre ++ x :: post) → Ch ps x (x :: post)
  | [], h, x, post, c => by
    obtain ⟨r, e⟩ := c.head
    have e1 : x = h := by simpa using (List.cons.inj e).1
    subst e1
    exact c
  | a :: pre, h, x, post, c => by
    have go : ∀ m, Ch ps h m → m = a :: (pre ++ x :: post) → Ch ps x (x :: post) := by
      intro m d e
      cases d with
      | root _ =>
        have := (List.cons.inj e).2
        cases pre <;> simp at this
      | step _ d2 =>
        have e2 := (List.cons.inj e).2
        subst e2
        exact Ch.tail d2
    exact go _ c rfl
theorem Ch.lt {ps : List (Option Nat)} {h : Nat} {l : List Nat} (c : Ch ps h l) : ∀ x ∈ l, x < ps.length := by
  induction c with
  | @root h e =>
    intro x hx
    have q : x = h := by simpa using hx
    subst q
    exact (List.getElem?_eq_some_iff.mp e).1
  | step e c ih =>
    intro x hx
    rcases List.mem_cons.mp hx with rfl | hx
    · exact (List.getElem?_eq_some_iff.mp e).1
    · exact ih x hx
theorem Ch.nodup {ps : List (Option Nat)} {h : Nat} {l : List Nat} (c : Ch ps h l) : l.Nodup := by
  induction c with
  | root e => simp
  | @step h p l e c ih =>
    refine List.nodup_cons.mpr ⟨fun hm => ?_, ih⟩
    obtain ⟨pre, post, e2⟩ := List.append_of_mem hm
    subst e2
    have d := Ch.tail c
    have d2 : Ch ps h (h :: (pre ++ h :: post)) := .step e c
    have q := congrArg List.length (d.det d2)
    simp at q
    omega
theorem Ch.par_lt {ps : List (Option Nat)} {h p : Nat} {l : List Nat} (c : Ch ps h l) (e : ps[h]? = some (some p)) : p < ps.length := by
  cases c with
  | root e2 => rw [e] at e2; cases e2
  | step e2 c2 =>
    rw [e] at e2
    cases e2
    obtain ⟨r, e3⟩ := c2.head
    exact c2.lt _ (by rw [e3]; simp)
open Classical in
noncomputable def up (ps : List (Option Nat)) (h : Nat) : List Nat := if e : ∃ l, Ch ps h l then e.choose else []
theorem up_of {ps : List (Option Nat)} {h : Nat} {l : List Nat} (c : Ch ps h l) : up ps h = l := by
  unfold up
  rw [dif_pos ⟨l, c⟩]
  exact (Exists.choose_spec (⟨l, c⟩ : ∃ l, Ch ps h l)).det c
/-- a right forest -/
def Tree (ps : List (Option Nat)) : Prop := ∀ h, h < ps.length → Ch ps h (up ps h) ∧ (up ps h).length ≤ ps.length
theorem tree_of {ps : List (Option Nat)} (h : ∀ h, h < ps.length → ∃ l, Ch ps h l ∧ l.length ≤ ps.length) : Tree ps := fun x hx => by
  obtain ⟨l, c, z⟩ := h x hx
  rw [up_of c]
  exact ⟨c, z⟩
theorem nodup_len : ∀ {n : Nat} {l : List Nat}, l.Nodup → (∀ x ∈ l, x < n) → l.length ≤ n
  | 0, l, _, h => by
    cases l with
    | nil => exact Nat.le_refl _
    | cons a r => exact absurd (h a (by simp)) (by omega)
  | n + 1, l, nd, h => by
    by_cases hm : n ∈ l
    · have nd2 : (l.erase n).Nodup := nd.erase n
      have h2 : ∀ x ∈ l.erase n, x < n := fun x hx => by
        have h3 := h x (List.mem_of_mem_erase hx)
        have h4 : x ≠ n := fun e => by
          subst e
          exact (List.Nodup.mem_erase_iff nd).mp hx |>.1 rfl
        omega
      have h5 := nodup_len nd2 h2
      rw [List.length_erase_of_mem hm] at h5
      omega
    · have h2 : ∀ x ∈ l, x < n := fun x hx => by
        have h3 := h x hx
        have h4 : x ≠ n := fun e => hm (e ▸ hx)
        omega
      exact Nat.le_succ_of_le (nodup_len nd h2)
theorem Ch.len {ps : List (Option Nat)} {h : Nat} {l : List Nat} (c : Ch ps h l) : l.length ≤ ps.length := nodup_len c.nodup c.lt
/-- each parent is a house -/
def Inr (ps : List (Option Nat)) : Prop := ∀ (k q : Nat), ps[k]? = some (some q) → q < ps.length
theorem Tree.inr {ps : List (Option Nat)} (t : Tree ps) : Inr ps := fun k q e => Ch.par_lt (t k (List.getElem?_eq_some_iff.mp e).1).1 e
end W2
namespace M3
open PySem PySem.Spec PyProof.Rows L2
variable [TabsP]
def ov : Option Nat → P
  | none => .non
  | some q => .int q
def nv (h : Nat) : P := .int h
theorem rngD_get {lo : Int} {n k : Nat} {d : D} (h : (rngD lo n)[k]? = some d) : k < n ∧ d = .dat (.int (lo + (k : Int))) := by
  unfold rngD at h
  rw [List.getElem?_map] at h
  have hk : k < n := by
    by_cases c : k < n
    · exact c
    · rw [List.getElem?_eq_none (by simpa using c)] at h; cases h
  rw [List.getElem?_range hk] at h
  cases h
  exact ⟨hk, rfl⟩
theorem rng1_ok {a : DA} {δ : DEnv} {S S1 : Store} {n : Nat} (h : a δ S = .ok [.dat (.int (n : Int))] S1) (hn : n ≤ 100000) : mRng1 a δ S = .ok (.items (rngD 0 n)) S1 := by
  unfold mRng1
  rw [h, R.bind_ok]
  simp only []
  rw [if_pos (by omega)]
  rfl
theorem for_items {w : DI} {g : DG} {b : DS} {δ : DEnv} {S S1 : Store} {l : List D} (h : w δ S = .ok (.items l) S1) : mFor w g b δ S = mForL g b l δ S1 := by
  unfold mFor; rw [h, R.st_ok]
theorem for_ob {w : DI} {g : DG} {b : DS} {δ : DEnv} {S S1 : Store} {o : Nat} {l : List D} (h : w δ S = .ok (.ob o) S1) (ho : S1[o]? = some (.lst l)) : mFor w g b δ S = mForO g b o l.length l.length 0 δ S1 := by
  unfold mFor; rw [h, R.st_ok]; simp only [ho]
theorem walk_t {a : DE} {δ : DEnv} {S S1 : Store} {l : List P} (h : a δ S = .ok (.dat (.tup l)) S1) : mWalk a δ S = .ok (.items (l.map .dat)) S1 := by unfold mWalk; rw [h]; rfl
theorem walk_l {a : DE} {δ : DEnv} {S S1 : Store} {l : List P} (h : a δ S = .ok (.dat (.lst l)) S1) : mWalk a δ S = .ok (.items (l.map .dat)) S1 := by unfold mWalk; rw [h]; rfl
theorem walk_o {a : DE} {δ : DEnv} {S S1 : Store} {o : Nat} {l : List D} (h : a δ S = .ok (.obj o) S1) (ho : S1[o]? = some (.lst l)) : mWalk a δ S = .ok (.ob o) S1 := by
  unfold mWalk; rw [h, R.bind_ok]
  show oR (match S1[o]? with | some (.lst _) => some (Wk.ob o) | _ => none) S1 = _
  rw [ho]; rfl
theorem forO_ends {g : DG} {b : DS} {o : Nat} {l : List D} (I : Nat → DEnv → Store → Prop) {Q : Out → Store → Prop} (hl : ∀ i δ S, I i δ S → S[o]? = some (.lst l))
    (st : ∀ i d δ S, l[i]? = some d → I i δ S → Ends ((g d δ S).st δ b) (TurnP (I (i + 1)) Q)) (q : ∀ δ S, I l.length δ S → Q (.nx δ) S) : ∀ {k i : Nat} {δ : DEnv} {S : Store}, i + k = l.length → I i δ S → Ends (mForO g b o l.length k i δ S) Q
  | 0, i, δ, S, e, h => by
    unfold mForO
    simp only [hl i δ S h, if_true]
    refine ⟨_, _, rfl, q δ S ?_⟩
    rw [← e, Nat.add_zero]; exact h
  | k + 1, i, δ, S, e, h => by
    unfold mForO
    have e1 : l[i]? = some l[i] := List.getElem?_eq_getElem (by omega)
    simp only [hl i δ S h, if_true, e1]
    exact turn_ends (st i _ δ S e1 h) fun δ' S' h' => forO_ends I hl st q (by omega) h'
theorem lc_items {w : DI} {g : DG} {t : DT} {e : DE} {vs : List Nat} {δ : DEnv} {S S1 : Store} {l : List D} (f : D → Option D) (hw : w δ S = .ok (.items l) S1) (hl : l.length ≤ 100000)
    (h : ∀ d ∈ l, ∃ δ1, g d (wipeD δ vs) S1 = .ok δ1 S1 ∧ match f d with
      | some y => t δ1 S1 = .ok true S1 ∧ e δ1 S1 = .ok y S1
      | none => t δ1 S1 = .ok false S1) : mLc w g t e vs δ S = .ok (l.filterMap f) S1 := by
  unfold mLc
  rw [hw, R.bind_ok]
  simp only []
  rw [lc_pure f (by simpa using hl) h, R.bnf_ok]
  rfl
theorem lcL_map {α : Type} {g : DG} {t : DT} {e : DE} {vs : List Nat} {δ : DEnv} {S : Store} (h : α → D) (f : α → Option P) : ∀ {xs : List α} {acc : List D}, (acc.length + xs.length ≤ 100000) →
    (∀ x ∈ xs, ∃ δ1, g (h x) (wipeD δ vs) S = .ok δ1 S ∧ match f x with
      | some y => t δ1 S = .ok true S ∧ e δ1 S = .ok (.dat y) S
      | none => t δ1 S = .ok false S) → mLcL g t e vs δ (xs.map h) acc S = .ok (acc ++ (xs.filterMap f).map .dat) S
  | [], acc, _, _ => by simp [mLcL]
  | d :: l, acc, hl, hh => by
    obtain ⟨δ1, e1, e2⟩ := hh d (List.mem_cons_self ..)
    rw [List.map_cons]
    unfold mLcL
    rw [e1, R.bnf_ok]
    rw [List.length_cons] at hl
    cases q : f d with
    | none =>
      rw [q] at e2
      rw [e2, R.bnf_ok]
      show mLcL g t e vs δ (l.map h) acc S = _
      rw [lcL_map h f (by omega) fun d m => hh d (List.mem_cons_of_mem _ m), List.filterMap_cons, q]
    | some y =>
      rw [q] at e2
      rw [e2.1, R.bnf_ok]
      show (e δ1 S).bnf _ = _
      rw [e2.2, R.bnf_ok, if_pos (by omega), lcL_map h f (by rw [List.length_append, List.length_singleton]; omega) fun d m => hh d (List.mem_cons_of_mem _ m), List.filterMap_cons, q]
      simp
theorem lc_map {α : Type} {w : DI} {g : DG} {t : DT} {e : DE} {vs : List Nat} {δ : DEnv} {S S1 : Store} {xs : List α} (h : α → D) (f : α → Option P) (hw : w δ S = .ok (.items (xs.map h)) S1) (hl : xs.length ≤ 100000)
    (hh : ∀ x ∈ xs, ∃ δ1, g (h x) (wipeD δ vs) S1 = .ok δ1 S1 ∧ match f x with
      | some y => t δ1 S1 = .ok true S1 ∧ e δ1 S1 = .ok (.dat y) S1
      | none => t δ1 S1 = .ok false S1) : mLc w g t e vs δ S = .ok ((xs.filterMap f).map .dat) S1 := by
  unfold mLc
  rw [hw, R.bind_ok]
  simp only []
  rw [lcL_map h f (by simpa using hl) hh, R.bnf_ok]
  rfl
theorem lc_all {α : Type} {w : DI} {g : DG} {t : DT} {e : DE} {vs : List Nat} {δ : DEnv} {S S1 : Store} {xs : List α} (h : α → D) (k : α → P) (hw : w δ S = .ok (.items (xs.map h)) S1) (hl : xs.length ≤ 100000)
    (hh : ∀ x ∈ xs, ∃ δ1, g (h x) (wipeD δ vs) S1 = .ok δ1 S1 ∧ t δ1 S1 = .ok true S1 ∧ e δ1 S1 = .ok (.dat (k x)) S1) : mLc w g t e vs δ S = .ok ((xs.map k).map .dat) S1 := by
  rw [lc_map h (fun x => some (k x)) hw hl hh]
  congr 2
  rw [← List.filterMap_eq_map]
  rfl
theorem rngD0 (n : Nat) : rngD 0 n = (List.range n).map fun k => .dat (nv k) := by
  unfold rngD
  refine List.map_congr_left fun k _ => ?_
  rw [Int.zero_add]
  rfl
theorem rng0_ok {a : DA} {δ : DEnv} {S S1 : Store} {n : Nat} (h : a δ S = .ok [.dat (.int (n : Int))] S1) (hn : n ≤ 100000) : mRng1 a δ S = .ok (.items ((List.range n).map fun k => .dat (nv k))) S1 := by rw [rng1_ok h hn, rngD0]
theorem all_lst {S : Store} {bs : List Bool} : aAll S [.dat (.lst (bs.map .bl))] = some (.dat (.bl (bs.all id))) := by
  show ((listP S _).bind boolsP).map _ = _
  rw [listP_l]
  show (boolsP _).map _ = _
  rw [boolsP_map]
  rfl
theorem cut_take {α : Type} (l : List α) (k : Nat) : cutL l none (some (k : Int)) = l.take k := by
  unfold cutL
  rw [HT.sIx_none, HT.sIx_nat, List.drop_zero, Nat.sub_zero]
  by_cases c : k ≤ l.length
  · rw [Nat.min_eq_left c]
  · rw [Nat.min_eq_right (by omega), List.take_of_length_le (Nat.le_refl _), List.take_of_length_le (by omega)]
theorem lcL_inv {g : DG} {t : DT} {e : DE} {vs : List Nat} {δ : DEnv} (J : Store → Prop) (Pp : P → Prop) : ∀ {l acc : List D} {S : Store}, J S → (acc.length + l.length ≤ 100000) →
    (∀ d ∈ l, ∀ S, J S → ∃ δ1 p S', g d (wipeD δ vs) S = .ok δ1 S ∧ t δ1 S = .ok true S ∧ e δ1 S = .ok (.dat p) S' ∧ J S' ∧ Pp p) → ∃ (ps : List P) (S' : Store), mLcL g t e vs δ l acc S = .ok (acc ++ ps.map .dat) S' ∧ J S' ∧ ps.length = l.length ∧ ∀ p ∈ ps, Pp p
  | [], acc, S, hJ, _, _ => ⟨[], S, by simp [mLcL], hJ, rfl, fun _ h => (nomatch h)⟩
  | d :: l, acc, S, hJ, hl, h => by
    obtain ⟨δ1, p, S', e1, e2, e3, hJ', hp⟩ := h d (List.mem_cons_self ..) S hJ
    rw [List.length_cons] at hl
    obtain ⟨ps, S2, e4, hJ2, hn, hps⟩ := lcL_inv J Pp (l := l) (acc := acc ++ [.dat p]) hJ' (by rw [List.length_append, List.length_singleton]; omega) fun d m => h d (List.mem_cons_of_mem _ m)
    refine ⟨p :: ps, S2, ?_, hJ2, by rw [List.length_cons, List.length_cons, hn], fun q m => ?_⟩
    · unfold mLcL
      rw [e1, R.bnf_ok, e2, R.bnf_ok]
      show (e δ1 S).bnf _ = _
      rw [e3, R.bnf_ok, if_pos (by omega), e4]
      simp
    · rcases List.mem_cons.mp m with rfl | m
      · exact hp
      · exact hps q m
theorem lc_inv {w : DI} {g : DG} {t : DT} {e : DE} {vs : List Nat} {δ : DEnv} {S S1 : Store} {l : List D} (J : Store → Prop) (Pp : P → Prop) (hw : w δ S = .ok (.items l) S1) (hJ : J S1) (hl : l.length ≤ 100000)
    (h : ∀ d ∈ l, ∀ S, J S → ∃ δ1 p S', g d (wipeD δ vs) S = .ok δ1 S ∧ t δ1 S = .ok true S ∧ e δ1 S = .ok (.dat p) S' ∧ J S' ∧ Pp p) : ∃ (ps : List P) (S' : Store), mLc w g t e vs δ S = .ok (ps.map .dat) S' ∧ J S' ∧ ps.length = l.length ∧ ∀ p ∈ ps, Pp p := by
  obtain ⟨ps, S', e1, a⟩ := lcL_inv (acc := []) J Pp hJ (by simpa using hl) h
  refine ⟨ps, S', ?_, a⟩
  unfold mLc
  rw [hw, R.bind_ok]
  simp only []
  rw [e1, R.bnf_ok]
  rfl
theorem fin_ends {r : R Out} {Q : D → Store → Prop} (h : Ends r fun o S => ∃ d, o = .rt d ∧ Q d S) : ∃ d S, fin r = .ok d S ∧ Q d S := by
  obtain ⟨o, S, rfl, d, rfl, q⟩ := h
  exact ⟨d, S, rfl, q⟩
theorem Ends.mono {r : R Out} {Q Q' : Out → Store → Prop} (h : Ends r Q) (k : ∀ o S, Q o S → Q' o S) : Ends r Q' := let ⟨o, S, e, q⟩ := h; ⟨o, S, e, k o S q⟩
theorem Ends.of {o : Out} {S : Store} {Q : Out → Store → Prop} (h : Q o S) : Ends (.ok o S) Q := ⟨_, _, rfl, h⟩
theorem setF_o {FL : List (Addr × Str)} {f : Str} {C : Addr} {i : Nat} {l : List (Str × D)} {d : D} {S : Store} (ho : S[i]? = some (.ins C l)) (hm : (C, f) ∈ FL) (hl : l.length < 1000) : setF FL f (.obj i) d S = some (S.set i (.ins C (putD f d l))) := by
  show (match S[i]? with | some (.ins C l) => if (C, f) ∈ FL ∧ l.length < 1000 then some (S.set i (.ins C (putD f d l))) else none | _ => none) = _
  rw [ho]
  exact if_pos ⟨hm, hl⟩
theorem get_app {S t : Store} {o : Nat} {x : O} (h : S[o]? = some x) : (S ++ t)[o]? = some x := by
  rw [List.getElem?_append_left (List.getElem?_eq_some_iff.mp h).1]; exact h
theorem get_new {S : Store} {x : O} : (S ++ [x])[S.length]? = some x := by
  rw [List.getElem?_append_right (Nat.le_refl _), Nat.sub_self]; rfl
theorem get_set {S : Store} {o o' : Nat} {x y : O} (n : o' ≠ o) (h : S[o]? = some x) : (S.set o' y)[o]? = some x := by
  rw [List.getElem?_set_ne n]; exact h
theorem get_set_self {S : Store} {o : Nat} {x y : O} (h : S[o]? = some x) : (S.set o y)[o]? = some y := List.getElem?_set_self (List.getElem?_eq_some_iff.mp h).1
theorem lt_of_get {α : Type} {S : List α} {o : Nat} {x : α} (h : S[o]? = some x) : o < S.length := (List.getElem?_eq_some_iff.mp h).1
theorem map_get {α β : Type} {f : α → β} {l : List α} {k : Nat} {x : α} (h : l[k]? = some x) : (l.map f)[k]? = some (f x) := by rw [List.getElem?_map, h]; rfl
end M3
namespace M3
open PySem PySem.Spec PyProof.Rows L2
variable [TabsP]
theorem mapOf_L {prog : Program} {w : World} {K : PySem.W.Frag} {h : Heap} {a : Addr} {es : Array DictEntry} {n : Nat} (X : K.In h) (hl : K.lookup a = some ⟨.type "dict", none, .dict es n, #[]⟩) (hk : PySem.W.KeysLit w.params es.toList) : h.MapOf (leafKind prog w) a (fun k => findBy Leaf.isOf es k) :=
  ⟨_, es, n, X _ _ hl, ⟨rfl, rfl, rfl⟩, rfl, fun e he => by
    obtain ⟨x, t, e1, e2⟩ := hk.all e (Array.mem_toList_iff.mpr he)
    exact ⟨.text x, by rw [e1]; exact PySem.strKind_is prog w x t, e2⟩, fun _ => rfl⟩
theorem find_non {P : Params} {es : Array DictEntry} (hk : PySem.W.KeysLit P es.toList) : findBy Leaf.isOf es .none = none := by
  unfold findBy
  have : es.find? (fun e => Leaf.isOf .none e.key) = none := by
    rw [Array.find?_eq_none]
    intro e he
    obtain ⟨x, t, e1, _⟩ := hk.all e (Array.mem_toList_iff.mpr he)
    rw [e1]
    exact Bool.false_ne_true
  rw [this]; rfl
structure TabOk (K : PySem.W.Frag) (w : World) (t : Addr) (kvs : List (Str × P)) : Prop where
  ex : ∃ kv : List (Str × V), W2.KD K w t kv ∧ ∀ z, match lookPf z kvs with
    | none => kv.lookup z = none
    | some p => ∃ v, kv.lookup z = some v ∧ ∀ ι X H, RepP K ι X H p v
inductive KAll (P : Params) : List DictEntry → List (Str × V) → Prop
  | nil : KAll P [] []
  | cons {e : DictEntry} {es : List DictEntry} {z : Str} {v : V} {kv : List (Str × V)} (k : ∃ τ, e.key = .str z τ) (h : e.hash = PyData.keyHash P z) (r : RelV v e.val) (t : KAll P es kv) : KAll P (e :: es) ((z, v) :: kv)
theorem KAll.lit {P : Params} {es : List DictEntry} {kv : List (Str × V)} (h : KAll P es kv) : PySem.W.KeysLit P es := by
  induction h with
  | nil => trivial
  | cons k h r t ih =>
    obtain ⟨τ, k⟩ := k
    exact ⟨⟨_, τ, k, h⟩, ih⟩
theorem KAll.find {P : Params} {es : List DictEntry} {kv : List (Str × V)} (h : KAll P es kv) (z : Str) : (match kv.lookup z with
    | some v => ∃ e, es.find? (·.key.isStr z) = some e ∧ RelV v e.val
    | none => es.find? (·.key.isStr z) = none) ∧ es.any (·.refKey) = false := by
  induction h with
  | nil => exact ⟨rfl, rfl⟩
  | @cons e es x v kv k h r t ih =>
    obtain ⟨τ, k⟩ := k
    refine ⟨?_, ?_⟩
    · by_cases q : z = x
      · subst q
        have e1 : List.lookup z ((z, v) :: kv) = some v := by simp [List.lookup]
        rw [e1]
        refine ⟨e, ?_, r⟩
        rw [List.find?_cons, k]
        show (match (z == z) with | true => some e | false => _) = _
        simp
      · have e1 : List.lookup z ((x, v) :: kv) = List.lookup z kv := by
          have : (z == x) = false := by simpa using q
          simp [List.lookup, this]
        have e2 : (e :: es).find? (·.key.isStr z) = es.find? (·.key.isStr z) := by
          rw [List.find?_cons, k]
          have : (Value.str x τ).isStr z = false := by
            show (x == z) = false
            simpa using fun c : x = z => q c.symm
          rw [this]
        rw [e1, e2]
        exact ih.1
    · rw [List.any_cons, ih.2, Bool.or_false]
      show e.refKey = false
      unfold DictEntry.refKey
      rw [k]
theorem kd_of {K : PySem.W.Frag} {w : World} {t : Addr} {es : List DictEntry} {n : Nat} {kv : List (Str × V)} (l : K.lookup t = some ⟨.type "dict", none, .dict es.toArray n, #[]⟩) (low : (t == sysModules) = false) (h : KAll w.params es kv) : W2.KD K w t kv := by
  have ns : ∀ z, PySem.W.nsIn K t z = (match es.find? (·.key.isStr z) with
      | some e => some (some e.val)
      | none => if es.any (·.refKey) then none else some none) := fun z => by
    unfold PySem.W.nsIn
    rw [l]
    rfl
  refine ⟨⟨es.toArray, n, l, h.lit, low⟩, fun z v e => ?_, fun z e => ?_⟩
  · have := (h.find z).1
    rw [e] at this
    obtain ⟨en, e1, r⟩ := this
    refine ⟨en.val, ?_, r⟩
    rw [ns, e1]
  · have := (h.find z).1
    rw [e] at this
    rw [ns, this, (h.find z).2]
    rfl
inductive TabAll (K : PySem.W.Frag) : List (Str × V) → List (Str × P) → Prop
  | nil : TabAll K [] []
  | cons {z z' : Str} {v : V} {p : P} {kv : List (Str × V)} {kp : List (Str × P)} (h : z = z' ∧ ∀ ι X H, RepP K ι X H p v) (t : TabAll K kv kp) : TabAll K ((z, v) :: kv) ((z', p) :: kp)
theorem tab_mk {K : PySem.W.Frag} {kv : List (Str × V)} {kp : List (Str × P)} (h : TabAll K kv kp) : ∀ z, match lookPf z kp with
    | none => kv.lookup z = none
    | some p => ∃ v, kv.lookup z = some v ∧ ∀ ι X H, RepP K ι X H p v := by
  induction h with
  | nil => exact fun z => rfl
  | @cons x x' v p kv kp h t ih =>
    obtain ⟨rfl, h⟩ := h
    intro z
    by_cases q : z = x
    · subst q
      have e1 : List.lookup z ((z, v) :: kv) = some v := by simp [List.lookup]
      have e2 : lookPf z ((z, p) :: kp) = some p := if_pos rfl
      rw [e2]
      exact ⟨v, e1, h⟩
    · have e1 : List.lookup z ((x, v) :: kv) = List.lookup z kv := by
        have : (z == x) = false := by simpa using q
        simp [List.lookup, this]
      have e2 : lookPf z ((x, p) :: kp) = lookPf z kp := if_neg q
      rw [e2, e1]
      exact ih z
def mDnew : DE := fun _ S => .ok (.dat (.dic [])) S
theorem se_dnew {K : PySem.W.Frag} {W : L2.St → WK} : SE K W tDNewK mDnew := by
  intro ι X S H σ δ Q rel re h p hp
  have x2 := ext_alloc (o := .dK []) rel hp
  have na : p ∉ ι ∧ p ∉ X := rel.nin hp
  refine h ι _ (.ref p) x2 (rel.alloc hp) ?_
  show RepP K ι X _ (.dic []) _
  rw [RepP]
  refine ⟨p, [], rfl, na.1, na.2, upd_same, ?_⟩
  rw [RepKs]
end M3
namespace M3
open PySem PySem.Spec PyProof.Rows L2
variable [TabsP]
def tTry (tb : WX → TS) (wf : L2.Ends → WX) : TS := fun D σ H => tb (wf D) D σ H
section
variable {X : Cx} {x n : Str} {c : Value} {i : Nat} {body suite : List Stmt} {b₀ : Stmt} {np pos pos' : Pos} {tb : WX → TS} {ts : Addr → Value → Option Addr → TS} {Wout : WX}
theorem ps_tryA (hs : X.stack = X.env :: X.outer) (hf : X.env.frame = some X.env.locals) (hN : X.N.Nodup) (hi : X.N[i]? = some n) (hln : X.env.kindOf n = some .local) (hc : Names X x c) (tk : Takes X Wout)
    (hb : ∀ (W : WX) (pn : List (Addr × Obj)) (xe : Value → Shared → Prop), Takes (X.tr pn xe) W → PassesOwn (model X.prog X.w) X.A X.env xe → PSs (X.tr pn xe) body (tb W))
    (hsu : ∀ (a : Addr) (oe : Obj) (cls : Value) (d : Option Addr) (pn : List (Addr × Obj)), Zc cls d oe → (∃ vs, oe.data = .fields vs) → PSs (X.suite a ((a, oe) :: pn)) (b₀ :: suite) (ts a cls d)) :
    PS X (.Try body [.ExceptHandler (some (.Name x np)) (some n) (b₀ :: suite) pos'] [] [] pos) (tTry tb (wAs X.K c i ts Wout)) := ps_try_as hs hf hN hi hln hc tk hb hsu
end
section
variable {K : PySem.W.Frag}
theorem body_all {n : Nat} {N : List Str} {cx : Cx} {body : List Stmt} {t : TS} {b : DS} {vs : List V} {H : Hp} {Q : VK} {E : XK} (hp : PSs cx body t) (hb : SS K (wk fun cls d _ H => E cls d H) t b) (h : spM K n (mBody N.length b) vs H Q E) :
    ∃ t, PSs cx body t ∧ t { nx := fun _ H' => Q .non H', rt := Q } (L2.start N vs) H := ⟨t, hp, body_ok hb h⟩
end
end M3
namespace M3
open PySem PySem.Spec PyProof.Rows L2
end M3
namespace M3
open PySem PySem.Spec PyProof.Rows L2
end M3
namespace M3
open PySem PySem.Spec PyProof.Rows L2
end M3
namespace M3
open PySem PySem.Spec PyProof.Rows L2
end M3
namespace M3
open PySem PySem.Spec PyProof.Rows L2
end M3
namespace M3
open PySem PySem.Spec PyProof.Rows L2
variable [TabsP]
theorem op_notIn_non {X : Cx} {d : Addr} {es : Array DictEntry} {n : Nat} (D : KDict X.K X.w d es n) : OpR X (compareOp .NotIn) (fun x y H Q => x = .non ∧ y = .ref d ∧ Q (.bl true) H) := by
  intro pins s σ H x y v u Q I rx ry h
  obtain ⟨rfl, rfl, q⟩ := h
  cases (show v = Value.none from rx)
  cases (show u = Value.ref d from ry)
  refine wpAny_notIn_of (knd := leafKind X.prog X.w) (k := .none) rfl D.low (mapOf_L (prog := X.prog) I.kIn D.at_ D.lit) ?_
  rw [find_non D.lit]
  exact ⟨.bl true, H, I.tok _, rfl, q⟩
def rNotInTab (t : Addr) (kvs : List (Str × P)) : R2 := fun x y H Q => y = .ref t ∧ ((x = .non ∧ Q (.bl true) H) ∨ ∃ z, x = .str z ∧ Q (.bl (!(lookPf z kvs).isSome)) H)
theorem op_notInTab {X : Cx} {K : PySem.W.Frag} {t : Addr} {kvs : List (Str × P)} (hK : X.K = K) (T : TabOk K X.w t kvs) : OpR X (compareOp .NotIn) (rNotInTab t kvs) := by
  subst hK
  obtain ⟨kv, D, hv⟩ := T.ex
  obtain ⟨es, n, KDc⟩ := D.ex
  intro pins s σ H x y v u Q I rx ry h
  obtain ⟨hy, ⟨hx, q⟩ | ⟨z, hx, q⟩⟩ := h
  · exact op_notIn_non KDc pins s σ H x y v u Q I rx ry ⟨hx, hy, q⟩
  · refine op_notIn_kd KDc pins s σ H x y v u Q I rx ry ?_
    have hz := hv z
    cases e : lookPf z kvs with
    | none =>
      rw [e] at hz q
      exact ⟨z, none, hx, hy, D.miss z hz, q⟩
    | some p =>
      rw [e] at hz q
      obtain ⟨v0, e1, _⟩ := hz
      obtain ⟨u0, e2, _⟩ := D.hit z v0 e1
      exact ⟨z, some u0, hx, hy, e2, q⟩
def aNotInTab (t : Addr) (kvs : List (Str × P)) : Store → D → D → Option D := fun _ x y => match x, y with
  | .dat .non, .dat (.con (.ref a)) => if a = t then some (dBl true) else none
  | .dat (.str z), .dat (.con (.ref a)) => if a = t then some (dBl (!(lookPf z kvs).isSome)) else none
  | _, _ => none
theorem notInTab_ok {K : PySem.W.Frag} {t : Addr} {kvs : List (Str × P)} : R2S K (rNotInTab t kvs) (aNotInTab t kvs) := by
  intro ι X S H x y v u d Q rel rx ry e k
  unfold aNotInTab at e
  split at e
  · split at e
    · rename_i h
      cases e
      subst h
      exact ⟨rC_inv ry, .inl ⟨rN_inv rx, k H _ Ext.refl rel rd_bl⟩⟩
    · cases e
  · split at e
    · rename_i h
      cases e
      subst h
      exact ⟨rC_inv ry, .inr ⟨_, rS_inv rx, k H _ Ext.refl rel rd_bl⟩⟩
    · cases e
  · cases e
end M3
namespace M3
open PySem PySem.Spec PyProof.Rows L2
end M3
namespace M3
open PySem PySem.Spec PyProof.Rows L2
end M3
namespace M3
open PySem PySem.Spec PyProof.Rows L2
end M3
namespace M3
open PySem PySem.Spec PyProof.Rows L2
end M3
namespace M3
open PySem PySem.Spec PyProof.Rows L2
variable [TabsP]
section
variable {K : PySem.W.Frag} {W : L2.St → WK}
/-- three names at once -/
def mPar3 (i j l : Nat) (a : DA) : DS := fun δ S => (a δ S).st δ fun ds S1 => match ds with
  | [x, y, z] => .ok (.nx (((δ.set i (some x)).set j (some y)).set l (some z))) S1
  | _ => .fail
theorem ss_par3 {i j l : Nat} {t : TA} {a : DA} (ha : SA K W t a) : SS K W (tPar3 i j l t) (mPar3 i j l a) := by
  intro ι X S H σ δ E rel re h
  refine ha ι X S H σ δ _ rel re (PostS.st re h fun ι1 H1 ds S1 vs x1 rel1 rv h1 => ?_)
  match ds, rv, h1 with
  | [], _, h1 => exact h1.elim
  | [_], _, h1 => exact h1.elim
  | [_, _], _, h1 => exact h1.elim
  | [x, y, z], ⟨v, _, e1, r1, w, _, e2, r2, u, _, e3, r3, e4⟩, h1 =>
    cases e4
    cases e3
    cases e2
    exact ⟨v, w, u, e1, h1 ι1 H1 _ Ext.refl rel1 ((((re.ext x1).set r1).set r2).set r3)⟩
  | _ :: _ :: _ :: _ :: _, _, h1 => exact h1.elim
end
end M3
namespace M3
open PySem PySem.Spec PyProof.Rows L2
end M3
namespace M3
open PySem PySem.Spec PyProof.Rows L2
variable [TabsP]
def keyP : D → Option Key
  | .dat (.int i) => some (.inl i)
  | .dat (.str s) => some (.inr s)
  | _ => none
def valD (l : List (Key × D)) (k : Key) : Option D := (l.find? fun kv => decide (kv.1 = k)).map (·.2)
def putKD (l : List (Key × D)) (k : Key) (d : D) : List (Key × D) := if (l.any fun kv => decide (kv.1 = k)) = true then l.map (fun kv => if kv.1 = k then (kv.1, d) else kv) else l ++ [(k, d)]
def mergeKD (l more : List (Key × D)) : List (Key × D) := more.foldl (fun acc kv => putKD acc kv.1 kv.2) l
def dicD (S : Store) : D → Option (List (Key × D))
  | .obj i => (match S[i]? with
    | some (.dic l) => some l
    | _ => none)
  | _ => none
section
variable {K : PySem.W.Frag} {ι X : List Addr} {S : Store} {H : Hp}
theorem keyP_rep {d : D} {k : Key} {v : V} (e : keyP d = some k) (r : RepD K ι X H d v) : v = kV k := by
  unfold keyP at e
  split at e
  · cases e; exact rI_inv r
  · cases e; exact rS_inv r
  · cases e
theorem valD_rep {k : Key} : ∀ {l : List (Key × D)} {xs : List (Key × V)}, RepDK K ι X H l xs → (match valD l k with
    | some d => ∃ v, valV xs k = some v ∧ RepD K ι X H d v
    | none => valV xs k = none)
  | [], xs, r => by
    have : xs = [] := r
    subst this; rfl
  | (c, d) :: l, xs, r => by
    obtain ⟨y, ys, rfl, f, g⟩ := r
    have ih := valD_rep (k := k) g
    by_cases e : c = k
    · have e1 : valD ((c, d) :: l) k = some d := by unfold valD; rw [List.find?_cons_of_pos (by simpa using e)]; rfl
      have e2 : valV ((c, y) :: ys) k = some y := by unfold valV; rw [List.find?_cons_of_pos (by simpa using e)]; rfl
      rw [e1]
      exact ⟨y, e2, f⟩
    · have e1 : valD ((c, d) :: l) k = valD l k := by unfold valD; rw [List.find?_cons_of_neg (by simpa using e)]
      have e2 : valV ((c, y) :: ys) k = valV ys k := by unfold valV; rw [List.find?_cons_of_neg (by simpa using e)]
      rw [e1, e2]
      exact ih
theorem any_rep {k : Key} : ∀ {l : List (Key × D)} {xs : List (Key × V)}, RepDK K ι X H l xs → (l.any fun kv => decide (kv.1 = k)) = (xs.any fun kv => decide (kv.1 = k))
  | [], xs, r => by
    have : xs = [] := r
    subst this; rfl
  | (c, d) :: l, xs, r => by
    obtain ⟨y, ys, rfl, f, g⟩ := r
    simp only [List.any_cons]
    rw [any_rep g]
theorem mapK_rep {k : Key} {d : D} {v : V} (q : RepD K ι X H d v) : ∀ {l : List (Key × D)} {xs : List (Key × V)}, RepDK K ι X H l xs → RepDK K ι X H (l.map (fun kv => if kv.1 = k then (kv.1, d) else kv)) (xs.map (fun kv => if kv.1 = k then (kv.1, v) else kv))
  | [], xs, r => by
    have : xs = [] := r
    subst this; rfl
  | (c, e) :: l, xs, r => by
    obtain ⟨y, ys, rfl, f, g⟩ := r
    simp only [List.map_cons]
    by_cases h : c = k
    · rw [if_pos h, if_pos h]
      exact ⟨v, _, rfl, q, mapK_rep q g⟩
    · rw [if_neg h, if_neg h]
      exact ⟨y, _, rfl, f, mapK_rep q g⟩
theorem appK_rep {k : Key} {d : D} {v : V} (q : RepD K ι X H d v) : ∀ {l : List (Key × D)} {xs : List (Key × V)}, RepDK K ι X H l xs → RepDK K ι X H (l ++ [(k, d)]) (xs ++ [(k, v)])
  | [], xs, r => by
    have : xs = [] := r
    subst this
    exact ⟨v, [], rfl, q, rfl⟩
  | (c, e) :: l, xs, r => by
    obtain ⟨y, ys, rfl, f, g⟩ := r
    exact ⟨y, _, rfl, f, appK_rep q g⟩
theorem putKD_rep {k : Key} {d : D} {v : V} (q : RepD K ι X H d v) {l : List (Key × D)} {xs : List (Key × V)} (r : RepDK K ι X H l xs) : RepDK K ι X H (putKD l k d) (putK xs k v) := by
  unfold putKD putK
  rw [any_rep r]
  split
  · exact mapK_rep q r
  · exact appK_rep q r
theorem mergeKD_rep : ∀ {more : List (Key × D)} {ms : List (Key × V)} {l : List (Key × D)} {xs : List (Key × V)}, RepDK K ι X H l xs → RepDK K ι X H more ms → RepDK K ι X H (mergeKD l more) (mergeK xs ms)
  | [], ms, l, xs, r, q => by
    have : ms = [] := q
    subst this; exact r
  | (c, d) :: more, ms, l, xs, r, q => by
    obtain ⟨y, ys, rfl, f, g⟩ := q
    show RepDK K ι X H (mergeKD (putKD l c d) more) (mergeK (putK xs c y) ys)
    exact mergeKD_rep (putKD_rep f r) g
theorem repDK_len : ∀ {l : List (Key × D)} {xs : List (Key × V)}, RepDK K ι X H l xs → xs.length = l.length
  | [], xs, r => by
    have : xs = [] := r
    subst this; rfl
  | (c, d) :: l, xs, r => by
    obtain ⟨y, ys, rfl, f, g⟩ := r
    simp only [List.length_cons]
    rw [repDK_len g]
theorem dicD_rep {x : D} {l : List (Key × D)} {v : V} (rel : Rel K ι X S H) (e : dicD S x = some l) (r : RepD K ι X H x v) : ∃ i a xs, x = .obj i ∧ S[i]? = some (.dic l) ∧ ι[i]? = some a ∧ v = .ref a ∧ H a = some (.dK xs) ∧ RepDK K ι X H l xs := by
  unfold dicD at e
  split at e
  · rename_i i
    obtain ⟨a, ea, rfl⟩ := r
    split at e
    · rename_i l' es
      cases e
      obtain ⟨xs, f, g⟩ := rel.at_ i _ a es ea
      exact ⟨i, a, xs, rfl, es, ea, rfl, f, g⟩
    · cases e
  · cases e
theorem dget_k {a : Addr} {xs : List (Key × V)} {k : Key} {r : Option V} (h : H a = some (.dK xs)) (e : valV xs k = r) : DGet H a (kV k) r := e ▸ DGet.k h
end
section
variable {K : PySem.W.Frag} {W : L2.St → WK}
/-- d[k] -/
def mDGet (a b : DE) : DE := fun δ S => (a δ S).bind fun x S1 => (b δ S1).bind fun y S2 => match dicD S2 x, keyP y with
  | some l, some k => oR (valD l k) S2
  | _, _ => .fail
theorem se_dget {td ty : TE} {a b : DE} (ha : SE K W td a) (hb : SE K W ty b) : SE K W (tDGet td ty) (mDGet a b) := by
  intro ι X S H σ δ Q rel re h
  refine ha ι X S H σ δ _ rel re (Post.bind h fun ι1 H1 x S1 v x1 rel1 rv h1 => ?_)
  refine hb ι1 X S1 H1 σ δ _ rel1 (re.ext x1) (Post.bind h1 fun ι2 H2 y S2 u x2 rel2 ru h2 => ?_)
  cases q1 : dicD S2 x with
  | none => simp only [q1] at h2; exact h2.elim
  | some l => cases q2 : keyP y with
    | none => simp only [q1, q2] at h2; exact h2.elim
    | some k =>
      simp only [q1, q2] at h2
      obtain ⟨i, p, xs, rfl, es, ea, rfl, f, g⟩ := dicD_rep rel2 q1 (rv.ext x2)
      have ev := valD_rep (k := k) g
      cases q3 : valD l k with
      | none => rw [q3] at h2; exact h2.elim
      | some d =>
        rw [q3] at h2 ev
        obtain ⟨w, e, rw_⟩ := ev
        exact ⟨p, w, rfl, (keyP_rep q2 ru) ▸ dget_k f e, h2 ι2 H2 w Ext.refl rel2 rw_⟩
def mPairs : List (DE × DE) → DEnv → Store → R (List (Key × D))
  | [], _, S => .ok [] S
  | (a, b) :: r, δ, S => (a δ S).bnf fun x S1 => (b δ S1).bnf fun y S2 => (mPairs r δ S2).bnf fun ps S3 => match keyP x with
    | some k => .ok ((k, y) :: ps) S3
    | none => .fail
def mDisp (ps : List (DE × DE)) : DE := fun δ S => (mPairs ps δ S).bnf fun kvs S1 => if kvs.length ≤ 15 then .ok (.obj S1.length) (S1 ++ [.dic (mergeKD [] kvs)]) else .fail
inductive SPs (K : PySem.W.Frag) (W : L2.St → WK) : List (TE × TE) → List (DE × DE) → Prop
  | nil : SPs K W [] []
  | cons {tk tv : TE} {a b : DE} {ts : List (TE × TE)} {ps : List (DE × DE)} : SE K W tk a → SE K W tv b → SPs K W ts ps → SPs K W ((tk, tv) :: ts) ((a, b) :: ps)
theorem pairs_ok {trs : List (TE × TE)} {ms : List (DE × DE)} (hp : SPs K W trs ms) : ∀ {ι X : List Addr} {S : Store} {H : Hp} {σ : L2.St} {δ : DEnv} {kvs : List (Key × D)} {S' : Store} {Q : List (V × V) → Hp → Prop}, Rel K ι X S H → RepE K ι X H δ σ → mPairs ms δ S = .ok kvs S' →
    (∀ ι' H' xs, Ext ι H ι' H' → Rel K ι' X S' H' → RepDK K ι' X H' kvs xs → Q (xs.map fun kv => (kV kv.1, kv.2)) H') → tPairs trs σ H Q := by
  induction hp with
  | nil =>
    intro ι X S H σ δ kvs S' Q rel re e k
    unfold mPairs at e
    cases e
    exact k ι H [] Ext.refl rel rfl
  | @cons tk tv a b ts ps ha hb hs ih =>
    intro ι X S H σ δ kvs S' Q rel re e k
    unfold mPairs at e
    cases e1 : a δ S with
    | fail => rw [e1] at e; cases e
    | exc C z S1 => rw [e1] at e; cases e
    | ok x S1 =>
      rw [e1, R.bnf_ok] at e
      cases e2 : b δ S1 with
      | fail => rw [e2] at e; cases e
      | exc C z S1 => rw [e2] at e; cases e
      | ok y S2 =>
        rw [e2, R.bnf_ok] at e
        cases e3 : mPairs ps δ S2 with
        | fail => rw [e3] at e; cases e
        | exc C z S1 => rw [e3] at e; cases e
        | ok qs S3 =>
          rw [e3, R.bnf_ok] at e
          cases e4 : keyP x with
          | none => simp only [e4] at e; cases e
          | some c =>
            simp only [e4] at e
            cases e
            show tk σ H fun x H1 => tv σ H1 fun y H2 => tPairs ts σ H2 fun ps H3 => Q ((x, y) :: ps) H3
            refine ha ι X S H σ δ _ rel re ?_
            rw [e1]
            intro ι1 H1 v x1 rel1 rv
            refine hb ι1 X S1 H1 σ δ _ rel1 (re.ext x1) ?_
            rw [e2]
            intro ι2 H2 u x2 rel2 ru
            refine ih rel2 ((re.ext x1).ext x2) e3 fun ι3 H3 xs x3 rel3 g => ?_
            rw [keyP_rep e4 rv]
            exact k ι3 H3 ((c, u) :: xs) ((x1.trans x2).trans x3) rel3 ⟨u, xs, rfl, ru.ext x3, g⟩
theorem se_disp {trs : List (TE × TE)} {ms : List (DE × DE)} (hp : SPs K W trs ms) : SE K W (tDisp trs) (mDisp ms) := by
  intro ι X S H σ δ Q rel re h p hp0
  unfold mDisp at h
  cases e : mPairs ms δ S with
  | fail => rw [e] at h; exact h.elim
  | exc C z S1 => rw [e] at h; exact h.elim
  | ok kvs S1 =>
    rw [e, R.bnf_ok] at h
    by_cases hl : kvs.length ≤ 15
    · rw [if_pos hl] at h
      have x0 := ext_alloc (o := .dK []) rel hp0
      have o0 : Out1 ι X H ι (p :: X) (upd H p (.dK [])) := Out1.more hp0
      have hX : p ∉ X := (rel.nin hp0).2
      refine pairs_ok hp (rel.more hp0) (re.out o0) e fun ι2 H2 xs x2 rel2 g => ?_
      have np : p ∉ ι2 := (rel2.ex p List.mem_cons_self).1
      have hp2 : H2 p = some (.dK []) := x2.old p _ (rel.nin hp0).1 upd_same nt_dK
      refine ⟨hp2, xs, rfl, by rw [repDK_len g]; exact hl, ?_⟩
      have o3 : Out1 ι2 (p :: X) H2 ι2 (p :: X) (upd H2 p (.dK (mergeK [] xs))) := ⟨fun e => e, fun a o n m e nt => ⟨by rw [upd_ne (fun z => m (by rw [z]; exact List.mem_cons_self))]; exact e, n, m⟩⟩
      have rel3 : Rel K ι2 (p :: X) S1 (upd H2 p (.dK (mergeK [] xs))) := rel2.keep o3 rfl (fun a m => upd_ne (fun z => np (by rw [← z]; exact m))) (fun a m => by
        by_cases z : a = p
        · subst z; exact ⟨np, _, upd_same, nt_dK⟩
        · obtain ⟨n, o, eo, zo⟩ := rel2.ex a m
          exact ⟨n, o, by rw [upd_ne z]; exact eo, zo⟩) (tabs_put hp2 pl_dK rel2.tabs)
      have ext3 : Ext ι H ι2 (upd H2 p (.dK (mergeK [] xs))) := by
        refine ⟨x2.pre, fun b o n eb zb => ?_, fun b m n o eb zb => ?_, fun t => tabs_put hp2 pl_dK (x2.tab (tabs_new hp0 t))⟩
        · have nb : b ≠ p := fun z => by rw [z, hp0] at eb; cases eb
          rw [upd_ne nb]
          exact x2.old b o n (by rw [upd_ne nb]; exact eb) zb
        · have nb : b ≠ p := fun z => np (by rw [← z]; exact m)
          exact x2.new b m n o (by rw [upd_ne nb]; exact eb) zb
      obtain ⟨r4, x4⟩ := rel3.trk (o := .dic (mergeKD [] kvs)) ext3 (Free.of hp0) hX ⟨_, upd_same, mergeKD_rep rfl (RepDK.out o3 g)⟩
      refine h _ _ _ x4 r4 ⟨p, ?_, rfl⟩
      rw [← rel3.len, List.getElem?_append_right (Nat.le_refl _), Nat.sub_self]
      rfl
    · rw [if_neg hl] at h
      exact h.elim
end
end M3
namespace M3
open PySem PySem.Spec PyProof.Rows L2
variable [TabsP]
theorem fun_ofD {K : PySem.W.Frag} {x q : Str} {st : Stmt} {f : Addr} {fd : FuncData} (F : FunD K x q (defArgs st) (defBody st) (defScope st) [] [] f fd) : Fun K x q st f fd := by
  obtain ⟨oc, od, dV, kV, doc, pm, an, cdv, ct, osl, e, l, c, d, _⟩ := F.ex
  have : dV = .none := by
    rcases d with ⟨_, z⟩ | ⟨z, _⟩
    · exact z
    · exact absurd rfl z
  subst this
  exact ⟨⟨oc, od, kV, doc, pm, an, cdv, ct, osl, e, l, c⟩, F.kp⟩
theorem def_ofD {K : PySem.W.Frag} {h : Heap} {mg : Str → Option Value} {x : Str} {st : Stmt} {ps : List Str} {f : Addr} {fd : FuncData} (F : FunD K x x (defArgs st) (defBody st) (defScope st) [] [] f fd) (g : mg x = some (.ref f))
    (b : ∀ (kV doc pm : Value) (an : Option Addr) (cdv ct : Value) (us : List Value), us.length = ps.length → bindArgs (PySem.W.fnOf x x (defArgs st) (defBody st) (defScope st) .none kV doc pm an cdv ct) ⟨us, []⟩ = pure (ps.zip us)) : M3.Def K mg x st ps :=
  ⟨f, fd, fun_ofD F, g, (fun_ofD F).binds b⟩
/-- a check that is one of many -/
theorem all_at {l : List Bool} (h : l.all id = true) (i : Nat) {b : Bool} (e : l[i]? = some b) : b = true := List.all_eq_true.mp h b (List.mem_of_getElem? e)
theorem xc_ok {K : PySem.W.Frag} {C : Addr} (h : xcB K C = true) : ∃ nm q N bs bm sn sub ab col dd k0 k1 k2 k3 k5, K.lookup C = some (excClassObj nm q C N bs bm true sn sub ab col dd k0 k1 k2 k3 k5 "ValueError.__new__") ∧ PySem.HandSPX.refsVE bm = true := by
  unfold xcB at h
  split at h
  · rename_i t dd cd sl e
    obtain ⟨nm, bs, mro, ns, q, hd, sn, sub, ab, col, del⟩ := cd
    obtain ⟨sl⟩ := sl
    simp only at h
    split at h
    · rename_i C' bm k0 k1 k2 k3 n k5
      simp only [Bool.and_eq_true, decide_eq_true_eq, Bool.not_eq_true'] at h
      obtain ⟨h1, h2, h3, h4, h5, h6⟩ := h
      subst h1 h2 h3 h4 h5
      exact ⟨nm, q, ns, bs, bm, sn, sub, ab, col, dd, k0, k1, k2, k3, k5, e, h6⟩
    · cases h
  · cases h
theorem kd_ok {K : PySem.W.Frag} {x q : Str} {st : Stmt} {f : Addr} {fd : FuncData} (F : FunD K x q (defArgs st) (defBody st) (defScope st) [] [] f fd) (h : kdB K f = true) : ∃ (oc : Value) (od : Option Addr) (doc pm : Value) (an : Option Addr) (cdv ct : Value) (osl : Array (Option Value)),
    K.lookup f = some ⟨oc, od, .func (PySem.W.fnOf x q (defArgs st) (defBody st) (defScope st) .none .none doc pm an cdv ct), osl⟩ ∧ PySem.W.codeIn K cdv q = true := by
  obtain ⟨oc, od, kV, doc, pm, an, cdv, ct, osl, e, l, c⟩ := (fun_ofD F).ex
  subst e
  unfold kdB at h
  rw [l] at h
  have : kV = .none := of_decide_eq_true h
  subst this
  exact ⟨oc, od, doc, pm, an, cdv, ct, osl, l, c⟩
end M3
namespace M3
open PySem PySem.Spec PyProof.Rows L2
end M3
namespace M3
open PySem PySem.Spec PyProof.Rows L2
end M3
namespace PySem
namespace W
end W
end PySem
namespace M3
open PySem PySem.Spec PyProof.Rows L2
end M3
namespace M3
open PySem PySem.Spec PyProof.Rows L2
variable [TabsP]
/-- a def, its code object known -/
theorem fun_okXc {P : Program} {w : World} {K : PySem.W.Frag} {mg : Str → Option Value} {base : Heap} {x qual : Str} {st : Stmt} {f : Addr} {fd : FuncData} {N ps : List Str} {k : Nat} {sp : Sp} (F : Fun K x qual st f fd) (S : FnScope N ps (defScope st)) (len : ∀ vs H Q E, sp vs H Q E → vs.length = ps.length)
    (hbody : ∀ (cdv : Value) (A : Around) (outer : List Env) (s : Shared) (H : Hp) (vs : List V) (Q : VK) (E : XK), fd.code = cdv → Room k (A.deeper (envOfC qual (defScope st) s.heap.objs.size f cdv)) → sp vs H Q E →
      ∃ t, PSs (cxOf (L2.CX P w) P w K mg base N qual (defScope st) f cdv A outer s H E) (defBody st) t ∧ t { nx := fun _ H' => Q .non H', rt := Q } (L2.start N vs) H) : FnOk P w K mg base (L2.CX P w) (k + 1) f fd ps sp := by
  obtain ⟨oc, od, kV, doc, pm, an, cdv, ct, osl, rfl, lk, hcd⟩ := F.ex
  exact fn_of lk hcd S len fun A outer s H vs Q E hr hsp => hbody cdv A outer s H vs Q E rfl hr hsp
end M3
namespace M3
open PySem PySem.Spec PyProof.Rows L2
variable [TabsP]
/-- what is asked of each -/
def HeldV (P : Program) (w : World) (K : PySem.W.Frag) (mg : Str → Option Value) (base : Heap) (j : Nat) (f : Addr) (sp : Sp) : Prop :=
  ∃ (k : Nat) (fd : FuncData) (ps : List Str), FnOk P w K mg base (L2.CX P w) k f fd ps sp ∧ k ≤ j ∧ PySem.W.keepIn K (.ref f) = true ∧ Binds K fd ps []
inductive HeldVs (P : Program) (w : World) (K : PySem.W.Frag) (mg : Str → Option Value) (base : Heap) (j : Nat) : List (Addr × (List D → Store → R D)) → Prop
  | nil : HeldVs P w K mg base j []
  | cons {f : Addr} {m : List D → Store → R D} {tb : List (Addr × (List D → Store → R D))} (h : HeldV P w K mg base j f (spM K 1 m)) (t : HeldVs P w K mg base j tb) : HeldVs P w K mg base j ((f, m) :: tb)
theorem HeldVs.at_ {P : Program} {w : World} {K : PySem.W.Frag} {mg : Str → Option Value} {base : Heap} {j : Nat} {tb : List (Addr × (List D → Store → R D))} (h : HeldVs P w K mg base j tb) : ∀ p ∈ tb, HeldV P w K mg base j p.1 (spM K 1 p.2) := by
  induction h with
  | nil => exact fun _ m => nomatch m
  | cons h t ih =>
    intro p m
    cases m with
    | head => exact h
    | tail _ m => exact ih p m
end M3
namespace M3
open PySem PySem.Spec PyProof.Rows L2
def rIsEd (K : PySem.W.Frag) (D a : Addr) (d : Option Addr) : List V → Hp → VK → Prop := fun xs H Q => ∃ (c : V) (cv : Value) (b : Bool), xs = [.ref a, c] ∧ (∀ u, L2.RelV c u → u = cv) ∧ PySem.W.kitOne K (.ref D) cv = some b ∧ (∀ dd, d = some dd → ∃ fs, H dd = some (.xd fs)) ∧ Q (.bl b) H
theorem call_isEd {X : Cx} {K : PySem.W.Frag} {a D : Addr} {d : Option Addr} {oe : Obj} {pn : List (Addr × Obj)} (h : X.K = K) (C : ExcC K D) (hz : Zc (.ref D) d oe) (hf : ∃ vs, oe.data = .fields vs) : CallR (X.suite a ((a, oe) :: pn)) (.builtin "isinstance") (rIsEd K D a d) := by
  subst h
  intro pins s σ H xs us Q I r h
  obtain ⟨c, cv, b, rfl, hcv, e, hd, q⟩ := h
  cases r with
  | cons rx rr =>
    cases rr with
    | cons rt rr =>
      cases rr
      cases rx
      have ec := hcv _ rt
      subst ec
      obtain ⟨hget, _⟩ := I.pin (a, oe) (List.mem_append.mpr (.inl List.mem_cons_self))
      obtain ⟨vs, hv⟩ := hf
      obtain ⟨cd, hc, _⟩ := PySem.W.any_some C.hd
      have hcl : (PySem.W.clsIn X.K D).isSome = true := by rw [hc]; rfl
      obtain ⟨od, J⟩ : ∃ od : Option Obj, PySem.W.InstAt s.heap a oe D od := by
        cases d with
        | none => exact ⟨none, hget, hz.1, by unfold PySem.W.notCls; rw [hv] <;> rfl, by rw [hz.2]; trivial⟩
        | some dd =>
          obtain ⟨fs, ef⟩ := hd dd rfl
          have hx : ObjOk X.prog X.w H s.heap dd (.xd fs) := I.hok dd _ ef
          obtain ⟨mA, hns, hr⟩ := hx
          obtain ⟨od, ho, hl⟩ := lookIn_ns hns
          exact ⟨some od, hget, hz.1, by unfold PySem.W.notCls; rw [hv] <;> rfl, by rw [hz.2]; exact ho⟩
      exact PySem.W.kia_one (PySem.W.kitx_exc hcl C.hg C.hk C.hs C.ha C.hn C.ht C.hm) I.kIn J e (fun z => nomatch z) fun tk => ⟨.bl b, H, I.kept (t' := tk) fun _ _ z => z, rfl, q⟩
section
variable [TabsP]
structure DefC (K : PySem.W.Frag) (mg : Str → Option Value) (x : Str) (st : Stmt) (ps : List Str) (c : Addr) : Prop where
  ex : ∃ f fd, Fun K x x st f fd ∧ mg x = some (.ref f) ∧ Binds K fd ps [] ∧ fd.code = .ref c
theorem DefC.cal {P : Program} {w : World} {K : PySem.W.Frag} {mg : Str → Option Value} {base : Heap} {k : Nat} {x : Str} {st : Stmt} {N ps : List Str} {sp : Sp} {c : Addr} (D : DefC K mg x st ps c) (S : FnScope N ps (defScope st)) (len : ∀ vs H Q E, sp vs H Q E → vs.length = ps.length)
    (hbody : ∀ (f : Addr) (cdv : Value) (A : Around) (outer : List PySem.Env) (s : Shared) (H : Hp) (vs : List V) (Q : VK) (E : XK), cdv = .ref c → Room k (A.deeper (envOfC x (defScope st) s.heap.objs.size f cdv)) → sp vs H Q E →
      ∃ t, PSs (cxOf (L2.CX P w) P w K mg base N x (defScope st) f cdv A outer s H E) (defBody st) t ∧ t { nx := fun _ H' => Q .non H', rt := Q } (L2.start N vs) H) : Cal P w K mg base (k + 1) x ps sp := by
  obtain ⟨f, fd, F, hm, b, hc⟩ := D.ex
  exact ⟨f, fd, fun_okXc F S len (fun cdv A outer s H vs Q E e hr h => hbody f cdv A outer s H vs Q E (e.symm.trans hc) hr h), hm, F.kp, b⟩
end
end M3
namespace M3
open PySem PySem.Spec PyProof.Rows L2
end M3
namespace PySem.W
open PySem
end PySem.W
namespace M3
open PySem PySem.Spec PyProof.Rows L2
variable [TabsP]
/-- what must be known of a class, for integers to be unlike its instances -/
structure NeC (K : PySem.W.Frag) (C : Addr) : Prop where
  int : PySem.W.subIn K (.ref C) (.type "int") = some false
  obj : PySem.W.subIn K (.ref C) (.type "object") = some true
  ne : PySem.W.findIn K (.ref C) "__ne__" = some (some (.builtin "object.__ne__"))
def NeO (K : PySem.W.Frag) (OB : List Addr) : Prop := ∀ C ∈ OB, NeC K C ∧ PySem.W.findIn K (.ref C) "__eq__" = some (some (.builtin "object.__eq__"))
theorem NeO.nil {K : PySem.W.Frag} : NeO K [] := fun _ m => nomatch m
theorem NeO.cons {K : PySem.W.Frag} {C : Addr} {OB : List Addr} (h : NeC K C ∧ PySem.W.findIn K (.ref C) "__eq__" = some (some (.builtin "object.__eq__"))) (t : NeO K OB) : NeO K (C :: OB) := fun c m => by
  rcases List.mem_cons.mp m with rfl | m
  · exact h
  · exact t c m
end M3
namespace M3
open PySem PySem.Spec PyProof.Rows L2
end M3
namespace M3
open PySem PySem.Spec PyProof.Rows L2
end M3
namespace M3
open PySem PySem.Spec PyProof.Rows L2
end M3
namespace M3
open PySem PySem.Spec PyProof.Rows L2
end M3
namespace M3
open PySem PySem.Spec PyProof.Rows L2
end M3
namespace M3
open PySem PySem.Spec PyProof.Rows L2
end M3
namespace M3
open PySem PySem.Spec PyProof.Rows L2
end M3
namespace M3
open PySem PySem.Spec PyProof.Rows L2
end M3
namespace M3
open PySem PySem.Spec PyProof.Rows L2
end M3
namespace M3
open PySem PySem.Spec PyProof.Rows L2
end M3
namespace M3
open PySem PySem.Spec PyProof.Rows L2
end M3
namespace M3
open PySem PySem.Spec PyProof.Rows L2
variable [TabsP]
def repS (z : Str) (k : Nat) : Str := ⟨(List.replicate k z.cps).foldl (· ++ ·) #[]⟩
def rMulS : L2.R2 := fun x y H Q => ∃ (z : Str) (k : Int), x = .str z ∧ y = .int k ∧ 2 ≤ k ∧ k ≤ 1000 ∧ 1 ≤ z.length ∧ z.length ≤ 1000 ∧ (repS z k.toNat).length ≤ sizeLine ∧ Q (.str (repS z k.toNat)) H
theorem op_mulS {X : Cx} : OpR X (binaryOp .Mult) rMulS := by
  intro pins s σ H x y v u Q I rx ry h
  obtain ⟨z, k, rfl, rfl, k2, k3, z1, z2, hz, q⟩ := h
  obtain ⟨t, rfl⟩ := rx
  obtain ⟨t', rfl⟩ := ry
  have nm : z.length * k.toNat ≤ 1000 * 1000 := Nat.mul_le_mul z2 (by omega)
  have e0 : (k == 1 || z.length == 0) = false := by
    rw [Bool.or_eq_false_iff]
    exact ⟨by simpa using fun e : k = 1 => by omega, by simpa using fun e : z.length = 0 => by omega⟩
  refine P.mul_str (by rw [decide_eq_false (by omega), decide_eq_false (by omega)]; rfl) (fun _ _ => ?_) (fun _ _ => ?_) ?_
  · have : (1000 : Int) ≤ (2 ^ 63 - 1) / k := (Int.le_ediv_iff_mul_le (by omega)).mpr (by omega)
    omega
  · unfold Builtin.Str.tooLong
    exact decide_eq_false (by have : (1000 * 1000 : Nat) ≤ sizeLine := by decide
                              omega)
  · rw [if_neg (by omega), if_neg (by rw [e0]; exact Bool.false_ne_true)]
    exact ⟨hz, ⟨.str (repS z k.toNat), H, I.tok _, ⟨_, rfl⟩, q⟩⟩
def aMulS : Store → D → D → Option D := fun _ x y => match x, y with
  | .dat (.str z), .dat (.int k) => if (2 ≤ k ∧ k ≤ 1000) ∧ 1 ≤ z.length ∧ z.length ≤ 1000 ∧ (repS z k.toNat).length ≤ 100000 then some (.dat (.str (repS z k.toNat))) else none
  | _, _ => none
theorem mulS_ok {K : PySem.W.Frag} : R2S K rMulS aMulS := by
  intro ι X S H x y v u d Q rel rx ry e k
  unfold aMulS at e
  split at e
  · rename_i z j
    split at e
    · rename_i h
      cases e
      exact ⟨z, j, rS_inv rx, rI_inv ry, h.1.1, h.1.2, h.2.1, h.2.2.1, small h.2.2.2, k H _ Ext.refl rel rd_str⟩
    · cases e
  · cases e
end M3
namespace PySem
open Sem (wp)
section
variable {prog : Program} {w : World} {A : Around} {E : Value → Shared → Prop} {s : Shared} {x : Str} {t : Tok}
theorem kls_hint {Q : Bool → Shared → Prop} (h : Q false s) : wpAny (model prog w) A (Builtin.List.listLengthHint (.str x t)) Q E s := by
  have hT : s.TypeIs (.str x t) "str" := rfl
  unfold Builtin.List.listLengthHint
  refine wpAny_bind (wpAny_specialOf hT PySem.F.slot_str_len.lookup ?_)
  generalize hid : ("str.__len__" : String) = id0
  wp_delta
  rw [show splitId id0 = some ("str", "__len__") from by subst hid; decide +kernel]
  subst hid
  refine wpAny_bind (wpAny_isInstance (T := "str") (b := true) hT (by rw [isSubtype_type]; kernel_rfl) ?_)
  refine wpAny_ite_split (fun hab => absurd hab (by decide)) (fun _ => ?_)
  refine wpAny_ite_split (fun _ => ?_) (fun hab => absurd (by decide +kernel) hab)
  refine wpAny_bind (wpAny_typeOf hT ?_)
  exact wpAny_pure h
theorem kls_extend {R : Result → Shared → Prop} (hh : A.handled = none) (S : Addr) (res : Value) (c₀ : Nat) (hS : s.heap.get? S = some { cls := .type "list", data := .seq #[] c₀ })
    (hR : ∀ h' tk acc' c', (∀ b o, b ≠ S → s.heap.get? b = some o → h'.get? b = some o) → h'.get? S = some { cls := .type "list", dict := none, data := .seq acc' c', slots := #[] } → ItemsOf (SignAt x) acc' x.cps.size → R (.ok (.ret res)) { s with heap := h', toks := tk }) (hn : x.cps.size ≤ sizeLine) :
    wpAny (model prog w) A.in1 (Builtin.List.listExtendWith (.ref S) (.str x t) res)
      (fun fin s' => match fin with | .done f => R (.ok f) s' | .again c' => c'.quiet = true ∧ codeAny (model prog w) A c' R s') (fun e s' => R (.error e) s') s := by
  have hSI : S ≠ s.heap.objs.size := Nat.ne_of_lt (Heap.lt_size hS)
  have hSf : S ∉ [s.heap.objs.size] := by simp only [List.mem_cons, List.not_mem_nil, or_false]; exact hSI
  unfold Builtin.List.listExtendWith
  refine wpAny_bind (wpAny_typeOf (T := "str") rfl ?_)
  have h1 : Builtin.List.listSameRef (.ref S) (.str x t) = false := rfl
  have h2 : (Value.type "str" == Value.type "list") = false := by decide
  have h3 : (Value.type "str" == Value.type "tuple") = false := by decide
  simp only [h1, h2, h3, Bool.or_false, Bool.false_eq_true, if_false]
  refine wpAny_bind (wpAny_pyIter_str fun oI St Wk st => ?_)
  have W := Wk A.in1 hh
  have key : ∀ (h : Heap) (c₁ tk : Nat), St 0 h → (∀ b o, b ≠ S → s.heap.get? b = some o → h.get? b = some o) →
      h.get? S = some { cls := .type "list", data := .seq #[] c₁ } → codeAny (model prog w) A (.builtin "list.extend.loop" ⟨[.ref S, .ref s.heap.objs.size, res], []⟩) R { s with heap := h, toks := tk } := by
    intro h c₁ tk hst hk hS₁
    refine codeAny_extend_loopS W.toS hn S hSf res x.cps.size 0 _ #[] c₁ rfl (Nat.zero_le _) hst hS₁ (ItemsOf.nil _) fun s' acc' c' hm hS' hacc => ?_
    rw [Moved.eq_with hm]
    refine hR s'.heap s'.toks acc' c' (fun b o hb e => hm.heap b o (fun hmem => ?_) (hk b o hb e)) hS' hacc
    rcases List.mem_cons.mp hmem with e' | hmem
    · exact hb e'
    · exact absurd (Heap.lt_size e) (by rw [List.mem_singleton.mp hmem]; exact Nat.lt_irrefl _)
  have hS₁ := Heap.get?_push_of_some oI hS
  refine wpAny_bind (wpAny_holding (kls_hint ?_))
  refine wpAny_ite_split (fun _ => ?_) (fun _ => wpAny_pure ⟨plainId_quiet PySem.F.plain_extend_loop _, key _ c₀ _ st (fun b o _ e => Heap.get?_push_of_some _ e) hS₁⟩)
  refine wpAny_bind (wpAny_rule ?_)
  refine wpAny_bind ?_
  show wpAny _ _ (updateSeq S (·.push .none) >>= fun _ => updateSeq S (·.pop)) _ _ _
  refine wpAny_bind (wpAny_updateSeq hS₁ rfl ?_)
  have hS₂ := Heap.get?_update_self (Obj.mapSeq (·.push Value.none)) hS₁ rfl
  refine wpAny_updateSeq (hz := by seq_fits) hS₂ rfl ?_
  have hS₃ := Heap.get?_update_self (Obj.mapSeq (·.pop)) hS₂ rfl
  refine wpAny_pure ⟨plainId_quiet PySem.F.plain_extend_loop _, key _ _ _ ?_ (fun b o hb e => ?_) hS₃⟩
  · refine W.frame 0 _ _ st fun b hb o e => ?_
    have hbS : b ≠ S := fun h => hSf (h ▸ hb)
    exact (Heap.get?_update_other _ _ (Ne.symm hbS)).trans ((Heap.get?_update_other _ _ (Ne.symm hbS)).trans e)
  · exact (Heap.get?_update_other _ _ (Ne.symm hb)).trans ((Heap.get?_update_other _ _ (Ne.symm hb)).trans (Heap.get?_push_of_some _ e))
theorem kls_init {R : Result → Shared → Prop} (hh : A.handled = none) (S : Addr) (hS : s.heap.get? S = some { cls := .type "list", data := .seq #[] })
    (hR : ∀ h' tk acc' c', (∀ b o, b ≠ S → s.heap.get? b = some o → h'.get? b = some o) → h'.get? S = some { cls := .type "list", dict := none, data := .seq acc' c', slots := #[] } → ItemsOf (SignAt x) acc' x.cps.size → R (.ok (.ret .none)) { s with heap := h', toks := tk }) (hn : x.cps.size ≤ sizeLine) :
    wpAny (model prog w) A.in1 (Builtin.«list.__init__» ⟨[.ref S, .str x t], []⟩)
      (fun fin s' => match fin with | .done f => R (.ok f) s' | .again c' => c'.quiet = true ∧ codeAny (model prog w) A c' R s') (fun e s' => R (.error e) s') s := by
  show wpAny _ _ (do let old ← Builtin.List.listItems (.ref S); Builtin.List.listUpdate (.ref S) (fun _ => #[]); letGo old.toList.reverse; Builtin.List.listExtendWith (.ref S) (.str x t) .none) _ _ s
  refine wpAny_bind ?_
  unfold Builtin.List.listItems
  refine wpAny_bind (wpAny_seqItems hS rfl (wpAny_pure ?_))
  show wpAny _ _ (updateSeq S (fun _ => #[]) >>= fun _ => letGo (#[] : Array Value).toList.reverse >>= fun _ => Builtin.List.listExtendWith (.ref S) (.str x t) .none) _ _ s
  refine wpAny_bind (wpAny_updateSeq hS rfl ?_)
  have hS₂ := Heap.get?_update_self (Obj.mapSeq (fun _ => (#[] : Array Value))) hS rfl
  have oth : ∀ b o, b ≠ S → s.heap.get? b = some o → (s.heap.update S (Obj.mapSeq (fun _ => (#[] : Array Value)))).get? b = some o :=
    fun b o hb e => (Heap.get?_update_other _ _ (Ne.symm hb)).trans e
  refine wpAny_bind (wpAny_letGo ?_)
  refine kls_extend hh S .none _ hS₂ (fun h' tk acc' c' hk hS' hacc => ?_) hn
  exact hR h' tk acc' c' (fun b o hb e => hk b o hb (oth b o hb e)) hS' hacc
theorem kls_call {Q : Value → Shared → Prop} (hh : A.handled = none) (hn : x.cps.size ≤ sizeLine)
    (hQ : ∀ h' tk acc' c', (∀ b o, s.heap.get? b = some o → h'.get? b = some o) → h'.get? s.heap.objs.size = some { cls := .type "list", dict := none, data := .seq acc' c', slots := #[] } → ItemsOf (SignAt x) acc' x.cps.size → Q (.ref s.heap.objs.size) { s with heap := h', toks := tk }) :
    wpAny (model prog w) A (call (.type "list") [.str x t]) Q E s := by
  refine callType_codes (Q₁ := fun obj s₁ => obj = .ref s.heap.objs.size ∧ s₁ = { s with heap := s.heap.push { cls := .type "list", data := .seq #[] } }) PySem.F.called_list (PySem.F.typeCall_list_1 _) PySem.F.entry_list_init
    (code_list_new _ ⟨rfl, rfl⟩) fun obj s₁ h₁ => ?_
  obtain ⟨rfl, rfl⟩ := h₁
  have hS : (s.heap.push { cls := .type "list", data := .seq #[] }).get? s.heap.objs.size = some { cls := .type "list", data := .seq #[] } := Heap.get?_push_size _ rfl
  refine ⟨⟨_, hS, rfl⟩, PySem.F.args_list_init_2 _ _, kls_init (A := A.in1) hh _ hS (fun h' tk acc' c' hk hS' hacc => ?_) hn⟩
  exact ⟨rfl, hQ h' tk acc' c' (fun b o e => hk b o (Nat.ne_of_lt (Heap.lt_size e)) (Heap.get?_push_of_some _ e)) hS' hacc⟩
end
end PySem
namespace M3
open PySem PySem.Spec PyProof.Rows L2
variable [TabsP]
def rListS : List V → Hp → VK → Prop := fun xs H Q => ∃ x : Str, xs = [.str x] ∧ x.cps.size ≤ sizeLine ∧ ∀ p, H p = none → Q (.ref p) (upd H p (.lst (x.cps.toList.map fun c => V.str ⟨#[c]⟩)))
theorem signs_at : ∀ {us : List Value} {cs : List Nat}, us.length = cs.length → (∀ (j : Nat) (v : Value), us[j]? = some v → ∃ c u, cs[j]? = some c ∧ v = Value.str ⟨#[c]⟩ u) → Vals (cs.map fun c => V.str ⟨#[c]⟩) us
  | [], [], _, _ => .nil
  | [], _ :: _, h, _ => by simp at h
  | _ :: _, [], h, _ => by simp at h
  | u :: us, c :: cs, hl, h => by
    obtain ⟨c', t, e1, e2⟩ := h 0 u rfl
    have e1' : c = c' := Option.some.inj e1
    subst e1'
    rw [List.map_cons]
    exact .cons ⟨t, e2⟩ (signs_at (by simpa using hl) fun j v e => h (j + 1) v e)
theorem call_listS {X : Cx} (hcalm : X.calm = true) : CallR X (.type "list") rListS := by
  intro pins s σ H xs us Q I r q
  obtain ⟨x, rfl, hz, q⟩ := q
  obtain ⟨u, rfl, t, rfl⟩ := vals1 r
  refine PySem.kls_call (I.ok.hd hcalm) hz fun h' tk acc c' hk hD hacc => ?_
  have hv : Vals (x.cps.toList.map fun c => V.str ⟨#[c]⟩) acc.toList := signs_at (by rw [Array.length_toList, Array.length_toList]; exact hacc.1) fun j v e => by
    obtain ⟨c, u, e1, e2⟩ := hacc.2 j v (by rw [← Array.getElem?_toList]; exact e)
    exact ⟨c, u, by rw [Array.getElem?_toList]; exact e1, e2⟩
  refine ⟨.ref s.heap.objs.size, upd H s.heap.objs.size (.lst (x.cps.toList.map fun c => V.str ⟨#[c]⟩)), I.laid (t' := tk) hk (Nat.le_refl _)
    (show ObjOk X.prog X.w _ _ _ (.lst (x.cps.toList.map fun c => V.str ⟨#[c]⟩)) from ⟨by rw [List.length_map, Array.length_toList]; exact hz, acc.toList, c', hv, by rw [Array.toArray_toList]; exact hD⟩), rfl, q _ (I.hok.fresh (Nat.le_refl _))⟩
def mListS (a : DA) : DA := fun δ S => (a δ S).bind fun ds S1 => match ds with
  | [.dat (.str z)] => if z.length ≤ 100000 then .ok ((M3.signs z).map .dat) S1 else .fail
  | _ => .fail
section
variable {K : PySem.W.Frag} {W : L2.St → WK}
theorem sl_listS {ta : TA} {a : DA} (ha : SA K W ta a) : SL K W (tCB rListS ta) (mListS a) := by
  intro ι X S H σ δ Q rel re h
  refine ha ι X S H σ δ _ rel re (postL_of h fun ι1 H1 ds S1 vs x1 rel1 rv h1 => ?_)
  split at h1
  · rename_i z
    split at h1
    · rename_i hz
      obtain ⟨v, rfl, r⟩ := repDs_one rv
      exact ⟨z, by rw [rS_inv r], small hz, fun p hp => newL x1 rel1 (repDs_signs z.cps.toList) h1 hp⟩
    · exact h1.elim
  · exact h1.elim
def rIntT : List V → Hp → VK → Prop := fun xs H Q => ((∃ i, xs = [.int i] ∧ Q (.int i) H) ∨ ∃ k, xs = [.bl k] ∧ Q (.int (if k then 1 else 0)) H) ∨ ∃ a n, xs = [.str a] ∧ PySem.intText? a = some n ∧ a.length ≤ 640 ∧ Q (.int n) H
theorem call_intT {X : Cx} : CallR X (.type "int") rIntT := CallR.or call_int1 call_int_str
def aIntT : Store → List D → Option D := fun _ ds => match ds with
  | [.dat (.int i)] => some (dInt i)
  | [.dat (.bl b)] => some (dInt (if b then 1 else 0))
  | [.dat (.str z)] => if z.length ≤ 640 then (PySem.intText? z).map dInt else none
  | _ => none
theorem intT_ok : RCS K rIntT aIntT := by
  intro ι X S H ds vs d Q rel rv e k
  unfold aIntT at e
  split at e
  · cases e
    obtain ⟨v, rfl, r⟩ := repDs_one rv
    exact .inl (.inl ⟨_, by rw [rI_inv r], k H _ Ext.refl rel rd_int⟩)
  · cases e
    obtain ⟨v, rfl, r⟩ := repDs_one rv
    have r : RepP K ι X H (.bl _) v := r
    rw [RepP] at r
    exact .inl (.inr ⟨_, by rw [r], k H _ Ext.refl rel rd_int⟩)
  · rename_i z
    split at e
    · rename_i hz
      cases q : PySem.intText? z with
      | none => rw [q] at e; cases e
      | some n =>
        rw [q] at e
        cases e
        obtain ⟨v, rfl, r⟩ := repDs_one rv
        exact .inr ⟨z, n, by rw [rS_inv r], q, hz, k H _ Ext.refl rel rd_int⟩
    · cases e
  · cases e
def strI (i : Int) : Str := toString i
def rStrI : List V → Hp → VK → Prop := fun xs H Q => ∃ i, xs = [.int i] ∧ i.natAbs.log2 < 1920 ∧ Q (.str (strI i)) H
theorem call_strI {X : Cx} : CallR X (.type "str") rStrI := call_str_int
def aStrI : Store → List D → Option D := fun _ ds => match ds with
  | [.dat (.int i)] => if i.natAbs.log2 < 1920 then some (.dat (.str (strI i))) else none
  | _ => none
theorem strI_ok : RCS K rStrI aStrI := by
  intro ι X S H ds vs d Q rel rv e k
  unfold aStrI at e
  split at e
  · rename_i i
    split at e
    · rename_i hi
      cases e
      obtain ⟨v, rfl, r⟩ := repDs_one rv
      exact ⟨i, by rw [rI_inv r], hi, k H _ Ext.refl rel rd_str⟩
    · cases e
  · cases e
def strsP : List P → Option (List Str)
  | [] => some []
  | .str z :: l => (strsP l).map (z :: ·)
  | _ :: _ => none
theorem strsP_map : ∀ l : List Str, strsP (l.map .str) = some l
  | [] => rfl
  | z :: l => by rw [List.map_cons, strsP, strsP_map l]; rfl
theorem strsP_rep {ι X : List Addr} {H : Hp} : ∀ {l : List P} {ys : List Str} {xs : List V}, strsP l = some ys → RepPs K ι X H l xs → xs = ys.map V.str
  | [], ys, xs, e, r => by
    cases e
    rw [RepPs] at r
    rw [r]; rfl
  | p :: l, ys, xs, e, r => by
    rw [RepPs] at r
    obtain ⟨y, us, rfl, f, g⟩ := r
    cases p with
    | str z =>
      unfold strsP at e
      cases q : strsP l with
      | none => rw [q] at e; cases e
      | some zs =>
        rw [q] at e
        cases e
        rw [RepP] at f
        rw [f, strsP_rep q g]; rfl
    | _ => cases e
def rJn (K : PySem.W.Frag) : V → List V → Hp → VK → Prop := fun x xs H Q => ∃ a p, ∃ ys : List Str, x = .str a ∧ xs = [.ref p] ∧ (SqL K H p (ys.map V.str) ∨ SqT K H p (ys.map V.str)) ∧ (ys.map (·.length)).sum + ys.length * a.length ≤ 16777216 ∧ Q (.str (Txt.join a ys)) H
def mJoin (a b : DE) : DE := fun δ S => (a δ S).bind fun x S1 => match x with
  | .dat (.str sep) => (b δ S1).bind fun y S2 => match (listP S2 y).bind strsP with
    | some ys => if (ys.map (·.length)).sum + ys.length * sep.length ≤ 16777216 then .ok (.dat (.str (Txt.join sep ys))) S2 else .fail
    | none => .fail
  | _ => .fail
theorem se_join {to te : TE} {a b : DE} (ha : SE K W to a) (hb : SE K W te b) : SE K W (L2.tM1 (rJn K) to te) (mJoin a b) := by
  intro ι X S H σ δ Q rel re h
  refine ha ι X S H σ δ _ rel re (Post.bind h fun ι1 H1 x S1 v x1 rel1 rv h1 => ?_)
  split at h1
  · rename_i sep
    refine ⟨⟨sep, rS_inv rv⟩, hb ι1 X S1 H1 σ δ _ rel1 (re.ext x1) (Post.bind h1 fun ι2 H2 y S2 u x2 rel2 ru h2 => ?_)⟩
    cases q : listP S2 y with
    | none => rw [q] at h2; exact h2.elim
    | some l =>
      rw [q, Option.bind_some] at h2
      cases q2 : strsP l with
      | none => rw [q2] at h2; exact h2.elim
      | some ys =>
        rw [q2] at h2
        simp only at h2
        split at h2
        · rename_i hz
          obtain ⟨p, xs, rfl, f, g⟩ := listP_rep rel2 q ru
          have := strsP_rep q2 g
          subst this
          exact ⟨sep, p, ys, rS_inv rv, rfl, .inl (SqL.of f), hz, h2 ι2 H2 _ Ext.refl rel2 rd_str⟩
        · exact h2.elim
  · exact h1.elim
def tGT2 (K : PySem.W.Frag) (t : Addr) (kvs : List (Str × P)) (te tf : TE) : TE := fun σ H Q => te σ H fun y H2 => tf σ H2 fun z H3 => ∃ k : Str, y = .str k ∧ match lookPf k kvs with
  | some p => ∀ v, (∀ ι X H', RepP K ι X H' p v) → Q v H3
  | none => Q z H3
theorem pe_getT2 {X : Cx} {K : PySem.W.Frag} {x : Str} {e f : Expr} {te tf : TE} {t : Addr} {kvs : List (Str × P)} {p apos cpos : Pos} (hK : X.K = K) (hg : Gl X x) (hm : X.mg x = some (.ref t)) (T : TabOk K X.w t kvs) (he : PE X e te) (hf : PE X f tf)
    (m : L2.M2 X (.Name x p) "get" apos e f cpos) (hdb : (x == ("__debug__" : Str)) = false := by decide) : PE X (.Call (.Attribute (.Name x p) "get" apos) [e, f] [] cpos) (tGT2 K t kvs te tf) := by
  subst hK
  refine ⟨fun pins s σ H Q I h => ?_⟩
  obtain ⟨kv, D, hv⟩ := T.ex
  obtain ⟨es, n, KDc⟩ := D.ex
  refine wpAny_Call_method m.base m.few m.line PySem.F.plainAttrs_dict PySem.F.slot_dict_get PySem.F.type_dict_get (ld_glob I hg hm ?_ hdb)
  have mp := PySem.W.mapOf_K (prog := X.prog) (w := X.w) I.kIn KDc.at_ KDc.lit
  refine ⟨mp.typeIs, ?_, ?_⟩
  · exact fun b e => by cases e; exact ⟨_, I.kIn _ _ KDc.at_, rfl⟩
  rw [m.trees]
  refine Calls.callWith_builtin rfl (Calls.evalArgs_plain (Calls.spliced_cons (thn (he.run pins s σ H _ I h) fun iv s2 ⟨y, H2, I2, ry, q2⟩ =>
    Calls.spliced_cons (thn (hf.run pins s2 σ H2 _ I2 q2) fun fv s3 ⟨z, H3, I3, rz, k, ey, q3⟩ => Calls.spliced_nil ?_))))
  subst ey
  obtain ⟨tk, rfl⟩ := (show ∃ tk, iv = Value.str k tk from ry)
  have mp3 := PySem.W.mapOf_K (prog := X.prog) (w := X.w) I3.kIn KDc.at_ KDc.lit
  refine call_meetsIn PySem.F.slot_dict_get mp3.typeIs PySem.F.entry_dict_get (PySem.F.args_dict_get_3 _ _ _) (meets_dict_get_default (strKind X.prog X.w) t (strKind_is X.prog X.w k tk) KDc.low fv) ⟨_, mp3, ?_⟩
  have hz := hv k
  cases q : lookPf k kvs with
  | none =>
    rw [q] at hz q3
    rw [PySem.W.find_K KDc.at_ (D.miss k hz)]
    exact ⟨z, H3, I3.tok _, rz, q3⟩
  | some pp =>
    rw [q] at hz q3
    obtain ⟨v, e1, rep⟩ := hz
    obtain ⟨u, e2, ru⟩ := D.hit k v e1
    rw [PySem.W.find_K KDc.at_ e2]
    exact ⟨v, H3, I3.tok _, ru, q3 v rep⟩
end
end M3
namespace M3
open PySem PySem.Spec PyProof.Rows L2
variable [TabsP]
def mGetT2 (kvs : List (Str × P)) (b c : DE) : DE := fun δ S => (b δ S).bind fun x S1 => (c δ S1).bind fun z S2 => match x with
  | .dat (.str k) => (match lookPf k kvs with
    | some p => .ok (.dat p) S2
    | none => .ok z S2)
  | _ => .fail
section
variable {K : PySem.W.Frag} {W : L2.St → WK}
theorem se_getT2 {t : Addr} {kvs : List (Str × P)} {te tf : TE} {b c : DE} (hb : SE K W te b) (hc : SE K W tf c) : SE K W (tGT2 K t kvs te tf) (mGetT2 kvs b c) := by
  intro ι X S H σ δ Q rel re h
  refine hb ι X S H σ δ _ rel re (Post.bind h fun ι1 H1 x S1 v x1 rel1 rv h1 => ?_)
  refine hc ι1 X S1 H1 σ δ _ rel1 (re.ext x1) (Post.bind h1 fun ι2 H2 z S2 u x2 rel2 ru h2 => ?_)
  split at h2
  · rename_i k
    refine ⟨k, rS_inv rv, ?_⟩
    cases q : lookPf k kvs with
    | some p =>
      rw [q] at h2
      exact fun w rw_ => h2 ι2 H2 w Ext.refl rel2 (show RepP K ι2 X H2 p w from rw_ ι2 X H2)
    | none =>
      rw [q] at h2
      exact h2 ι2 H2 u Ext.refl rel2 ru
  · exact h2.elim
end
theorem entsF_ok {K : PySem.W.Frag} {Pm : Params} : ∀ {es : List DictEntry} {zs : List (Str × Bool)}, entsF es zs = true → PySem.W.KeysLit Pm es → ∃ kv, KAll Pm es kv ∧ TabAll K kv (zs.map fun z => (z.1, .bl z.2))
  | [], [], _, _ => ⟨[], .nil, .nil⟩
  | [], _ :: _, h, _ => by cases h
  | _ :: _, [], h, _ => by cases h
  | e :: es, z :: zs, h, k => by
    unfold entsF at h
    simp only [Bool.and_eq_true, decide_eq_true_eq] at h
    obtain ⟨h1, h2, h3⟩ := h
    unfold PySem.W.KeysLit at k
    obtain ⟨⟨x, t, e1, e2⟩, k⟩ := k
    rw [e1] at h1
    have h1 : x = z.1 := by unfold keyT at h1; exact Option.some.inj h1
    obtain ⟨kv, q1, q2⟩ := entsF_ok (K := K) h3 k
    exact ⟨(x, .bl z.2) :: kv, .cons ⟨t, e1⟩ e2 (by rw [h2]; exact rfl) q1, .cons ⟨h1, fun ι X H => by rw [RepP]⟩ q2⟩
theorem tab_ofF {K : PySem.W.Frag} {w : World} {d : Addr} {zs : List (Str × Bool)} (D : ∃ es n, KDict K w d es n) (h : entF K d zs = true) : TabOk K w d (zs.map fun z => (z.1, .bl z.2)) := by
  obtain ⟨es, n, D⟩ := D
  unfold entF at h
  rw [D.at_] at h
  obtain ⟨kv, q1, q2⟩ := entsF_ok (K := K) h D.lit
  obtain ⟨es⟩ := es
  exact ⟨kv, kd_of D.at_ D.low q1, tab_mk q2⟩
def tIsQ (K : PySem.W.Frag) (C0 : Addr) (c1 c2 : V) (i j : Nat) (tA : Addr → Option Addr → TE) : Addr → Value → Option Addr → TS := fun a cls d D σ H => cls = .ref C0 ∧
  tAsg (tIf (tAnd (tB (tCB (rIsEd K C0 a d) (tCons (tVar i) (tCons (tC c1) tNil)))) (tB (tCB (rIsEd K C0 a d) (tCons (tVar i) (tCons (tC c2) tNil))))) (tA a d) (tVar j)) (gName j) D σ H
theorem pss_isQ {X : Cx} {body : List Stmt} {C0 : Addr} {c1 c2 : V} {i j : Nat} {tA : Addr → Option Addr → TE}
    (h : ∀ a oe d pn, Zc (.ref C0) d oe → (∃ vs, oe.data = .fields vs) → PSs (X.suite a ((a, oe) :: pn)) body (tAsg (tIf (tAnd (tB (tCB (rIsEd X.K C0 a d) (tCons (tVar i) (tCons (tC c1) tNil)))) (tB (tCB (rIsEd X.K C0 a d) (tCons (tVar i) (tCons (tC c2) tNil))))) (tA a d) (tVar j)) (gName j))) :
    ∀ (a : Addr) (oe : Obj) (cls : Value) (d : Option Addr) (pn : List (Addr × Obj)), Zc cls d oe → (∃ vs, oe.data = .fields vs) → PSs (X.suite a ((a, oe) :: pn)) body (tIsQ X.K C0 c1 c2 i j tA a cls d) := fun a oe cls d pn hz hf =>
  ⟨fun pins s σ H D I q => by
    obtain ⟨e, q⟩ := q
    subst e
    exact (h a oe d pn hz hf).run pins s σ H D I q⟩
def mTryIs (K : PySem.W.Frag) (c : Value) (C0 : Addr) (u1 u2 : Value) (i j : Nat) (mA : Option (Str × P) → Option P) (b : DS) : DS := fun δ S => match b δ S with
  | .ok (.ex C x δ1) S1 => (match PySem.W.exmOne K (.ref C) c with
    | some true => (match mA x with
      | some p => if C = C0 ∧ i < δ1.length ∧ j < δ1.length ∧ i ≠ j ∧ PySem.W.kitOne K (.ref C0) u1 = some true ∧ PySem.W.kitOne K (.ref C0) u2 = some true then .ok (.nx ((δ1.set j (some (.dat p))).set i none)) S1 else .fail
      | none => .fail)
    | some false => .ok (.ex C x δ1) S1
    | none => .fail)
  | r => r
/-- what the reading tA asks is given by mA -/
def IsQA (K : PySem.W.Frag) (i : Nat) (tA : Addr → Option Addr → TE) (mA : Option (Str × P) → Option P) : Prop := ∀ ι X S H σ x p a d Q, Rel K ι X S H → RepX K ι X H x d → mA x = some p → σ[i]? = some (some (.ref a)) → H a = none →
  (∀ ι' H' v, Ext ι H ι' H' → Rel K ι' X S H' → RepP K ι' X H' p v → Q v H') → tA a d σ H Q
theorem isQ_str {K : PySem.W.Frag} {i : Nat} {z : Str} : IsQA K i (fun _ _ => tC (.str z)) (fun x => match x with
    | none => some (.str z)
    | some _ => none) := by
  intro ι X S H σ x p a d Q rel rx e ea ha k
  cases x with
  | some y => cases e
  | none =>
    cases e
    exact k ι H _ Ext.refl rel (by rw [RepP])
theorem isQ_fld {K : PySem.W.Frag} {C0 : Addr} {i : Nat} {cst f : Str} {tby : Addr → Option Addr → TE → TE}
    (htby : ∀ a d te, tby a d te = fun σ H Q => te σ H fun x H1 => x = .ref a ∧ (.ref C0 : Value) = .ref C0 ∧ ∃ (dd : Addr) (v : V), d = some dd ∧ H1 dd = some (.xd [(f, v)]) ∧ Q v H1) :
    IsQA K i (fun a d => tTup (tCons (tC (.str cst)) (tCons (tby a d (tVar i)) tNil))) (fun x => match x with
    | some (f', p) => if f' = f then some (.tup [.str cst, p]) else none
    | none => none) := by
  intro ι X S H σ x p a d Q rel rx e ea ha k
  cases x with
  | none => cases e
  | some y =>
    obtain ⟨f', p'⟩ := y
    simp only at e
    by_cases c : f' = f
    · rw [if_pos c] at e
      cases e
      subst c
      obtain ⟨dd, v, ed, ex, rp⟩ := rx
      unfold tTup tCons tC
      rw [htby]
      refine ⟨.ref a, ea, rfl, rfl, dd, v, ed, ex, small (by show 2 ≤ 100000; decide), fun t ht => ?_⟩
      have x2 := ext_alloc (o := .tup [.str cst, v]) rel ht
      have r2 := rel.alloc (o := .tup [.str cst, v]) ht
      refine k ι _ (.ref t) x2 r2 ?_
      rw [RepP]
      have na : t ∉ ι ∧ t ∉ X := rel.nin ht
      refine ⟨t, _, rfl, .inl ⟨na.1, na.2, .inl upd_same⟩, ?_⟩
      rw [RepPs]
      refine ⟨_, _, rfl, by rw [RepP], ?_⟩
      rw [RepPs]
      refine ⟨_, _, rfl, RepP.ext x2 rp, ?_⟩
      rw [RepPs]
    · rw [if_neg c] at e; cases e
theorem ss_tryIs {K : PySem.W.Frag} {c : Value} {C0 : Addr} {v1 v2 : V} {u1 u2 : Value} {i j : Nat} {tA : Addr → Option Addr → TE} {mA : Option (Str × P) → Option P} {tb : WX → TS} {Wout : WX} {b : DS} (hb : ∀ W' : WX, SS K (wk W') (tb W') b)
    (hc1 : ∀ u, L2.RelV v1 u → u = u1) (hc2 : ∀ u, L2.RelV v2 u → u = u2) (hA : IsQA K i tA mA) :
    SS K (wk Wout) (tTry tb (wAs K c i (tIsQ K C0 v1 v2 i j tA) Wout)) (mTryIs K c C0 u1 u2 i j mA b) := by
  intro ι X S H σ δ E rel re hp
  refine hb _ ι X S H σ δ E rel re ?_
  unfold mTryIs at hp
  cases e : b δ S with
  | fail => rw [e] at hp; exact hp
  | exc C x S1 => rw [e] at hp; exact hp
  | ok o S1 =>
    rw [e] at hp
    cases o with
    | nx δ1 => exact hp
    | bk δ1 => exact hp
    | ct δ1 => exact hp
    | rt d => exact hp
    | ex C x δ1 =>
      simp only at hp
      intro ι1 H1 da σ1 x1 rel1 rx re1
      cases q : PySem.W.exmOne K (.ref C) c with
      | none => rw [q] at hp; exact hp.elim
      | some bb =>
        rw [q] at hp
        refine ⟨bb, q, fun eb a ha => ?_, fun eb => ?_⟩
        · subst eb
          simp only at hp
          cases qa : mA x with
          | none => rw [qa] at hp; exact hp.elim
          | some p =>
            rw [qa] at hp
            simp only at hp
            by_cases cc : C = C0 ∧ i < δ1.length ∧ j < δ1.length ∧ i ≠ j ∧ PySem.W.kitOne K (.ref C0) u1 = some true ∧ PySem.W.kitOne K (.ref C0) u2 = some true
            · rw [if_pos cc] at hp
              obtain ⟨rfl, hi, hj, hij, k1, k2⟩ := cc
              have hi2 : i < σ1.length := by rw [← re1.1]; exact hi
              have ea : (σ1.set i (some (V.ref a)))[i]? = some (some (.ref a)) := List.getElem?_set_self hi2
              have hd : ∀ dd, da = some dd → ∃ fs, H1 dd = some (.xd fs) := fun dd ed => by
                cases x with
                | none =>
                  have z : da = none := rx
                  rw [z] at ed; cases ed
                | some y =>
                  obtain ⟨f', p'⟩ := y
                  obtain ⟨dd', v, ed', ex, rp⟩ := rx
                  rw [ed'] at ed
                  cases ed
                  exact ⟨_, ex⟩
              refine ⟨rfl, .ref a, ea, ?_⟩
              refine ⟨v1, u1, true, rfl, hc1, k1, hd, true, rfl, ?_⟩
              refine iteT ?_
              refine ⟨.ref a, ea, v2, u2, true, rfl, hc2, k2, hd, true, rfl, ?_⟩
              refine iteT ?_
              refine hA ι1 X S1 H1 _ x p a da _ rel1 rx qa ea ha fun ι2 H2 v x2 rel2 rp => ?_
              refine hp ι2 H2 _ (x1.trans x2) rel2 ?_
              have r0 : RepE K ι2 X H2 (δ1.set j (some (.dat p))) (σ1.set j (some v)) := (re1.ext x2).set (show RepD K ι2 X H2 (.dat p) v from rp)
              have r1 := r0.wipe1 (i := i)
              have es : ((σ1.set j (some v)).set i none) = (((σ1.set i (some (V.ref a))).set j (some v)).set i none) := by
                rw [List.set_comm _ _ hij, List.set_set]
              rw [← es]
              exact r1
            · rw [if_neg cc] at hp; exact hp.elim
        · subst eb
          exact hp ι1 H1 da σ1 x1 rel1 rx re1
theorem pe_joinM {X : Cx} {K : PySem.W.Frag} (h : X.K = K) {o e : Expr} {to te : TE} {apos pos : Pos} (ho : PE X o to) (he : PE X e te) (hs : starEach [e] X.env = [(false, eval e X.env)] := by rfl) (hbase : attributeBase o "join" X.env (eval o X.env) = eval o X.env := by rfl) (hline : (apos.endLine == pos.line) = true := by rfl) :
    PE X (.Call (.Attribute o "join" apos) [e] [] pos) (tM1 (rJn K) to te) := by
  subst h
  exact pe_join ho he hs hbase hline
def rStrA : List V → Hp → VK → Prop := fun xs H Q => rStrI xs H Q ∨ ∃ a, xs = [.str a] ∧ Q (.str a) H
theorem call_strA {X : Cx} : CallR X (.type "str") rStrA := CallR.or call_strI SkE.call_str_str
def aStrA : Store → List D → Option D := fun S ds => match ds with
  | [.dat (.str z)] => some (.dat (.str z))
  | ds => aStrI S ds
theorem strA_ok {K : PySem.W.Frag} : RCS K rStrA aStrA := by
  intro ι X S H ds vs d Q rel rv e k
  unfold aStrA at e
  split at e
  · rename_i z
    cases e
    obtain ⟨v, rfl, r⟩ := repDs_one rv
    exact .inr ⟨z, by rw [rS_inv r], k H _ Ext.refl rel rd_str⟩
  · exact .inl (strI_ok ι X S H _ vs d Q rel rv e k)
end M3
namespace W3
open PySem PySem.Spec PyProof.Rows L2 M3
instance (priority := 1) tabsNone : TabsP := { T := [] }
section
/-- what the pure part asks of the classes -/
structure Gx (g : G) : Prop where
  CS : g.CS = [g.Forest]
  FL : g.FL = [(g.Forest, ("parents" : Str)), (g.Forest, ("worths" : Str))]
  k_Forest_int : PySem.W.kitOne g.K (.ref g.Forest) (.type "int") = some false
  k_Forest_bool : PySem.W.kitOne g.K (.ref g.Forest) (.type "bool") = some false
  k_Forest_tuple : PySem.W.kitOne g.K (.ref g.Forest) (.type "tuple") = some false
  k_Forest_list : PySem.W.kitOne g.K (.ref g.Forest) (.type "list") = some false
  k_Forest_str : PySem.W.kitOne g.K (.ref g.Forest) (.type "str") = some false
  k_Forest_dict : PySem.W.kitOne g.K (.ref g.Forest) (.type "dict") = some false
  kk_Forest_Forest : PySem.W.kitOne g.K (.ref g.Forest) (.ref g.Forest) = some true
  t_NoneType_Forest : PySem.W.kitOne g.K (.type "NoneType") (.ref g.Forest) = some false
  t_int_Forest : PySem.W.kitOne g.K (.type "int") (.ref g.Forest) = some false
  t_bool_Forest : PySem.W.kitOne g.K (.type "bool") (.ref g.Forest) = some false
  t_tuple_Forest : PySem.W.kitOne g.K (.type "tuple") (.ref g.Forest) = some false
  t_list_Forest : PySem.W.kitOne g.K (.type "list") (.ref g.Forest) = some false
  t_str_Forest : PySem.W.kitOne g.K (.type "str") (.ref g.Forest) = some false
  t_dict_Forest : PySem.W.kitOne g.K (.type "dict") (.ref g.Forest) = some false
  ke_BadThing_ForestError : PySem.W.kitOne g.K (.ref g.BadThing) (.ref g.ForestError) = some true
  ke_BadThing_ValueError : PySem.W.kitOne g.K (.ref g.BadThing) (.type "ValueError") = some true
  ke_NoThing_ForestError : PySem.W.kitOne g.K (.ref g.NoThing) (.ref g.ForestError) = some true
  ke_NoThing_ValueError : PySem.W.kitOne g.K (.ref g.NoThing) (.type "ValueError") = some true
  x_BadForest_BadThing : PySem.W.exmOne g.K (.ref g.BadForest) (.ref g.BadThing) = some false
  x_BadForest_NoThing : PySem.W.exmOne g.K (.ref g.BadForest) (.ref g.NoThing) = some false
  x_NoThing_BadThing : PySem.W.exmOne g.K (.ref g.NoThing) (.ref g.BadThing) = some false
  x_NoThing_NoThing : PySem.W.exmOne g.K (.ref g.NoThing) (.ref g.NoThing) = some true
  x_BadThing_BadThing : PySem.W.exmOne g.K (.ref g.BadThing) (.ref g.BadThing) = some true
  x_BadThing_NoThing : PySem.W.exmOne g.K (.ref g.BadThing) (.ref g.NoThing) = some false
def tab_FLAGS : List (Str × P) := [("yes", .bl true), ("no", .bl false)]
def m_is_integer (g : G) : List D → Store → R D := mBody 1 ((mRet (mAnd (mCall (aIsi g.K g.CS) (mCons (mVar 0) (mCons (mC (.con (.ty "int"))) mNil))) (mNot (mCall (aIsi g.K g.CS) (mCons (mVar 0) (mCons (mC (.con (.ty "bool"))) mNil)))))))
def m_come_to_roots (g : G) : List D → Store → R D := mBody 7 ((mSeq (mAsg (mTrk (mLc (mWalk (mVar 0)) (gmName 2) mYes (mOp aIsN (mVar 2) (mC .non)) [2])) (gmName 1))
      (mSeq (mFor (mRng1 (mCons (mCall aLen (mCons (mVar 0) mNil)) mNil)) (gmName 3) (mSeq (mAsg (mTrk (mLst mNil)) (gmName 4))
      (mSeq (mAsg (mVar 3) (gmName 5))
      (mSeq (mWhile (mNotT (mTst (mOp aIx (mVar 1) (mVar 5)))) (mSeq (mIfS (mTst (mOp aEq (mCall aLen (mCons (mVar 4) mNil)) (mCall aLen (mCons (mVar 0) mNil)))) (mRet (mC (.bl false))) mNext)
      (mSeq (mDrop (mBM "list" (updL fAppend) (mVar 4) (mCons (mVar 5) mNil)))
      (mAsg (mOp aIx (mVar 0) (mVar 5)) (gmName 5)))))
      (mFor (mWalk (mVar 4)) (gmName 6) (mAsg (mC (.bl true)) (gmSub (mVar 1) (mVar 6))))))))
      (mRet (mC (.bl true))))))
def m_is_word (g : G) : List D → Store → R D := mBody 3 ((mRet (mAnd (mCall (aIsi g.K g.CS) (mCons (mVar 1) (mCons (mC (.con (.ty "str"))) mNil))) (mAnd (mChain aLe aLe (mC (.int 1)) (mCall aLen (mCons (mVar 1) mNil)) (mVar 0)) (mCall aAll (mCons (mFrz (mLc (mWalk (mVar 1)) (gmName 2) mYes (mOp aIn (mVar 2) (mC (.str "abcdefghijklmnopqrstuvwxyz"))) [2])) mNil))))))
def m_read_parts (g : G) (f : List D → Store → R D) : List D → Store → R D := mBody 7 ((mSeq (mIfS (mTst (mOp aEq (mSl (mVar 0) (moS (mVar 1)) (moS (mOp aAdd (mVar 1) (mC (.int 1))))) (mC (.str ")")))) (mRet (mTup (mCons (mTup mNil) (mCons (mOp aAdd (mVar 1) (mC (.int 1))) mNil)))) mNext)
      (mSeq (mAsg (mTrk (mLst mNil)) (gmName 3))
      (mSeq (mAsg (mC (.str ",")) (gmName 4))
      (mSeq (mWhile (mTst (mOp aEq (mVar 4) (mC (.str ",")))) (mSeq (mAsg (mDef 3 (mPure f) (mCons (mVar 0) (mCons (mVar 1) (mCons (mVar 2) mNil)))) (gmTup 2 (gmCons (gmName 5) (gmCons (gmName 6) gmNil))))
      (mSeq (mDrop (mBM "list" (updL fAppend) (mVar 3) (mCons (mVar 5) mNil)))
      (mSeq (mAsg (mSl (mVar 0) (moS (mVar 6)) (moS (mOp aAdd (mVar 6) (mC (.int 1))))) (gmName 4))
      (mAsg (mOp aAdd (mVar 6) (mC (.int 1))) (gmName 1))))))
      (mSeq (mIfS (mTst (mOp aNe (mVar 4) (mC (.str ")")))) (mRaise1 g.BadThing "place" (mCons (mOp aSub (mVar 1) (mC (.int 1))) mNil)) mNext)
      (mRet (mTup (mCons (mCall aTuple (mCons (mVar 3) mNil)) (mCons (mVar 1) mNil))))))))))
def m_end_of (g : G) : List D → Store → R D := mBody 4 ((mSeq (mAsg (mVar 1) (gmName 3))
      (mSeq (mWhile (mAndT (mTst (mOp aLt (mVar 3) (mCall aMin (mCons (mCall aLen (mCons (mVar 0) mNil)) (mCons (mOp aAdd (mVar 1) (mC (.int 20))) mNil))))) (mTst (mOp aIn (mOp aIx (mVar 0) (mVar 3)) (mVar 2)))) (mAug 3 aAddI (mC (.int 1))))
      (mRet (mVar 3)))))
def m_L_hand (g : G) : List D → Store → R D := mBody 3 ((mSeq (mAsg (mFrz (mLc (mWalk (mSl (mVar 0) moN (moS (mC (.int 63))))) (gmName 2) mYes (mCall aAbs (mCons (mCall aInt (mCons (mVar 2) mNil)) mNil)) [2])) (gmName 1))
      (mRet (mTrk (mLst (mCons (mVar 1) (mCons (mC (.int 0)) (mCons (mC (.int 0)) (mCons (mOp aAdd (mC (.int 1)) (mCall aLen (mCons (mVar 1) mNil))) (mCons (mC (.int 0)) mNil))))))))))
def m_L_draw (g : G) : List D → Store → R D := mBody 5 ((mSeq (mIfS (mAndT (mTst (mOp aEq (mOp aIx (mVar 0) (mC (.int 2))) (mC (.int 0)))) (mTst (mOp aLt (mOp aIx (mVar 0) (mC (.int 1))) (mCall aLen (mCons (mOp aIx (mVar 0) (mC (.int 0))) mNil))))) (mSeq (mAsg (mOp aIx (mOp aIx (mVar 0) (mC (.int 0))) (mOp aIx (mVar 0) (mC (.int 1)))) (gmName 2))
      (mSeq (mAsg (mOp aAdd (mOp aIx (mVar 0) (mC (.int 1))) (mC (.int 1))) (gmSub (mVar 0) (mC (.int 1))))
      (mSeq (mAsg (mOp aMod (mCall aInt (mCons (mOp aAdd (mOp aAdd (mOp aMul (mOp aIx (mVar 0) (mC (.int 3))) (mC (.int 69621))) (mVar 2)) (mC (.int 11))) mNil)) (mC (.int 2147483629))) (gmSub (mVar 0) (mC (.int 3))))
      (mIfS (mTst (mOp aGe (mVar 2) (mOp aPow (mC (.int 10)) (mC (.int 18))))) (mAsg (mVar 2) (gmSub (mVar 0) (mC (.int 2)))) mNext)))) mNext)
      (mSeq (mIfS (mTst (mOp aGt (mOp aIx (mVar 0) (mC (.int 2))) (mC (.int 0)))) (mSeq (mAsg (mOp aMod (mCall aInt (mCons (mOp aIx (mVar 0) (mC (.int 2))) mNil)) (mVar 1)) (gmName 3))
      (mSeq (mAsg (mOp aDiv (mOp aIx (mVar 0) (mC (.int 2))) (mVar 1)) (gmSub (mVar 0) (mC (.int 2))))
      (mRet (mVar 3)))) mNext)
      (mSeq (mAsg (mOp aAdd (mOp aIx (mVar 0) (mC (.int 4))) (mC (.int 1))) (gmSub (mVar 0) (mC (.int 4))))
      (mSeq (mAsg (mOp aMod (mCall aInt (mCons (mOp aMul (mCall aInt (mCons (mOp aAdd (mOp aIx (mVar 0) (mC (.int 3))) (mOp aMul (mC (.int 7919)) (mOp aIx (mVar 0) (mC (.int 4))))) mNil)) (mC (.int 48271))) mNil)) (mC (.int 2147483647))) (gmName 4))
      (mSeq (mAsg (mOp aMod (mCall aInt (mCons (mOp aMul (mVar 4) (mOp aAdd (mOp aDiv (mVar 4) (mC (.int 1009))) (mC (.int 69621)))) mNil)) (mC (.int 2147483647))) (gmName 4))
      (mSeq (mAsg (mOp aMod (mCall aInt (mCons (mOp aMul (mVar 4) (mOp aAdd (mOp aDiv (mVar 4) (mC (.int 2003))) (mC (.int 40692)))) mNil)) (mC (.int 2147483399))) (gmName 4))
      (mRet (mOp aMod (mCall aInt (mCons (mOp aDiv (mVar 4) (mC (.int 16))) mNil)) (mVar 1))))))))))
def m_L_deep (g : G) : List D → Store → R D := mBody 3 ((mSeq (mAsg (mC .non) (gmName 1))
      (mSeq (mFor (mRng1 (mCons (mC (.int 36)) mNil)) (gmName 2) (mAsg (mIf (mTst (mOp aEq (mVar 0) (mC (.int 0)))) (mFrz (mLst (mCons (mVar 1) mNil))) (mTup (mCons (mVar 1) mNil))) (gmName 1)))
      (mRet (mVar 1)))))
def m_L_token (g : G) : List D → Store → R D := mBody 7 ((mSeq (mAsg (mTup (mCons (mC (.str "0123456789")) (mCons (mC (.str "abcdefghijklmnopqrstuvwxyz")) mNil))) (gmTup 2 (gmCons (gmName 2) (gmCons (gmName 3) gmNil))))
      (mSeq (mIfS (mTst (mOp aIn (mOp aIx (mVar 0) (mVar 1)) (mVar 3))) (mSeq (mAsg (mC (.int 0)) (gmName 4))
      (mSeq (mFor (mWalk (mSl (mVar 0) (moS (mVar 1)) (moS (mOp aAdd (mVar 1) (mC (.int 20)))))) (gmName 5) (mAsg (mIf (mAndT (mTst (mOp aIn (mVar 5) (mVar 3))) (mTst (mOp aGe (mVar 4) (mC (.int 0))))) (mOp aAdd (mVar 4) (mC (.int 1))) (mUn aNeg (mCall aAbs (mCons (mVar 4) mNil)))) (gmName 4)))
      (mRet (mCall aAbs (mCons (mVar 4) mNil))))) mNext)
      (mSeq (mIfS (mTst (mOp aEq (mOp aIx (mVar 0) (mVar 1)) (mC (.str "0")))) (mRet (mC (.int 1))) mNext)
      (mSeq (mAsg (mCall aInt (mCons (mOp aEq (mOp aIx (mVar 0) (mVar 1)) (mC (.str "-"))) mNil)) (gmName 6))
      (mSeq (mIfS (mTst (mOp aNotIn (mSl (mVar 0) (moS (mOp aAdd (mVar 1) (mVar 6))) (moS (mOp aAdd (mOp aAdd (mVar 1) (mVar 6)) (mC (.int 1))))) (mCall aTuple (mCons (mFrz (mListS (mCons (mSl (mVar 2) (moS (mC (.int 1))) moN) mNil))) mNil)))) (mRet (mVar 6)) mNext)
      (mSeq (mAsg (mC (.int 0)) (gmName 4))
      (mSeq (mFor (mWalk (mSl (mVar 0) (moS (mOp aAdd (mVar 1) (mVar 6))) (moS (mOp aAdd (mOp aAdd (mVar 1) (mVar 6)) (mC (.int 20)))))) (gmName 5) (mAsg (mIf (mAndT (mTst (mOp aIn (mVar 5) (mVar 2))) (mTst (mOp aGe (mVar 4) (mC (.int 0))))) (mOp aAdd (mVar 4) (mC (.int 1))) (mUn aNeg (mCall aAbs (mCons (mVar 4) mNil)))) (gmName 4)))
      (mRet (mOp aAdd (mVar 6) (mCall aAbs (mCons (mVar 4) mNil))))))))))))
def m_L_item (g : G) : List D → Store → R D := mBody 1 ((mSeq (mIfS (mTst (mOp aIn (mVar 0) (mTup (mCons (mC (.str "-")) (mCons (mC (.str "yes")) (mCons (mC (.str "no")) mNil)))))) (mRet (mDGet (mDisp (((mC (.str "-")), (mC .non)) :: (((mC (.str "yes")), (mC (.bl true))) :: (((mC (.str "no")), (mC (.bl false))) :: [])))) (mVar 0))) mNext)
      (mRet (mIf (mTst (mOp aIn (mOp aIx (mVar 0) (mC (.int 0))) (mC (.str "-0123456789")))) (mCall aIntT (mCons (mVar 0) mNil)) (mVar 0)))))
def m_is_between (g : G) : List D → Store → R D := mBody 3 ((mRet (mAnd (mDef 1 (mPure (m_is_integer g)) (mCons (mVar 2) mNil)) (mChain aLe aLe (mVar 0) (mVar 2) (mVar 1)))))
def m_are_worths (g : G) : List D → Store → R D := mBody 3 ((mSeq (mIfS (mOrT (mNotT (mTst (mCall (aIsi g.K g.CS) (mCons (mVar 0) (mCons (mC (.con (.ty "tuple"))) mNil))))) (mTst (mOp aNe (mCall aLen (mCons (mVar 0) mNil)) (mVar 1)))) (mRet (mC (.bl false))) mNext)
      (mRet (mCall aAll (mCons (mFrz (mLc (mWalk (mVar 0)) (gmName 2) mYes (mDef 1 (mPure (m_is_integer g)) (mCons (mVar 2) mNil)) [2])) mNil)))))
def m_read_behind_minus (g : G) : List D → Store → R D := mBody 3 ((mSeq (mAsg (mDef 3 (mPure (m_end_of g)) (mCons (mVar 0) (mCons (mVar 1) (mCons (mC (.str "0123456789")) mNil)))) (gmName 2))
      (mSeq (mIfS (mOrT (mTst (mOp aEq (mVar 2) (mVar 1))) (mTst (mOp aEq (mOp aIx (mVar 0) (mVar 1)) (mC (.str "0"))))) (mRet (mTup (mCons (mC .non) (mCons (mVar 1) mNil)))) mNext)
      (mRet (mTup (mCons (mUn aNeg (mCall aIntT (mCons (mSl (mVar 0) (moS (mVar 1)) (moS (mVar 2))) mNil))) (mCons (mVar 2) mNil)))))))
def m_L_some (g : G) : List D → Store → R D := mBody 2 ((mRet (mOp aIx (mVar 1) (mDef 2 (mScope (m_L_draw g)) (mCons (mVar 0) (mCons (mCall aLen (mCons (mVar 1) mNil)) mNil))))))
def m_L_read (g : G) : List D → Store → R D := mBody 9 ((mSeq (mIfS (mNotT (mTst (mCall (aIsi g.K g.CS) (mCons (mVar 0) (mCons (mC (.con (.ty "str"))) mNil))))) (mRet (mTup (mCons (mC (.str "bad")) (mCons (mUn aNeg (mC (.int 1))) mNil)))) mNext)
      (mSeq (mPar3 1 2 3 (mCons (mC (.int 0)) (mCons (mTrk (mLst (mCons (mTrk (mLst mNil)) mNil))) (mCons (mC (.str "item")) mNil))))
      (mSeq (mFor (mRng1 (mCons (mCall aLen (mCons (mVar 0) mNil)) mNil)) (gmName 4) (mIfS (mTst (mOp aLt (mVar 1) (mCall aLen (mCons (mVar 0) mNil)))) (mSeq (mPar 5 6 (mCons (mOp aIx (mVar 0) (mVar 1)) (mCons (mOp aGt (mCall aLen (mCons (mVar 2) mNil)) (mC (.int 1))) mNil)))
      (mIfS (mAndT (mTst (mOp aEq (mVar 5) (mC (.str ")")))) (mAndT (mTst (mVar 6)) (mTst (mOp aNe (mVar 3) (mC (.str "item")))))) (mSeq (mAsg (mCall aTuple (mCons (mBM "list" (updL fPop) (mVar 2) mNil) mNil)) (gmName 7))
      (mSeq (mDrop (mBM "list" (updL fAppend) (mOp aIx (mVar 2) (mUn aNeg (mC (.int 1)))) (mCons (mVar 7) mNil)))
      (mPar 1 3 (mCons (mOp aAdd (mVar 1) (mC (.int 1))) (mCons (mC (.str "done")) mNil))))) (mIfS (mAndT (mTst (mOp aEq (mVar 5) (mC (.str ",")))) (mAndT (mTst (mVar 6)) (mTst (mOp aEq (mVar 3) (mC (.str "done")))))) (mPar 1 3 (mCons (mOp aAdd (mVar 1) (mC (.int 1))) (mCons (mC (.str "item")) mNil))) (mIfS (mAndT (mTst (mOp aEq (mVar 5) (mC (.str "(")))) (mAndT (mTst (mOp aNe (mVar 3) (mC (.str "done")))) (mTst (mOp aLe (mCall aLen (mCons (mVar 2) mNil)) (mC (.int 20)))))) (mSeq (mDrop (mBM "list" (updL fAppend) (mVar 2) (mCons (mTrk (mLst mNil)) mNil)))
      (mPar 1 3 (mCons (mOp aAdd (mVar 1) (mC (.int 1))) (mCons (mC (.str "first")) mNil)))) (mSeq (mAsg (mIf (mTst (mOp aNe (mVar 3) (mC (.str "done")))) (mDef 2 (mPure (m_L_token g)) (mCons (mVar 0) (mCons (mVar 1) mNil))) (mC (.int 0))) (gmName 8))
      (mSeq (mIfS (mTst (mOp aEq (mVar 8) (mC (.int 0)))) (mRet (mTup (mCons (mC (.str "bad")) (mCons (mVar 1) mNil)))) mNext)
      (mSeq (mDrop (mBM "list" (updL fAppend) (mOp aIx (mVar 2) (mUn aNeg (mC (.int 1)))) (mCons (mDef 1 (mPure (m_L_item g)) (mCons (mSl (mVar 0) (moS (mVar 1)) (moS (mOp aAdd (mVar 1) (mVar 8)))) mNil)) mNil)))
      (mPar 1 3 (mCons (mOp aAdd (mVar 1) (mVar 8)) (mCons (mC (.str "done")) mNil)))))))))) mNext))
      (mRet (mIf (mAndT (mTst (mOp aEq (mVar 3) (mC (.str "done")))) (mTst (mOp aEq (mCall aLen (mCons (mVar 2) mNil)) (mC (.int 1))))) (mTup (mCons (mC (.str "let")) (mCons (mOp aIx (mOp aIx (mVar 2) (mC (.int 0))) (mC (.int 0))) mNil))) (mTup (mCons (mC (.str "bad")) (mCons (mCall aLen (mCons (mVar 0) mNil)) mNil)))))))))
def m_is_house (g : G) : List D → Store → R D := mBody 2 ((mRet (mDef 3 (mPure (m_is_between g)) (mCons (mC (.int 0)) (mCons (mOp aSub (mVar 0) (mC (.int 1))) (mCons (mVar 1) mNil))))))
def m_is_many (g : G) : List D → Store → R D := mBody 1 ((mRet (mDef 3 (mPure (m_is_between g)) (mCons (mC (.int 1)) (mCons (mC (.int 64)) (mCons (mVar 0) mNil))))))
def m_L_nested (g : G) : List D → Store → R D := mBody 4 ((mSeq (mAsg (mDef 2 (mScope (m_L_some g)) (mCons (mVar 0) (mCons (mFrz (mLst (mCons (mTup mNil) (mCons (mTup mNil) (mCons (mC (.int 5)) (mCons (mC (.str "a")) (mCons (mC .non) mNil))))))) mNil))) (gmName 2))
      (mSeq (mFor (mRng1 (mCons (mOp aSub (mOp aSub (mVar 1) (mC (.int 1))) (mDef 2 (mScope (m_L_draw g)) (mCons (mVar 0) (mCons (mC (.int 3)) mNil)))) mNil)) (gmName 3) (mAsg (mDef 2 (mScope (m_L_some g)) (mCons (mVar 0) (mCons (mFrz (mLst (mCons (mTup (mCons (mVar 2) mNil)) (mCons (mTup (mCons (mVar 2) (mCons (mC (.int 1)) mNil))) (mCons (mTup (mCons (mC .non) (mCons (mVar 2) mNil))) mNil))))) mNil))) (gmName 2)))
      (mRet (mVar 2)))))
def m_L_spoilt (g : G) : List D → Store → R D := mBody 6 ((mSeq (mPar 2 3 (mCons (mDef 2 (mScope (m_L_draw g)) (mCons (mVar 0) (mCons (mOp aAdd (mCall aLen (mCons (mVar 1) mNil)) (mC (.int 1))) mNil))) (mCons (mDef 2 (mScope (m_L_draw g)) (mCons (mVar 0) (mCons (mC (.int 7)) mNil))) mNil)))
      (mSeq (mAsg (mFrz (mLst (mCons (mC (.str "(")) (mCons (mC (.str ")")) (mCons (mC (.str ",")) (mCons (mC (.str "-")) (mCons (mC (.str "0")) (mCons (mC (.str "1")) (mCons (mC (.str "9")) (mCons (mC (.str "a")) (mCons (mC (.str "z")) (mCons (mC (.str "A")) (mCons (mC (.str " ")) (mCons (mC (.str ".")) (mCons (mC (.str "\n")) (mCons (mC (.str "yes")) (mCons (mC (.str "no")) (mCons (mC (.str "00")) (mCons (mOp aMulS (mC (.str "1")) (mC (.int 20))) (mCons (mOp aMulS (mC (.str "b")) (mC (.int 20))) mNil)))))))))))))))))))) (gmName 4))
      (mSeq (mAsg (mDef 2 (mScope (m_L_some g)) (mCons (mVar 0) (mCons (mVar 4) mNil))) (gmName 5))
      (mSeq (mIfS (mTst (mOp aLt (mVar 3) (mC (.int 3)))) (mRet (mOp aAdd (mOp aAdd (mSl (mVar 1) moN (moS (mVar 2))) (mVar 5)) (mSl (mVar 1) (moS (mVar 2)) moN))) mNext)
      (mSeq (mIfS (mTst (mOp aLt (mVar 3) (mC (.int 5)))) (mRet (mOp aAdd (mSl (mVar 1) moN (moS (mVar 2))) (mSl (mVar 1) (moS (mOp aAdd (mVar 2) (mC (.int 1)))) moN))) mNext)
      (mRet (mIf (mTst (mOp aEq (mVar 3) (mC (.int 5)))) (mOp aAdd (mOp aAdd (mSl (mVar 1) moN (moS (mVar 2))) (mVar 5)) (mSl (mVar 1) (moS (mOp aAdd (mVar 2) (mC (.int 1)))) moN)) (mSl (mVar 1) moN (moS (mVar 2)))))))))))
def m_are_parents (g : G) : List D → Store → R D := mBody 2 ((mSeq (mIfS (mOrT (mNotT (mTst (mCall (aIsi g.K g.CS) (mCons (mVar 0) (mCons (mC (.con (.ty "tuple"))) mNil))))) (mNotT (mTst (mDef 1 (mPure (m_is_many g)) (mCons (mCall aLen (mCons (mVar 0) mNil)) mNil))))) (mRet (mC (.bl false))) mNext)
      (mSeq (mIfS (mNotT (mTst (mCall aAll (mCons (mFrz (mLc (mWalk (mVar 0)) (gmName 1) mYes (mOr (mOp aIsN (mVar 1) (mC .non)) (mDef 2 (mPure (m_is_house g)) (mCons (mCall aLen (mCons (mVar 0) mNil)) (mCons (mVar 1) mNil)))) [1])) mNil)))) (mRet (mC (.bl false))) mNext)
      (mRet (mDef 1 (mPure (m_come_to_roots g)) (mCons (mVar 0) mNil))))))
def m_Forest_init (g : G) : List D → Store → R D := mBody 3 ((mSeq (mIfS (mNotT (mTst (mDef 1 (mPure (m_are_parents g)) (mCons (mVar 1) mNil)))) (mRaise1 g.BadForest "part" (mCons (mC (.str "parents")) mNil)) mNext)
      (mSeq (mIfS (mNotT (mTst (mDef 2 (mPure (m_are_worths g)) (mCons (mVar 2) (mCons (mCall aLen (mCons (mVar 1) mNil)) mNil))))) (mRaise1 g.BadForest "part" (mCons (mC (.str "worths")) mNil)) mNext)
      (mSeq (mSetF g.FL "parents" (mVar 0) (mVar 1))
      (mSetF g.FL "worths" (mVar 0) (mVar 2))))))
def m_read_thing_at (g : G) : Nat → List D → Store → R D
  | 0 => fun _ _ => .fail
  | d + 1 => mBody 6 ((mSeq (mAsg (mSl (mVar 0) (moS (mVar 1)) (moS (mOp aAdd (mVar 1) (mC (.int 1))))) (gmName 3))
      (mSeq (mIfS (mAndT (mTst (mOp aEq (mVar 3) (mC (.str "(")))) (mTst (mOp aGt (mVar 2) (mC (.int 0))))) (mRet (mDef 3 (mPure (m_read_parts g (m_read_thing_at g d))) (mCons (mVar 0) (mCons (mOp aAdd (mVar 1) (mC (.int 1))) (mCons (mOp aSub (mVar 2) (mC (.int 1))) mNil))))) mNext)
      (mSeq (mIfS (mTst (mOp aEq (mVar 3) (mC (.str "-")))) (mRet (mDef 2 (mPure (m_read_behind_minus g)) (mCons (mVar 0) (mCons (mOp aAdd (mVar 1) (mC (.int 1))) mNil)))) mNext)
      (mSeq (mIfS (mTst (mOp aEq (mVar 3) (mC (.str "0")))) (mRet (mTup (mCons (mC (.int 0)) (mCons (mOp aAdd (mVar 1) (mC (.int 1))) mNil)))) mNext)
      (mSeq (mAsg (mDef 3 (mPure (m_end_of g)) (mCons (mVar 0) (mCons (mVar 1) (mCons (mC (.str "0123456789")) mNil)))) (gmName 4))
      (mSeq (mIfS (mTst (mOp aGt (mVar 4) (mVar 1))) (mRet (mTup (mCons (mCall aIntT (mCons (mSl (mVar 0) (moS (mVar 1)) (moS (mVar 4))) mNil)) (mCons (mVar 4) mNil)))) mNext)
      (mSeq (mAsg (mDef 3 (mPure (m_end_of g)) (mCons (mVar 0) (mCons (mVar 1) (mCons (mC (.str "abcdefghijklmnopqrstuvwxyz")) mNil)))) (gmName 4))
      (mSeq (mIfS (mTst (mOp aEq (mVar 4) (mVar 1))) (mRaise1 g.BadThing "place" (mCons (mVar 1) mNil)) mNext)
      (mSeq (mAsg (mSl (mVar 0) (moS (mVar 1)) (moS (mVar 4))) (gmName 5))
      (mRet (mTup (mCons (mGetT2 tab_FLAGS (mVar 5) (mVar 5)) (mCons (mVar 4) mNil))))))))))))))
def m_read_thing (g : G) : List D → Store → R D := mBody 3 ((mSeq (mIfS (mNotT (mTst (mCall (aIsi g.K g.CS) (mCons (mVar 0) (mCons (mC (.con (.ty "str"))) mNil))))) (mRaise1 g.BadThing "place" (mCons (mUn aNeg (mC (.int 1))) mNil)) mNext)
      (mSeq (mAsg (mDef 3 (mPure (m_read_thing_at g 21)) (mCons (mVar 0) (mCons (mC (.int 0)) (mCons (mC (.int 20)) mNil)))) (gmTup 2 (gmCons (gmName 1) (gmCons (gmName 2) gmNil))))
      (mSeq (mIfS (mTst (mOp aLt (mVar 2) (mCall aLen (mCons (mVar 0) mNil)))) (mRaise1 g.BadThing "place" (mCons (mVar 2) mNil)) mNext)
      (mRet (mVar 1))))))
def m_L_told (g : G) : List D → Store → R D := mBody 3 ((mSeq (mAsg (mTup (mCons (mC (.str "other")) (mCons (mC .non) mNil))) (gmName 1))
      (mSeq (mTryIs g.K (.ref g.BadThing) g.BadThing (.ref g.ForestError) (.type "ValueError") 2 1 (fun x => match x with | some (f', p) => if f' = "place" then some (.tup [.str "bad", p]) else none | none => none) (mAsg (mTup (mCons (mC (.str "let")) (mCons (mDef 1 (mPure (m_read_thing g)) (mCons (mVar 0) mNil)) mNil))) (gmName 1)))
      (mRet (mVar 1)))))
def m_L_is (g : G) : Nat → List D → Store → R D
  | 0 => fun _ _ => .fail
  | d + 1 => mBody 4 ((mSeq (mIfS (mTst (mCall (aIsiT g.K g.CS) (mCons (mVar 1) (mCons (mTup (mCons (mC (.con (.ty "tuple"))) (mCons (mC (.con (.ty "list"))) mNil))) mNil)))) (mSeq (mIfS (mOrT (mTst (mOp aNe (mCall (aIsi g.K g.CS) (mCons (mVar 0) (mCons (mC (.con (.ty "tuple"))) mNil))) (mCall (aIsi g.K g.CS) (mCons (mVar 1) (mCons (mC (.con (.ty "tuple"))) mNil))))) (mTst (mOp aNe (mCall (aIsi g.K g.CS) (mCons (mVar 0) (mCons (mC (.con (.ty "list"))) mNil))) (mCall (aIsi g.K g.CS) (mCons (mVar 1) (mCons (mC (.con (.ty "list"))) mNil)))))) (mRet (mC (.bl false))) mNext)
      (mRet (mAnd (mOp aEq (mCall aLen (mCons (mVar 0) mNil)) (mCall aLen (mCons (mVar 1) mNil))) (mCall aAll (mCons (mFrz (mLc (mRng1 (mCons (mCall aLen (mCons (mVar 1) mNil)) mNil)) (gmName 2) mYes (mDef 2 (mPure (m_L_is g d)) (mCons (mOp aIx (mVar 0) (mVar 2)) (mCons (mOp aIx (mVar 1) (mVar 2)) mNil))) [2])) mNil))))) mNext)
      (mSeq (mIfS (mTst (mCall (aIsi g.K g.CS) (mCons (mVar 1) (mCons (mC (.con (.ty "dict"))) mNil)))) (mRet (mAnd (mCall (aIsi g.K g.CS) (mCons (mVar 0) (mCons (mC (.con (.ty "dict"))) mNil))) (mAnd (mOp aEq (mVar 0) (mVar 1)) (mCall aAll (mCons (mFrz (mLc (mWalk (mVar 1)) (gmName 3) mYes (mDef 2 (mPure (m_L_is g d)) (mCons (mOp aIx (mVar 0) (mVar 3)) (mCons (mOp aIx (mVar 1) (mVar 3)) mNil))) [3])) mNil))))) mNext)
      (mRet (mAnd (mOp aEq (mCall (aIsi g.K g.CS) (mCons (mVar 0) (mCons (mC (.con (.ty "bool"))) mNil))) (mCall (aIsi g.K g.CS) (mCons (mVar 1) (mCons (mC (.con (.ty "bool"))) mNil)))) (mOp aEq (mVar 0) (mVar 1)))))))
def m_text_of (g : G) : Nat → List D → Store → R D
  | 0 => fun _ _ => .fail
  | d + 1 => mBody 2 ((mSeq (mIfS (mTst (mOp aIsN (mVar 0) (mC .non))) (mRet (mC (.str "-"))) mNext)
      (mSeq (mIfS (mTst (mCall (aIsi g.K g.CS) (mCons (mVar 0) (mCons (mC (.con (.ty "bool"))) mNil)))) (mRet (mIf (mTst (mVar 0)) (mC (.str "yes")) (mC (.str "no")))) mNext)
      (mSeq (mIfS (mTst (mCall (aIsi g.K g.CS) (mCons (mVar 0) (mCons (mC (.con (.ty "tuple"))) mNil)))) (mRet (mOp aAdd (mOp aAdd (mC (.str "(")) (mJoin (mC (.str ",")) (mFrz (mLc (mWalk (mVar 0)) (gmName 1) mYes (mDef 1 (mPure (m_text_of g d)) (mCons (mVar 1) mNil)) [1])))) (mC (.str ")")))) mNext)
      (mRet (mCall aStrA (mCons (mVar 0) mNil)))))))
def m_L_written (g : G) : Nat → List D → Store → R D
  | 0 => fun _ _ => .fail
  | d + 1 => mBody 2 ((mSeq (mIfS (mTst (mOp aIsN (mVar 0) (mC .non))) (mRet (mC (.str "-"))) mNext)
      (mSeq (mIfS (mTst (mCall (aIsi g.K g.CS) (mCons (mVar 0) (mCons (mC (.con (.ty "bool"))) mNil)))) (mRet (mIf (mTst (mVar 0)) (mC (.str "yes")) (mC (.str "no")))) mNext)
      (mSeq (mIfS (mTst (mCall (aIsi g.K g.CS) (mCons (mVar 0) (mCons (mC (.con (.ty "tuple"))) mNil)))) (mRet (mOp aAdd (mOp aAdd (mC (.str "(")) (mJoin (mC (.str ",")) (mFrz (mLc (mWalk (mVar 0)) (gmName 1) mYes (mDef 1 (mPure (m_L_written g d)) (mCons (mVar 1) mNil)) [1])))) (mC (.str ")")))) mNext)
      (mRet (mCall aStrA (mCons (mVar 0) mNil)))))))
def m_L_can_be (g : G) : Nat → List D → Store → R D
  | 0 => fun _ _ => .fail
  | d + 1 => mBody 5 ((mSeq (mIfS (mOrT (mTst (mOp aIsN (mVar 0) (mC .non))) (mTst (mCall (aIsi g.K g.CS) (mCons (mVar 0) (mCons (mC (.con (.ty "int"))) mNil))))) (mRet (mC (.bl true))) mNext)
      (mSeq (mIfS (mTst (mCall (aIsi g.K g.CS) (mCons (mVar 0) (mCons (mC (.con (.ty "str"))) mNil)))) (mSeq (mAsg (mAnd (mChain aLe aLe (mC (.int 1)) (mCall aLen (mCons (mVar 0) mNil)) (mC (.int 20))) (mCall aAll (mCons (mFrz (mLc (mWalk (mVar 0)) (gmName 3) mYes (mOp aIn (mVar 3) (mC (.str "abcdefghijklmnopqrstuvwxyz"))) [3])) mNil))) (gmName 2))
      (mRet (mAnd (mVar 2) (mOp aNotIn (mVar 0) (mTup (mCons (mC (.str "yes")) (mCons (mC (.str "no")) mNil))))))) mNext)
      (mRet (mAnd (mCall (aIsi g.K g.CS) (mCons (mVar 0) (mCons (mC (.con (.ty "tuple"))) mNil))) (mAnd (mOp aLt (mVar 1) (mC (.int 20))) (mCall aAll (mCons (mFrz (mLc (mWalk (mVar 0)) (gmName 4) mYes (mDef 2 (mPure (m_L_can_be g d)) (mCons (mVar 4) (mCons (mOp aAdd (mVar 1) (mC (.int 1))) mNil))) [4])) mNil))))))))
def m_can_be_written (g : G) : Nat → List D → Store → R D
  | 0 => fun _ _ => .fail
  | d + 1 => mBody 3 ((mSeq (mIfS (mTst (mCall (aIsi g.K g.CS) (mCons (mVar 0) (mCons (mC (.con (.ty "tuple"))) mNil)))) (mRet (mAnd (mOp aGt (mVar 1) (mC (.int 0))) (mCall aAll (mCons (mFrz (mLc (mWalk (mVar 0)) (gmName 2) mYes (mDef 2 (mPure (m_can_be_written g d)) (mCons (mVar 2) (mCons (mOp aSub (mVar 1) (mC (.int 1))) mNil))) [2])) mNil)))) mNext)
      (mSeq (mIfS (mTst (mCall (aIsi g.K g.CS) (mCons (mVar 0) (mCons (mC (.con (.ty "str"))) mNil)))) (mRet (mAnd (mDef 2 (mPure (m_is_word g)) (mCons (mC (.int 20)) (mCons (mVar 0) mNil))) (mOp (aNotInTab g.FLAGS tab_FLAGS) (mVar 0) (mC (.con (.ref g.FLAGS)))))) mNext)
      (mRet (mOr (mOp aIsN (mVar 0) (mC .non)) (mCall (aIsi g.K g.CS) (mCons (mVar 0) (mCons (mC (.con (.ty "int"))) mNil))))))))
def m_written (g : G) : List D → Store → R D := mBody 1 ((mSeq (mIfS (mNotT (mTst (mDef 2 (mPure (m_can_be_written g 70)) (mCons (mVar 0) (mCons (mC (.int 20)) mNil))))) (mRaise0 g.NoThing) mNext)
      (mRet (mDef 1 (mPure (m_text_of g 70)) (mCons (mVar 0) mNil)))))
def m_L_drawn_thing (g : G) : Nat → List D → Store → R D
  | 0 => fun _ _ => .fail
  | d + 1 => mBody 4 ((mSeq (mAsg (mDef 2 (mScope (m_L_draw g)) (mCons (mVar 0) (mCons (mC (.int 10)) mNil))) (gmName 2))
      (mSeq (mIfS (mAndT (mTst (mOp aLt (mVar 2) (mC (.int 3)))) (mTst (mOp aGt (mVar 1) (mC (.int 0))))) (mRet (mCall aTuple (mCons (mFrz (mLc (mRng1 (mCons (mDef 2 (mScope (m_L_draw g)) (mCons (mVar 0) (mCons (mC (.int 4)) mNil))) mNil)) (gmName 3) mYes (mDef 2 (mScope (m_L_drawn_thing g d)) (mCons (mVar 0) (mCons (mOp aSub (mVar 1) (mC (.int 1))) mNil))) [3])) mNil))) mNext)
      (mSeq (mIfS (mTst (mOp aLt (mVar 2) (mC (.int 6)))) (mRet (mDef 2 (mScope (m_L_some g)) (mCons (mVar 0) (mCons (mFrz (mLst (mCons (mC (.int 0)) (mCons (mC (.int 1)) (mCons (mUn aNeg (mC (.int 1))) (mCons (mC (.int 10)) (mCons (mUn aNeg (mC (.int 10))) (mCons (mOp aPow (mC (.int 10)) (mC (.int 19))) (mCons (mUn aNeg (mOp aSub (mOp aPow (mC (.int 10)) (mC (.int 20))) (mC (.int 1)))) (mCons (mOp aSub (mOp aPow (mC (.int 10)) (mC (.int 20))) (mC (.int 1))) (mCons (mDef 2 (mScope (m_L_draw g)) (mCons (mVar 0) (mCons (mC (.int 1000)) mNil))) mNil))))))))))) mNil)))) mNext)
      (mSeq (mIfS (mTst (mOp aLt (mVar 2) (mC (.int 8)))) (mRet (mDef 2 (mScope (m_L_some g)) (mCons (mVar 0) (mCons (mFrz (mLst (mCons (mC (.str "a")) (mCons (mC (.str "least")) (mCons (mOp aMulS (mC (.str "z")) (mC (.int 20))) (mCons (mC (.str "yess")) (mCons (mC (.str "non")) (mCons (mC (.str "root")) (mCons (mC (.str "deed")) (mCons (mC (.str "y")) (mCons (mC (.str "n")) mNil))))))))))) mNil)))) mNext)
      (mRet (mDef 2 (mScope (m_L_some g)) (mCons (mVar 0) (mCons (mFrz (mLst (mCons (mC .non) (mCons (mC (.bl true)) (mCons (mC (.bl false)) mNil))))) mNil)))))))))
def m_L_given (g : G) : List D → Store → R D := mBody 3 ((mSeq (mAsg (mC (.str "(other)")) (gmName 1))
      (mSeq (mTryIs g.K (.ref g.NoThing) g.NoThing (.ref g.ForestError) (.type "ValueError") 2 1 (fun x => match x with | none => some (.str "(NoThing)") | some _ => none) (mAsg (mDef 1 (mPure (m_written g)) (mCons (mVar 0) mNil)) (gmName 1)))
      (mRet (mVar 1)))))
def m_law (g : G) : List D → Store → R D := mBody 9 ((mSeq (mAsg (mDef 1 (m_L_hand g) (mCons (mVar 0) mNil)) (gmName 1))
      (mSeq (mAsg (mFrz (mLst (mCons (mFrz (mLst mNil)) (mCons (mFrz (mLst (mCons (mC (.int 1)) mNil))) (mCons mDnew (mCons (mC (.str "")) (mCons (mC (.str "A")) (mCons (mC (.str "a b")) (mCons (mC (.str "yes")) (mCons (mC (.str "no")) (mCons (mOp aMulS (mC (.str "a")) (mC (.int 21))) (mCons (mC (.str "a1")) (mCons (mC (.str "-")) (mCons (mTup (mCons (mC (.int 1)) (mCons (mFrz (mLst mNil)) mNil))) (mCons (mTup (mCons (mC (.str "yes")) mNil)) (mCons (mTup (mCons (mTup mNil) (mCons (mTup (mCons (mC (.str "a")) (mCons (mC (.str "B")) mNil))) mNil))) mNil)))))))))))))))) (gmName 2))
      (mSeq (mFor (mRng1 (mCons (mC (.int 8)) mNil)) (gmName 3) (mSeq (mAsg (mDef 2 (mScope (m_L_drawn_thing g 70)) (mCons (mVar 1) (mCons (mC (.int 5)) mNil))) (gmName 4))
      (mSeq (mIfS (mTst (mOp aEq (mDef 2 (mScope (m_L_draw g)) (mCons (mVar 1) (mCons (mC (.int 5)) mNil))) (mC (.int 0)))) (mAsg (mDef 2 (mScope (m_L_nested g)) (mCons (mVar 1) (mCons (mC (.int 22)) mNil))) (gmName 4)) (mIfS (mTst (mOp aEq (mDef 2 (mScope (m_L_draw g)) (mCons (mVar 1) (mCons (mC (.int 5)) mNil))) (mC (.int 0)))) (mAsg (mDef 2 (mScope (m_L_some g)) (mCons (mVar 1) (mCons (mOp aAdd (mVar 2) (mFrz (mLst (mCons (mDef 1 (mPure (m_L_deep g)) (mCons (mC (.int 0)) mNil)) (mCons (mDef 1 (mPure (m_L_deep g)) (mCons (mC (.int 1)) mNil)) (mCons (mDef 2 (mPure (mkC g.Forest (m_Forest_init g))) (mCons (mTup (mCons (mC .non) mNil)) (mCons (mTup (mCons (mC (.int 0)) mNil)) mNil))) (mCons (mTup (mCons (mDef 2 (mPure (mkC g.Forest (m_Forest_init g))) (mCons (mTup (mCons (mC .non) mNil)) (mCons (mTup (mCons (mC (.int 0)) mNil)) mNil))) mNil)) mNil))))))) mNil))) (gmName 4)) mNext))
      (mSeq (mAsg (mDef 2 (mPure (m_L_can_be g 70)) (mCons (mVar 4) (mCons (mC (.int 0)) mNil))) (gmName 5))
      (mSeq (mIfS (mTst (mOp aNe (mDef 1 (mPure (m_L_given g)) (mCons (mVar 4) mNil)) (mIf (mTst (mVar 5)) (mDef 1 (mPure (m_L_written g 70)) (mCons (mVar 4) mNil)) (mC (.str "(NoThing)"))))) (mRet (mC (.bl false))) mNext)
      (mSeq (mAsg (mIf (mTst (mVar 5)) (mDef 1 (mPure (m_L_written g 70)) (mCons (mVar 4) mNil)) (mC (.str "(1,(a,-),yes)"))) (gmName 6))
      (mSeq (mIfS (mAndT (mTst (mVar 5)) (mNotT (mTst (mDef 2 (mPure (m_L_is g 60)) (mCons (mDef 1 (mPure (m_L_told g)) (mCons (mVar 6) mNil)) (mCons (mTup (mCons (mC (.str "let")) (mCons (mVar 4) mNil))) mNil)))))) (mRet (mC (.bl false))) mNext)
      (mSeq (mFor (mRng1 (mCons (mC (.int 4)) mNil)) (gmName 7) (mSeq (mAsg (mDef 2 (mScope (m_L_spoilt g)) (mCons (mVar 1) (mCons (mVar 6) mNil))) (gmName 6))
      (mIfS (mNotT (mTst (mDef 2 (mPure (m_L_is g 60)) (mCons (mDef 1 (mPure (m_L_told g)) (mCons (mVar 6) mNil)) (mCons (mDef 1 (mPure (m_L_read g)) (mCons (mVar 6) mNil)) mNil))))) (mRet (mC (.bl false))) mNext)))
      (mSeq (mAsg (mDef 2 (mScope (m_L_some g)) (mCons (mVar 1) (mCons (mFrz (mLst (mCons (mC .non) (mCons (mC (.int 0)) (mCons (mFrz (mLst (mCons (mC (.str "a")) mNil))) (mCons (mTup (mCons (mC (.str "a")) mNil)) (mCons mDnew (mCons (mC (.bl true)) (mCons (mDef 1 (mPure (m_L_deep g)) (mCons (mC (.int 0)) mNil)) (mCons (mDef 1 (mPure (m_L_deep g)) (mCons (mC (.int 1)) mNil)) (mCons (mDef 2 (mPure (mkC g.Forest (m_Forest_init g))) (mCons (mTup (mCons (mC .non) mNil)) (mCons (mTup (mCons (mC (.int 0)) mNil)) mNil))) mNil))))))))))) mNil))) (gmName 8))
      (mIfS (mNotT (mTst (mDef 2 (mPure (m_L_is g 60)) (mCons (mDef 1 (mPure (m_L_told g)) (mCons (mVar 8) mNil)) (mCons (mTup (mCons (mC (.str "bad")) (mCons (mUn aNeg (mC (.int 1))) mNil))) mNil))))) (mRet (mC (.bl false))) mNext))))))))))
      (mRet (mC (.bl true)))))))
end
end W3
local macro_rules | `(tactic| decreasing_trivial) => `(tactic| omega)
namespace PySem
namespace XBadForest
open PySem.W PySem.Calls PyProof.Rows PySem.HandSPX
def iA (p1 p2 : Pos) : Arguments := { posonlyargs := [], args := [{ arg := "self", annotation := none, pos := p1 }, { arg := "part", annotation := none, pos := p2 }], vararg := none, kwonlyargs := [], kw_defaults := [], kwarg := none, defaults := [] }
def iB (q1 q2 q3 q4 : Pos) : List Stmt := [.Assign [.Attribute (.Name "self" q1) "part" q2] (.Name "part" q3) q4]
def iS : Scope := { kind := .function, names := [(PySem.Str.ofString "self", .local), (PySem.Str.ofString "part", .local)], isGenerator := false, isCoroutine := false, more := [] }
/-- what the written part says of Low, at C, and of its __init__, at fI -/
structure TxtBadForest (K : Frag) (mg : Str → Option Value) (C fI : Addr) : Prop where
  gC : mg "BadForest" = some (.ref C)
  cls : ∃ nm q N bs bm sn sub ab col dd k0 k1 k2 k3 k5, K.lookup C = some (excClassObj nm q C N bs bm true sn sub ab col dd k0 k1 k2 k3 k5 "ValueError.__new__") ∧ refsVE bm = true
  sa : findIn K (.ref C) "__setattr__" = some (some (.builtin "object.__setattr__"))
  ga : findIn K (.ref C) "__getattribute__" = some (some (.builtin "BaseException.__getattribute__"))
  gg : findIn K (.ref C) "__getattr__" = some none
  noN : findIn K (.ref C) "part" = some none
  iC : findIn K (.ref C) "__init__" = some (some (.ref fI))
  tC : typeIn K (.ref fI) = some (.type "function")
  kC : keepIn K (.ref C) = true
  exC : subIn K (.ref C) (.type "BaseException") = some true
  tyC : typeIn K (.ref C) = some (.type "type")
  hdC : hasDictIn K C = true
  te : exmOne K (.ref C) (.ref C) = some true
  fn : ∃ (oc : Value) (od : Option Addr) (doc pm : Value) (an : Option Addr) (cdv ct : Value) (osl : Array (Option Value)) (p1 p2 q1 q2 q3 q4 : Pos),
    K.lookup fI = some ⟨oc, od, .func (fnOf "__init__" "BadForest.__init__" (iA p1 p2) (iB q1 q2 q3 q4) iS .none .none doc pm an cdv ct), osl⟩ ∧ codeIn K cdv "BadForest.__init__" = true
theorem one_size (v : Value) : [v].length ≤ sizeLine := by
  rw [sizeLine_eq]
  exact (by decide : 1 ≤ 16777216)
theorem ldC {M : Model} {s : Shared} {name : Str} {scope : Scope} {L a : Addr} {cd : Value} {m : Str → Option Value} {x : Str} {pos : Pos} {v : Value} {Q : Value → Shared → Prop} {A : Around} {E : Value → Shared → Prop} (hn : s.heap.Ns L m) (hv : m x = some v) (h : Q v s)
    (hk : scope.kind = .function := by rfl) (hl : (envOfC name scope L a cd).kindOf x = some .local := by rfl) (hd : (x == ("__debug__" : Str)) = false := by decide) :
    wpAny M A (eval (.Name x pos) (envOfC name scope L a cd)) Q E s := wpAny_Name (wpAny_loadName_local hk hl hn hv h) hd
/-- what __init__ leaves of a fresh exception at x -/
structure InitEnd (h h' : Heap) (x C dx t1 : Addr) (v : Value) : Prop where
  keep : ∀ b o, b ≠ x → h.get? b = some o → h'.get? b = some o
  obj : h'.get? x = some { cls := .ref C, dict := some dx, data := .fields #[.ref t1, .none, .none, .none, .bool false, .none] }
  dbig : h.objs.size ≤ dx
  dne : dx ≠ x
  ns : h'.Ns1 dx (fun y => if y = "part" then some v else none)
/-- a made Low -/
structure OwnMade (h h' : Heap) (e C d : Addr) (v : Value) : Prop where
  keep : ∀ b o, h.get? b = some o → h'.get? b = some o
  new : h.objs.size ≤ e
  obj : ∃ oe vs, h'.get? e = some oe ∧ oe.cls = .ref C ∧ oe.dict = some d ∧ oe.data = .fields vs ∧ vs[1]? = some .none
  dbig : h.objs.size ≤ d
  dne : d ≠ e
  ns : h'.Ns1 d (fun y => if y = "part" then some v else none)
section
variable {prog : Program} {w : World} {A : Around} {E : Value → Shared → Prop} {R : Result → Shared → Prop} {s : Shared} {K : Frag} {mg : Str → Option Value} {C fI : Addr}
theorem low_init (T : TxtBadForest K mg C fI) {x t0 : Addr} {v : Value} (X : K.In s.heap) (hlim : s.heap.NoLimit) (hx : s.heap.get? x = some (excO C t0)) (hnx : K.lookup x = none) (hroom : A.depth < recursionLimit)
    (hq : ∀ h' tk dx, InitEnd s.heap h' x C dx t0 v → R (.ok (.ret .none)) { s with heap := h', toks := tk }) :
    codeAny (model prog w) A (.call (.ref fI) ⟨[.ref x, v], []⟩) R s := by
  obtain ⟨oc, od, doc, pm, an, cdv, ct, osl, p1, p2, q1, q2, q3, q4, ho, hcd⟩ := T.fn
  obtain ⟨nm, q, N, bs, bm, sn, sub, ab, col, dd, k0, k1, k2, k3, k5, hC, hbm⟩ := T.cls
  have hcl : clsIn K C = some { name := nm, bases := bs, mro := .ref C :: bm, ns := N, qualname := q, hasDict := true, slotNames := sn, subclasses := sub, abstract := ab, collection := col, hasDel := false } := by unfold clsIn; rw [hC] <;> rfl
  refine Att.call_fn (binds := [("self", .ref x), ("part", v)]) X hlim ho hcd hroom (BindsTo.of_eq (by first | rfl | with_unfolding_all rfl)) (by first | rfl | decide | with_unfolding_all rfl) (fun s₁ IC => ?_) rfl rfl rfl
  obtain ⟨h₁, tk₁, rfl⟩ := IC.toInCall.same
  have k : ∀ b o, s.heap.get? b = some o → h₁.get? b = some o := IC.toInCall.keep
  have hn := IC.toInCall.ns
  have hxL : s.heap.objs.size ≠ x := Nat.ne_of_gt (Heap.lt_size hx)
  have X₁ : K.In h₁ := X.keeps k
  have hx₁ := k _ _ hx
  -- self.by = by
  show wpAny _ _ (execs _ _) _ _ _
  refine wpAny_execs_cons (plainObj_wpAny_Assign_Attribute ?_)
  refine ldC (v := v) hn (by first | rfl | with_unfolding_all rfl | kernel_rfl) (ldC (v := .ref x) hn (by first | rfl | with_unfolding_all rfl | kernel_rfl) ?_)
  refine set_plain X₁ (ox := excO C t0) (od := none) ⟨hx₁, rfl, rfl, trivial⟩ T.sa ?_
  refine exc_osa X₁ hx₁ hcl (show refsVE (.ref C :: bm) = true from hbm) rfl T.noN (fun h₃ tk₃ dx k₃ dn dne hx₃ hn₃ => ?_)
  show wpAny _ _ (execs _ _) _ _ _
  have z : s.heap.objs.size < h₁.objs.size := hn.lt
  exact wpAny_execs_nil (hq h₃ tk₃ dx ⟨fun b o hb e => k₃ b o hb (k b o e), hx₃, Nat.le_of_lt (Nat.lt_of_lt_of_le z dn), dne, hn₃⟩)
theorem low_made (T : TxtBadForest K mg C fI) {v : Value} (X : K.In s.heap) (hlim : s.heap.NoLimit) (hroom : A.depth + 1 < recursionLimit)
    (hq : ∀ h' tk e d, OwnMade s.heap h' e C d v → R (.ok (.ret (.ref e))) { s with heap := h', toks := tk }) :
    codeAny (model prog w) A (.call (.ref C) ⟨[v], []⟩) R s := by
  obtain ⟨nm, q, N, bs, bm, sn, sub, ab, col, dd, k0, k1, k2, k3, k5, hC, hbm⟩ := T.cls
  obtain ⟨hp, g, dr, tk, os⟩ := s
  have k : ∀ b o, hp.get? b = some o → ((hp.push (kdv_tup [v])).push (excO C hp.objs.size)).get? b = some o := fun b o e => Heap.get?_push_of_some _ (Heap.get?_push_of_some _ e)
  have hget : ((hp.push (kdv_tup [v])).push (excO C hp.objs.size)).get? (hp.objs.size + 1) = some (excO C hp.objs.size) := by heap_get
  have hnx : K.lookup (hp.objs.size + 1) = none := by
    cases e : K.lookup (hp.objs.size + 1) with
    | none => rfl
    | some o =>
      have z : hp.get? (hp.objs.size + 1) = some o := X _ _ e
      exact absurd (Nat.lt_of_succ_lt (Heap.lt_size z)) (Nat.lt_irrefl _)
  refine call_own F.excBase_ValueError (fun X => refsVE_contains X bm hbm) (X _ _ hC) (looks_findIn X T.iC) (fun self => bind_fn X self T.tC) (one_size v) ?_
  refine low_init (s := ⟨(hp.push (kdv_tup [v])).push (excO C hp.objs.size), g, dr, tk, os⟩) T (X.keeps k) (hlim.keeps k) hget hnx ?_ fun h' tk' dx ⟨k', hx, dn, dne, hns⟩ => ?_
  · show A.depth + 1 < recursionLimit
    exact hroom
  · have old : ∀ b o, hp.get? b = some o → h'.get? b = some o := fun b o e => k' b o (Nat.ne_of_lt (Nat.lt_succ_of_lt (Heap.lt_size e))) (k b o e)
    have z : hp.objs.size + 1 + 1 ≤ dx := by
      first
        | (simpa only [Heap.size_push] using dn)
        | exact dn
        | (have q := dn; rw [Heap.size_push, Heap.size_push] at q; exact q)
    exact ⟨rfl, hq h' tk' (hp.objs.size + 1) dx ⟨old, Nat.le_succ _, ⟨_, _, hx, rfl, rfl, rfl, rfl⟩, Nat.le_trans (Nat.le_trans (Nat.le_succ _) (Nat.le_succ _)) z, dne, hns⟩⟩
end
end XBadForest
end PySem
namespace L2
open PySem PySem.Spec PyProof.Rows
theorem relO__BadForest {v : V} {v' : Value} (r : RelV v v') (f : Str) : RelO (List.lookup f [(("part" : Str), v)]) (if f = "part" then some v' else none) := by
  by_cases hw : f = "part"
  · subst hw
    rw [if_pos rfl]
    have q : List.lookup ("part" : Str) [(("part" : Str), v)] = some v := by simp [List.lookup]
    rw [q]
    exact r
  · rw [if_neg hw]
    have qw : (f == ("part" : Str)) = false := by simpa using hw
    have q2 : List.lookup f [(("part" : Str), v)] = none := by simp [List.lookup, qw]
    rw [q2]
    trivial
section
variable {X : Cx} {C fI : Addr}
/-- Low(e) -/
def tMk_BadForest (C : Addr) (ta : TA) : St → Hp → XK → Prop := fun σ H Q => ta σ H fun vs H1 => ∃ v, vs = [v] ∧ ∀ d, H1 d = none → Q (.ref C) (some d) (upd H1 d (.xd [(("part" : Str), v)]))
theorem pmk__BadForest {a : Expr} {ta : TA} {p pos : Pos} {k : Nat} (T : PySem.XBadForest.TxtBadForest X.K X.mg C fI) (hr : Room k X.A) (ha : PA X [a] ta) (hg : Gl X "BadForest" := by rfl)
    (he : starEach (a :: []) X.env = (false, eval a X.env) :: starEach [] X.env := by rfl) (hpl : (backTo pos (starEach [] X.env)).any (·.1) = false := by rfl) :
    PMk X (.Call (.Name "BadForest" p) [a] [] pos) (tMk_BadForest C ta) := by
  intro pins s σ H Q I h
  refine wpAny_Call_Name_kw (ld_glob I hg T.gC ?_)
  refine PySem.W.callWith_K (h₀ := X.base) I.ok.mod.kin T.kC (thn (ha.run pos pins s σ H _ I h) fun us s1 hh => ?_) he hpl
  obtain ⟨vs, H1, I1, r1, v, ev, q1⟩ := hh
  subst ev
  refine ⟨I1.kIn, ?_⟩
  cases r1 with
  | cons rv rn =>
    rename_i v' us'
    cases rn
    show wpAny _ _ (call (.ref C) [v']) _ _ _
    have hlim := I1.nolimit
    obtain ⟨hp, g, dr, tk, os⟩ := s1
    refine wpAny_call (PySem.XBadForest.low_made T I1.kIn hlim (by have := hr.dp; omega) fun h' tk' e d M => ?_)
    show MkP X pins σ Q (.ref e) ⟨h', g, dr, tk', os⟩
    obtain ⟨oe, fv, hoe, hc, hd, hdat, h1⟩ := M.obj
    have hns := M.ns
    obtain ⟨G', g1, g2⟩ := restrict h' fun b => decide (b ≠ e)
    have gk : ∀ b, b ≠ e → G'.get? b = h'.get? b := fun b hb => g1 b (decide_eq_true hb)
    have ge : G'.get? e = none := g2 e (by simp)
    have old : ∀ b o, hp.get? b = some o → G'.get? b = some o := fun b o q => (gk b (Nat.ne_of_lt (Nat.lt_of_lt_of_le (Heap.lt_size q) M.new))).trans (M.keep b o q)
    have ob : ObjOk X.prog X.w (upd H1 d (.xd [(("part" : Str), v)])) G' d (.xd [(("part" : Str), v)]) :=
      ⟨_, hns.at (fun o q => (gk d M.dne).trans q), fun f => relO__BadForest rv f⟩
    have J : Inv X pins σ (upd H1 d (.xd [(("part" : Str), v)])) ⟨G', g, dr, tk', os⟩ := I1.laid (t' := tk') old M.dbig ob
    refine ⟨e, oe, fv, ⟨G', g, dr, tk', os⟩, _, .ref C, some d, rfl, J, fun b o q => ?_, ge, hoe, ⟨hc, hd⟩, hdat, h1, ?_, rfl, I1.bare, raises_own T.exC T.tyC, q1 d (I1.hok.fresh M.dbig)⟩
    · by_cases hb : b = e
      · have q' : G'.get? b = some o := q
        rw [hb, ge] at q'; cases q'
      · exact (gk b hb).symm.trans q
    · rw [upd_ne (Ne.symm M.dne)]
      exact I1.hok.fresh M.new
/-- raise Low(e) -/
def tRaise_BadForest (C : Addr) (W : WX) (ta : TA) : TS := fun _ σ H => tMk_BadForest C ta σ H fun cls d H' => W cls d σ H'
theorem ps_raise_BadForest {a : Expr} {ta : TA} {W : WX} {p pos pos2 : Pos} {k : Nat} (hc : X.calm = true) (T : PySem.XBadForest.TxtBadForest X.K X.mg C fI) (hr : Room k X.A) (tk : Takes X W) (ha : PA X [a] ta) (hg : Gl X "BadForest" := by rfl)
    (he : starEach (a :: []) X.env = (false, eval a X.env) :: starEach [] X.env := by rfl) (hpl : (backTo pos (starEach [] X.env)).any (·.1) = false := by rfl) :
    PS X (.Raise (some (.Call (.Name "BadForest" p) [a] [] pos)) none pos2) (tRaise_BadForest C W ta) := ps_raise hc tk (pmk__BadForest T hr ha hg he hpl)
end
end L2
namespace PySem
namespace XNoThing
open PySem.W PySem.Calls PyProof.Rows PySem.HandSPX
def iA (p1 : Pos) : Arguments := { posonlyargs := [], args := [{ arg := "self", annotation := none, pos := p1 }], vararg := none, kwonlyargs := [], kw_defaults := [], kwarg := none, defaults := [] }
def iB (q1 : Pos) : List Stmt := [.Pass q1]
def iS : Scope := { kind := .function, names := [(PySem.Str.ofString "self", .local)], isGenerator := false, isCoroutine := false, more := [] }
structure TxtNoThing (K : Frag) (mg : Str → Option Value) (C fI : Addr) : Prop where
  gC : mg "NoThing" = some (.ref C)
  cls : ∃ nm q N bs bm sn sub ab col dd k0 k1 k2 k3 k5, K.lookup C = some (excClassObj nm q C N bs bm true sn sub ab col dd k0 k1 k2 k3 k5 "ValueError.__new__") ∧ refsVE bm = true
  iC : findIn K (.ref C) "__init__" = some (some (.ref fI))
  tC : typeIn K (.ref fI) = some (.type "function")
  kC : keepIn K (.ref C) = true
  exC : subIn K (.ref C) (.type "BaseException") = some true
  tyC : typeIn K (.ref C) = some (.type "type")
  te : exmOne K (.ref C) (.ref C) = some true
  fn : ∃ (oc : Value) (od : Option Addr) (doc pm : Value) (an : Option Addr) (cdv ct : Value) (osl : Array (Option Value)) (p1 q1 : Pos),
    K.lookup fI = some ⟨oc, od, .func (fnOf "__init__" "NoThing.__init__" (iA p1) (iB q1) iS .none .none doc pm an cdv ct), osl⟩ ∧ codeIn K cdv "NoThing.__init__" = true
section
variable {prog : Program} {w : World} {A : Around} {E : Value → Shared → Prop} {R : Result → Shared → Prop} {s : Shared} {K : Frag} {mg : Str → Option Value} {C fI : Addr}
theorem low_init (T : TxtNoThing K mg C fI) {x : Addr} (X : K.In s.heap) (hlim : s.heap.NoLimit) (hroom : A.depth < recursionLimit)
    (hq : ∀ h' tk, (∀ b o, s.heap.get? b = some o → h'.get? b = some o) → R (.ok (.ret .none)) { s with heap := h', toks := tk }) :
    codeAny (model prog w) A (.call (.ref fI) ⟨[.ref x], []⟩) R s := by
  obtain ⟨oc, od, doc, pm, an, cdv, ct, osl, p1, q1, ho, hcd⟩ := T.fn
  refine Att.call_fn (binds := [("self", .ref x)]) X hlim ho hcd hroom (BindsTo.of_eq (by first | rfl | with_unfolding_all rfl)) (by first | rfl | decide | with_unfolding_all rfl) (fun s₁ IC => ?_) rfl rfl rfl
  obtain ⟨h₁, tk₁, rfl⟩ := IC.toInCall.same
  have k : ∀ b o, s.heap.get? b = some o → h₁.get? b = some o := IC.toInCall.keep
  show wpAny _ _ (execs _ _) _ _ _
  refine wpAny_execs_cons (wpAny_Pass ?_)
  show wpAny _ _ (execs _ _) _ _ _
  exact wpAny_execs_nil (hq h₁ tk₁ k)
theorem low_made (T : TxtNoThing K mg C fI) (X : K.In s.heap) (hlim : s.heap.NoLimit) (hroom : A.depth + 1 < recursionLimit)
    (hq : ∀ h' tk e t1, (∀ b o, s.heap.get? b = some o → h'.get? b = some o) → s.heap.objs.size ≤ e → h'.get? e = some (excO C t1) → R (.ok (.ret (.ref e))) { s with heap := h', toks := tk }) :
    codeAny (model prog w) A (.call (.ref C) ⟨[], []⟩) R s := by
  obtain ⟨nm, q, N, bs, bm, sn, sub, ab, col, dd, k0, k1, k2, k3, k5, hC, hbm⟩ := T.cls
  obtain ⟨hp, g, dr, tk, os⟩ := s
  have k : ∀ b o, hp.get? b = some o → ((hp.push (kdv_tup [])).push (excO C hp.objs.size)).get? b = some o := fun b o e => Heap.get?_push_of_some _ (Heap.get?_push_of_some _ e)
  have hget : ((hp.push (kdv_tup [])).push (excO C hp.objs.size)).get? (hp.objs.size + 1) = some (excO C hp.objs.size) := by heap_get
  refine call_own F.excBase_ValueError (fun X => refsVE_contains X bm hbm) (X _ _ hC) (looks_findIn X T.iC) (fun self => bind_fn X self T.tC) (Nat.zero_le _) ?_
  refine low_init (s := ⟨(hp.push (kdv_tup [])).push (excO C hp.objs.size), g, dr, tk, os⟩) T (X.keeps k) (hlim.keeps k) ?_ fun h' tk' k' => ?_
  · show A.depth + 1 < recursionLimit
    exact hroom
  · exact ⟨rfl, hq h' tk' (hp.objs.size + 1) hp.objs.size (fun b o e => k' b o (k b o e)) (Nat.le_succ _) (k' _ _ hget)⟩
end
end XNoThing
end PySem
namespace L2
open PySem PySem.Spec PyProof.Rows
section
variable {X : Cx} {C fI : Addr}
theorem pmk__NoThing {p pos : Pos} {k : Nat} (T : PySem.XNoThing.TxtNoThing X.K X.mg C fI) (hr : Room k X.A) (hg : Gl X "NoThing" := by rfl) :
    PMk X (.Call (.Name "NoThing" p) [] [] pos) (fun _ H Q => Q (.ref C) none H) := by
  intro pins s σ H Q I h
  refine wpAny_Call_Name_kw (ld_glob I hg T.gC ?_)
  refine PySem.W.callWith_K0 I.kIn T.kC ?_
  have hlim := I.nolimit
  have kin := I.kIn
  obtain ⟨hp, g, dr, tk, os⟩ := s
  show wpAny _ _ (call (.ref C) []) _ _ _
  refine wpAny_call (PySem.XNoThing.low_made T kin hlim (by have := hr.dp; omega) fun h' tk' e t1 kp hnew he => ?_)
  show MkP X pins σ Q (.ref e) ⟨h', g, dr, tk', os⟩
  obtain ⟨G', g1, g2⟩ := restrict h' fun b => decide (b ≠ e)
  have gk : ∀ b, b ≠ e → G'.get? b = h'.get? b := fun b hb => g1 b (decide_eq_true hb)
  have ge : G'.get? e = none := g2 e (by simp)
  have old : ∀ b o, hp.get? b = some o → G'.get? b = some o := fun b o q => (gk b (Nat.ne_of_lt (Nat.lt_of_lt_of_le (Heap.lt_size q) hnew))).trans (kp b o q)
  have J : Inv X pins σ H ⟨G', g, dr, tk', os⟩ := I.kept (t' := tk') old
  refine ⟨e, _, _, ⟨G', g, dr, tk', os⟩, H, .ref C, none, rfl, J, fun b o q => ?_, ge, he, ⟨rfl, rfl⟩, rfl, rfl, I.hok.fresh hnew, rfl, I.bare, raises_own T.exC T.tyC, h⟩
  by_cases hb : b = e
  · have q' : G'.get? b = some o := q
    rw [hb, ge] at q'; cases q'
  · exact (gk b hb).symm.trans q
def tRaise_NoThing (C : Addr) (W : WX) : TS := fun _ σ H => W (.ref C) none σ H
theorem ps_raise_NoThing {W : WX} {p pos pos2 : Pos} {k : Nat} (hc : X.calm = true) (T : PySem.XNoThing.TxtNoThing X.K X.mg C fI) (hr : Room k X.A) (tk : Takes X W) (hg : Gl X "NoThing" := by rfl) :
    PS X (.Raise (some (.Call (.Name "NoThing" p) [] [] pos)) none pos2) (tRaise_NoThing C W) := ps_raise hc tk (pmk__NoThing T hr hg)
end
end L2
namespace PySem
namespace XBadThing
open PySem.W PySem.Calls PyProof.Rows PySem.HandSPX
def iA (p1 p2 : Pos) : Arguments := { posonlyargs := [], args := [{ arg := "self", annotation := none, pos := p1 }, { arg := "place", annotation := none, pos := p2 }], vararg := none, kwonlyargs := [], kw_defaults := [], kwarg := none, defaults := [] }
def iB (q1 q2 q3 q4 : Pos) : List Stmt := [.Assign [.Attribute (.Name "self" q1) "place" q2] (.Name "place" q3) q4]
def iS : Scope := { kind := .function, names := [(PySem.Str.ofString "self", .local), (PySem.Str.ofString "place", .local)], isGenerator := false, isCoroutine := false, more := [] }
/-- what the written part says of Low, at C, and of its __init__, at fI -/
structure TxtBadThing (K : Frag) (mg : Str → Option Value) (C fI : Addr) : Prop where
  gC : mg "BadThing" = some (.ref C)
  cls : ∃ nm q N bs bm sn sub ab col dd k0 k1 k2 k3 k5, K.lookup C = some (excClassObj nm q C N bs bm true sn sub ab col dd k0 k1 k2 k3 k5 "ValueError.__new__") ∧ refsVE bm = true
  sa : findIn K (.ref C) "__setattr__" = some (some (.builtin "object.__setattr__"))
  ga : findIn K (.ref C) "__getattribute__" = some (some (.builtin "BaseException.__getattribute__"))
  gg : findIn K (.ref C) "__getattr__" = some none
  noN : findIn K (.ref C) "place" = some none
  iC : findIn K (.ref C) "__init__" = some (some (.ref fI))
  tC : typeIn K (.ref fI) = some (.type "function")
  kC : keepIn K (.ref C) = true
  exC : subIn K (.ref C) (.type "BaseException") = some true
  tyC : typeIn K (.ref C) = some (.type "type")
  hdC : hasDictIn K C = true
  te : exmOne K (.ref C) (.ref C) = some true
  fn : ∃ (oc : Value) (od : Option Addr) (doc pm : Value) (an : Option Addr) (cdv ct : Value) (osl : Array (Option Value)) (p1 p2 q1 q2 q3 q4 : Pos),
    K.lookup fI = some ⟨oc, od, .func (fnOf "__init__" "BadThing.__init__" (iA p1 p2) (iB q1 q2 q3 q4) iS .none .none doc pm an cdv ct), osl⟩ ∧ codeIn K cdv "BadThing.__init__" = true
theorem one_size (v : Value) : [v].length ≤ sizeLine := by
  rw [sizeLine_eq]
  exact (by decide : 1 ≤ 16777216)
theorem ldC {M : Model} {s : Shared} {name : Str} {scope : Scope} {L a : Addr} {cd : Value} {m : Str → Option Value} {x : Str} {pos : Pos} {v : Value} {Q : Value → Shared → Prop} {A : Around} {E : Value → Shared → Prop} (hn : s.heap.Ns L m) (hv : m x = some v) (h : Q v s)
    (hk : scope.kind = .function := by rfl) (hl : (envOfC name scope L a cd).kindOf x = some .local := by rfl) (hd : (x == ("__debug__" : Str)) = false := by decide) :
    wpAny M A (eval (.Name x pos) (envOfC name scope L a cd)) Q E s := wpAny_Name (wpAny_loadName_local hk hl hn hv h) hd
/-- what __init__ leaves of a fresh exception at x -/
structure InitEnd (h h' : Heap) (x C dx t1 : Addr) (v : Value) : Prop where
  keep : ∀ b o, b ≠ x → h.get? b = some o → h'.get? b = some o
  obj : h'.get? x = some { cls := .ref C, dict := some dx, data := .fields #[.ref t1, .none, .none, .none, .bool false, .none] }
  dbig : h.objs.size ≤ dx
  dne : dx ≠ x
  ns : h'.Ns1 dx (fun y => if y = "place" then some v else none)
/-- a made Low -/
structure OwnMade (h h' : Heap) (e C d : Addr) (v : Value) : Prop where
  keep : ∀ b o, h.get? b = some o → h'.get? b = some o
  new : h.objs.size ≤ e
  obj : ∃ oe vs, h'.get? e = some oe ∧ oe.cls = .ref C ∧ oe.dict = some d ∧ oe.data = .fields vs ∧ vs[1]? = some .none
  dbig : h.objs.size ≤ d
  dne : d ≠ e
  ns : h'.Ns1 d (fun y => if y = "place" then some v else none)
section
variable {prog : Program} {w : World} {A : Around} {E : Value → Shared → Prop} {R : Result → Shared → Prop} {s : Shared} {K : Frag} {mg : Str → Option Value} {C fI : Addr}
theorem low_init (T : TxtBadThing K mg C fI) {x t0 : Addr} {v : Value} (X : K.In s.heap) (hlim : s.heap.NoLimit) (hx : s.heap.get? x = some (excO C t0)) (hnx : K.lookup x = none) (hroom : A.depth < recursionLimit)
    (hq : ∀ h' tk dx, InitEnd s.heap h' x C dx t0 v → R (.ok (.ret .none)) { s with heap := h', toks := tk }) :
    codeAny (model prog w) A (.call (.ref fI) ⟨[.ref x, v], []⟩) R s := by
  obtain ⟨oc, od, doc, pm, an, cdv, ct, osl, p1, p2, q1, q2, q3, q4, ho, hcd⟩ := T.fn
  obtain ⟨nm, q, N, bs, bm, sn, sub, ab, col, dd, k0, k1, k2, k3, k5, hC, hbm⟩ := T.cls
  have hcl : clsIn K C = some { name := nm, bases := bs, mro := .ref C :: bm, ns := N, qualname := q, hasDict := true, slotNames := sn, subclasses := sub, abstract := ab, collection := col, hasDel := false } := by unfold clsIn; rw [hC] <;> rfl
  refine Att.call_fn (binds := [("self", .ref x), ("place", v)]) X hlim ho hcd hroom (BindsTo.of_eq (by first | rfl | with_unfolding_all rfl)) (by first | rfl | decide | with_unfolding_all rfl) (fun s₁ IC => ?_) rfl rfl rfl
  obtain ⟨h₁, tk₁, rfl⟩ := IC.toInCall.same
  have k : ∀ b o, s.heap.get? b = some o → h₁.get? b = some o := IC.toInCall.keep
  have hn := IC.toInCall.ns
  have hxL : s.heap.objs.size ≠ x := Nat.ne_of_gt (Heap.lt_size hx)
  have X₁ : K.In h₁ := X.keeps k
  have hx₁ := k _ _ hx
  -- self.by = by
  show wpAny _ _ (execs _ _) _ _ _
  refine wpAny_execs_cons (plainObj_wpAny_Assign_Attribute ?_)
  refine ldC (v := v) hn (by first | rfl | with_unfolding_all rfl | kernel_rfl) (ldC (v := .ref x) hn (by first | rfl | with_unfolding_all rfl | kernel_rfl) ?_)
  refine set_plain X₁ (ox := excO C t0) (od := none) ⟨hx₁, rfl, rfl, trivial⟩ T.sa ?_
  refine exc_osa X₁ hx₁ hcl (show refsVE (.ref C :: bm) = true from hbm) rfl T.noN (fun h₃ tk₃ dx k₃ dn dne hx₃ hn₃ => ?_)
  show wpAny _ _ (execs _ _) _ _ _
  have z : s.heap.objs.size < h₁.objs.size := hn.lt
  exact wpAny_execs_nil (hq h₃ tk₃ dx ⟨fun b o hb e => k₃ b o hb (k b o e), hx₃, Nat.le_of_lt (Nat.lt_of_lt_of_le z dn), dne, hn₃⟩)
theorem low_made (T : TxtBadThing K mg C fI) {v : Value} (X : K.In s.heap) (hlim : s.heap.NoLimit) (hroom : A.depth + 1 < recursionLimit)
    (hq : ∀ h' tk e d, OwnMade s.heap h' e C d v → R (.ok (.ret (.ref e))) { s with heap := h', toks := tk }) :
    codeAny (model prog w) A (.call (.ref C) ⟨[v], []⟩) R s := by
  obtain ⟨nm, q, N, bs, bm, sn, sub, ab, col, dd, k0, k1, k2, k3, k5, hC, hbm⟩ := T.cls
  obtain ⟨hp, g, dr, tk, os⟩ := s
  have k : ∀ b o, hp.get? b = some o → ((hp.push (kdv_tup [v])).push (excO C hp.objs.size)).get? b = some o := fun b o e => Heap.get?_push_of_some _ (Heap.get?_push_of_some _ e)
  have hget : ((hp.push (kdv_tup [v])).push (excO C hp.objs.size)).get? (hp.objs.size + 1) = some (excO C hp.objs.size) := by heap_get
  have hnx : K.lookup (hp.objs.size + 1) = none := by
    cases e : K.lookup (hp.objs.size + 1) with
    | none => rfl
    | some o =>
      have z : hp.get? (hp.objs.size + 1) = some o := X _ _ e
      exact absurd (Nat.lt_of_succ_lt (Heap.lt_size z)) (Nat.lt_irrefl _)
  refine call_own F.excBase_ValueError (fun X => refsVE_contains X bm hbm) (X _ _ hC) (looks_findIn X T.iC) (fun self => bind_fn X self T.tC) (one_size v) ?_
  refine low_init (s := ⟨(hp.push (kdv_tup [v])).push (excO C hp.objs.size), g, dr, tk, os⟩) T (X.keeps k) (hlim.keeps k) hget hnx ?_ fun h' tk' dx ⟨k', hx, dn, dne, hns⟩ => ?_
  · show A.depth + 1 < recursionLimit
    exact hroom
  · have old : ∀ b o, hp.get? b = some o → h'.get? b = some o := fun b o e => k' b o (Nat.ne_of_lt (Nat.lt_succ_of_lt (Heap.lt_size e))) (k b o e)
    have z : hp.objs.size + 1 + 1 ≤ dx := by
      first
        | (simpa only [Heap.size_push] using dn)
        | exact dn
        | (have q := dn; rw [Heap.size_push, Heap.size_push] at q; exact q)
    exact ⟨rfl, hq h' tk' (hp.objs.size + 1) dx ⟨old, Nat.le_succ _, ⟨_, _, hx, rfl, rfl, rfl, rfl⟩, Nat.le_trans (Nat.le_trans (Nat.le_succ _) (Nat.le_succ _)) z, dne, hns⟩⟩
end
end XBadThing
end PySem
namespace L2
open PySem PySem.Spec PyProof.Rows
theorem relO__BadThing {v : V} {v' : Value} (r : RelV v v') (f : Str) : RelO (List.lookup f [(("place" : Str), v)]) (if f = "place" then some v' else none) := by
  by_cases hw : f = "place"
  · subst hw
    rw [if_pos rfl]
    have q : List.lookup ("place" : Str) [(("place" : Str), v)] = some v := by simp [List.lookup]
    rw [q]
    exact r
  · rw [if_neg hw]
    have qw : (f == ("place" : Str)) = false := by simpa using hw
    have q2 : List.lookup f [(("place" : Str), v)] = none := by simp [List.lookup, qw]
    rw [q2]
    trivial
section
variable {X : Cx} {C fI : Addr}
/-- Low(e) -/
def tMk_BadThing (C : Addr) (ta : TA) : St → Hp → XK → Prop := fun σ H Q => ta σ H fun vs H1 => ∃ v, vs = [v] ∧ ∀ d, H1 d = none → Q (.ref C) (some d) (upd H1 d (.xd [(("place" : Str), v)]))
theorem pmk__BadThing {a : Expr} {ta : TA} {p pos : Pos} {k : Nat} (T : PySem.XBadThing.TxtBadThing X.K X.mg C fI) (hr : Room k X.A) (ha : PA X [a] ta) (hg : Gl X "BadThing" := by rfl)
    (he : starEach (a :: []) X.env = (false, eval a X.env) :: starEach [] X.env := by rfl) (hpl : (backTo pos (starEach [] X.env)).any (·.1) = false := by rfl) :
    PMk X (.Call (.Name "BadThing" p) [a] [] pos) (tMk_BadThing C ta) := by
  intro pins s σ H Q I h
  refine wpAny_Call_Name_kw (ld_glob I hg T.gC ?_)
  refine PySem.W.callWith_K (h₀ := X.base) I.ok.mod.kin T.kC (thn (ha.run pos pins s σ H _ I h) fun us s1 hh => ?_) he hpl
  obtain ⟨vs, H1, I1, r1, v, ev, q1⟩ := hh
  subst ev
  refine ⟨I1.kIn, ?_⟩
  cases r1 with
  | cons rv rn =>
    rename_i v' us'
    cases rn
    show wpAny _ _ (call (.ref C) [v']) _ _ _
    have hlim := I1.nolimit
    obtain ⟨hp, g, dr, tk, os⟩ := s1
    refine wpAny_call (PySem.XBadThing.low_made T I1.kIn hlim (by have := hr.dp; omega) fun h' tk' e d M => ?_)
    show MkP X pins σ Q (.ref e) ⟨h', g, dr, tk', os⟩
    obtain ⟨oe, fv, hoe, hc, hd, hdat, h1⟩ := M.obj
    have hns := M.ns
    obtain ⟨G', g1, g2⟩ := restrict h' fun b => decide (b ≠ e)
    have gk : ∀ b, b ≠ e → G'.get? b = h'.get? b := fun b hb => g1 b (decide_eq_true hb)
    have ge : G'.get? e = none := g2 e (by simp)
    have old : ∀ b o, hp.get? b = some o → G'.get? b = some o := fun b o q => (gk b (Nat.ne_of_lt (Nat.lt_of_lt_of_le (Heap.lt_size q) M.new))).trans (M.keep b o q)
    have ob : ObjOk X.prog X.w (upd H1 d (.xd [(("place" : Str), v)])) G' d (.xd [(("place" : Str), v)]) :=
      ⟨_, hns.at (fun o q => (gk d M.dne).trans q), fun f => relO__BadThing rv f⟩
    have J : Inv X pins σ (upd H1 d (.xd [(("place" : Str), v)])) ⟨G', g, dr, tk', os⟩ := I1.laid (t' := tk') old M.dbig ob
    refine ⟨e, oe, fv, ⟨G', g, dr, tk', os⟩, _, .ref C, some d, rfl, J, fun b o q => ?_, ge, hoe, ⟨hc, hd⟩, hdat, h1, ?_, rfl, I1.bare, raises_own T.exC T.tyC, q1 d (I1.hok.fresh M.dbig)⟩
    · by_cases hb : b = e
      · have q' : G'.get? b = some o := q
        rw [hb, ge] at q'; cases q'
      · exact (gk b hb).symm.trans q
    · rw [upd_ne (Ne.symm M.dne)]
      exact I1.hok.fresh M.new
/-- raise Low(e) -/
def tRaise_BadThing (C : Addr) (W : WX) (ta : TA) : TS := fun _ σ H => tMk_BadThing C ta σ H fun cls d H' => W cls d σ H'
theorem ps_raise_BadThing {a : Expr} {ta : TA} {W : WX} {p pos pos2 : Pos} {k : Nat} (hc : X.calm = true) (T : PySem.XBadThing.TxtBadThing X.K X.mg C fI) (hr : Room k X.A) (tk : Takes X W) (ha : PA X [a] ta) (hg : Gl X "BadThing" := by rfl)
    (he : starEach (a :: []) X.env = (false, eval a X.env) :: starEach [] X.env := by rfl) (hpl : (backTo pos (starEach [] X.env)).any (·.1) = false := by rfl) :
    PS X (.Raise (some (.Call (.Name "BadThing" p) [a] [] pos)) none pos2) (tRaise_BadThing C W ta) := ps_raise hc tk (pmk__BadThing T hr ha hg he hpl)
/-- low.by, low the exception that the suite holds (at a; its class cls, its dict d) -/
def tBy_BadThing (C : Addr) (a : Addr) (cls : Value) (d : Option Addr) (te : TE) : TE := fun σ H Q => te σ H fun x H1 => x = .ref a ∧ cls = .ref C ∧ ∃ (dd : Addr) (v : V), d = some dd ∧ H1 dd = some (.xd [(("place" : Str), v)]) ∧ Q v H1
theorem pe_by_BadThing {a : Addr} {oe : Obj} {cls : Value} {d : Option Addr} {pn : List (Addr × Obj)} {e : Expr} {te : TE} {pos : Pos} (T : PySem.XBadThing.TxtBadThing X.K X.mg C fI) (hz : Zc cls d oe) (hf : ∃ vs, oe.data = .fields vs) (he : PE (X.suite a ((a, oe) :: pn)) e te)
    (hb : attributeBase e "place" X.env (eval e X.env) = eval e X.env := by rfl) :
    PE (X.suite a ((a, oe) :: pn)) (.Attribute e "place" pos) (tBy_BadThing C a cls d te) := by
  refine ⟨fun pins s σ H Q I h => ?_⟩
  refine attr_of hb (thn (he.run pins s σ H _ I h) fun u s1 hh => ?_)
  obtain ⟨x, H1, I1, rx, ex, ec, dd, v, ed, ea, q⟩ := hh
  subst ex
  obtain rfl : u = Value.ref a := rx
  subst ec
  subst ed
  obtain ⟨ha, _⟩ := I1.pin (a, oe) (List.mem_append_left _ List.mem_cons_self)
  obtain ⟨vs, hd⟩ := hf
  have hx : ObjOk X.prog X.w H1 s1.heap dd (.xd [(("place" : Str), v)]) := I1.hok dd _ ea
  obtain ⟨mA, hns, hr⟩ := hx
  obtain ⟨od, ho, hl⟩ := lookIn_ns hns
  have l : List.lookup ("place" : Str) [(("place" : Str), v)] = some v := by simp [List.lookup]
  obtain ⟨u, hu, ru⟩ := RelO.some_of (v := v) (o := mA "place") (by rw [← l]; exact hr "place")
  have J : PySem.W.InstAt s1.heap a oe C (some od) := ⟨ha, hz.1, by unfold PySem.W.notCls; rw [hd] <;> rfl, by rw [hz.2]; exact ho⟩
  exact HandSPX.exc_get I1.kIn J T.ga T.gg T.exC (PySem.W.findObj_own T.hdC T.noN rfl (by rw [hl, hu])) (handed_of ru) ⟨v, H1, I1.tok _, ru, q⟩
end
end L2
namespace W3
open PySem PySem.Spec PyProof.Rows L2 M3
theorem sc_is_integer : FnScope ["thing"] ["thing"] (defScope s_is_integer) := ⟨rfl, rfl, rfl, by decide +kernel, rfl, by decide +kernel, by decide +kernel⟩
theorem sc_come_to_roots : FnScope ["parents", "sure", "parent", "house", "line", "at", "passed"] ["parents"] (defScope s_come_to_roots) := ⟨rfl, rfl, rfl, by decide +kernel, rfl, by decide +kernel, by decide +kernel⟩
theorem sc_is_word : FnScope ["most", "thing", "sign"] ["most", "thing"] (defScope s_is_word) := ⟨rfl, rfl, rfl, by decide +kernel, rfl, by decide +kernel, by decide +kernel⟩
theorem sc_read_parts : FnScope ["text", "place", "deep", "parts", "sign", "part", "behind"] ["text", "place", "deep"] (defScope s_read_parts) := ⟨rfl, rfl, rfl, by decide +kernel, rfl, by decide +kernel, by decide +kernel⟩
theorem sc_end_of : FnScope ["text", "place", "signs", "behind"] ["text", "place", "signs"] (defScope s_end_of) := ⟨rfl, rfl, rfl, by decide +kernel, rfl, by decide +kernel, by decide +kernel⟩
theorem sc_L_hand : FnScope ["script", "cells", "cell"] ["script"] (defScope s_L_hand) := ⟨rfl, rfl, rfl, by decide +kernel, rfl, by decide +kernel, by decide +kernel⟩
theorem sc_L_draw : FnScope ["hand", "many", "cell", "digit", "number"] ["hand", "many"] (defScope s_L_draw) := ⟨rfl, rfl, rfl, by decide +kernel, rfl, by decide +kernel, by decide +kernel⟩
theorem sc_L_deep : FnScope ["kind", "found", "turn"] ["kind"] (defScope s_L_deep) := ⟨rfl, rfl, rfl, by decide +kernel, rfl, by decide +kernel, by decide +kernel⟩
theorem sc_L_token : FnScope ["text", "at", "figures", "letters", "found", "sign", "minus"] ["text", "at"] (defScope s_L_token) := ⟨rfl, rfl, rfl, by decide +kernel, rfl, by decide +kernel, by decide +kernel⟩
theorem sc_L_item : FnScope ["word"] ["word"] (defScope s_L_item) := ⟨rfl, rfl, rfl, by decide +kernel, rfl, by decide +kernel, by decide +kernel⟩
theorem sc_is_between : FnScope ["least", "most", "thing"] ["least", "most", "thing"] (defScope s_is_between) := ⟨rfl, rfl, rfl, by decide +kernel, rfl, by decide +kernel, by decide +kernel⟩
theorem sc_are_worths : FnScope ["thing", "houses", "worth"] ["thing", "houses"] (defScope s_are_worths) := ⟨rfl, rfl, rfl, by decide +kernel, rfl, by decide +kernel, by decide +kernel⟩
theorem sc_read_behind_minus : FnScope ["text", "place", "behind"] ["text", "place"] (defScope s_read_behind_minus) := ⟨rfl, rfl, rfl, by decide +kernel, rfl, by decide +kernel, by decide +kernel⟩
theorem sc_L_some : FnScope ["hand", "things"] ["hand", "things"] (defScope s_L_some) := ⟨rfl, rfl, rfl, by decide +kernel, rfl, by decide +kernel, by decide +kernel⟩
theorem sc_L_read : FnScope ["text", "at", "stack", "due", "turn", "sign", "is_in", "row", "many"] ["text"] (defScope s_L_read) := ⟨rfl, rfl, rfl, by decide +kernel, rfl, by decide +kernel, by decide +kernel⟩
theorem sc_is_house : FnScope ["many", "thing"] ["many", "thing"] (defScope s_is_house) := ⟨rfl, rfl, rfl, by decide +kernel, rfl, by decide +kernel, by decide +kernel⟩
theorem sc_is_many : FnScope ["thing"] ["thing"] (defScope s_is_many) := ⟨rfl, rfl, rfl, by decide +kernel, rfl, by decide +kernel, by decide +kernel⟩
theorem sc_L_nested : FnScope ["hand", "most", "thing", "turn"] ["hand", "most"] (defScope s_L_nested) := ⟨rfl, rfl, rfl, by decide +kernel, rfl, by decide +kernel, by decide +kernel⟩
theorem sc_L_spoilt : FnScope ["hand", "text", "at", "way", "signs", "sign"] ["hand", "text"] (defScope s_L_spoilt) := ⟨rfl, rfl, rfl, by decide +kernel, rfl, by decide +kernel, by decide +kernel⟩
theorem sc_are_parents : FnScope ["thing", "parent"] ["thing"] (defScope s_are_parents) := ⟨rfl, rfl, rfl, by decide +kernel, rfl, by decide +kernel, by decide +kernel⟩
theorem sc_Forest_init : FnScope ["self", "parents", "worths"] ["self", "parents", "worths"] (defScope s_Forest_init) := ⟨rfl, rfl, rfl, by decide +kernel, rfl, by decide +kernel, by decide +kernel⟩
theorem sc_read_thing_at : FnScope ["text", "place", "deep", "sign", "behind", "word"] ["text", "place", "deep"] (defScope s_read_thing_at) := ⟨rfl, rfl, rfl, by decide +kernel, rfl, by decide +kernel, by decide +kernel⟩
theorem sc_read_thing : FnScope ["text", "thing", "behind"] ["text"] (defScope s_read_thing) := ⟨rfl, rfl, rfl, by decide +kernel, rfl, by decide +kernel, by decide +kernel⟩
theorem sc_L_told : FnScope ["text", "found", "e"] ["text"] (defScope s_L_told) := ⟨rfl, rfl, rfl, by decide +kernel, rfl, by decide +kernel, by decide +kernel⟩
theorem sc_L_is : FnScope ["told", "due", "k", "key"] ["told", "due"] (defScope s_L_is) := ⟨rfl, rfl, rfl, by decide +kernel, rfl, by decide +kernel, by decide +kernel⟩
theorem sc_text_of : FnScope ["thing", "part"] ["thing"] (defScope s_text_of) := ⟨rfl, rfl, rfl, by decide +kernel, rfl, by decide +kernel, by decide +kernel⟩
theorem sc_L_written : FnScope ["thing", "one"] ["thing"] (defScope s_L_written) := ⟨rfl, rfl, rfl, by decide +kernel, rfl, by decide +kernel, by decide +kernel⟩
theorem sc_L_can_be : FnScope ["thing", "deep", "is_word_v", "sign", "one"] ["thing", "deep"] (defScope s_L_can_be) := ⟨rfl, rfl, rfl, by decide +kernel, rfl, by decide +kernel, by decide +kernel⟩
theorem sc_can_be_written : FnScope ["thing", "deep", "part"] ["thing", "deep"] (defScope s_can_be_written) := ⟨rfl, rfl, rfl, by decide +kernel, rfl, by decide +kernel, by decide +kernel⟩
theorem sc_written : FnScope ["thing"] ["thing"] (defScope s_written) := ⟨rfl, rfl, rfl, by decide +kernel, rfl, by decide +kernel, by decide +kernel⟩
theorem sc_L_drawn_thing : FnScope ["hand", "deep", "kind", "turn"] ["hand", "deep"] (defScope s_L_drawn_thing) := ⟨rfl, rfl, rfl, by decide +kernel, rfl, by decide +kernel, by decide +kernel⟩
theorem sc_L_given : FnScope ["thing", "found", "e"] ["thing"] (defScope s_L_given) := ⟨rfl, rfl, rfl, by decide +kernel, rfl, by decide +kernel, by decide +kernel⟩
theorem sc_law : FnScope ["script", "hand", "odd", "turn", "thing", "can", "text", "again", "wrong"] ["script"] (defScope s_law) := ⟨rfl, rfl, rfl, by decide +kernel, rfl, by decide +kernel, by decide +kernel⟩
structure Txt (mg : Str → Option Value) : Prop where
  n_ValueError : mg "ValueError" = none
  n_range : mg "range" = none
  n_all : mg "all" = none
  n_isinstance : mg "isinstance" = none
  n_tuple : mg "tuple" = none
  n_str : mg "str" = none
  n_bool : mg "bool" = none
  n_dict : mg "dict" = none
  n_int : mg "int" = none
  n_len : mg "len" = none
  n_abs : mg "abs" = none
  n_list : mg "list" = none
  n_min : mg "min" = none
  c_MOST_HOUSES : ∃ t, mg "MOST_HOUSES" = some (.int 64 t)
  c_LETTERS : ∃ t, mg "LETTERS" = some (.str "abcdefghijklmnopqrstuvwxyz" t)
  c_FIGURES : ∃ t, mg "FIGURES" = some (.str "0123456789" t)
  c_MOST_SIGNS : ∃ t, mg "MOST_SIGNS" = some (.int 20 t)
  c_MOST_DEEP : ∃ t, mg "MOST_DEEP" = some (.int 20 t)
structure Fx (g : G) (w : World) (mg : Str → Option Value) (f_eBadForest f_eNoThing f_eBadThing f_iForest : Addr) : Prop where
  CSO : OwnCs g.K g.CS
  FO : FlOk g.K g.FL
  Forest : mg "Forest" = some (.ref g.Forest)
  mk_Forest : Mk g.K g.Forest f_iForest
  ForestError : mg "ForestError" = some (.ref g.ForestError)
  BadForest : PySem.XBadForest.TxtBadForest g.K mg g.BadForest f_eBadForest
  NoThing : PySem.XNoThing.TxtNoThing g.K mg g.NoThing f_eNoThing
  BadThing : PySem.XBadThing.TxtBadThing g.K mg g.BadThing f_eBadThing
  xc_BadThing : ExcC g.K g.BadThing
  xc_NoThing : ExcC g.K g.NoThing
  FLAGS : mg "FLAGS" = some (.ref g.FLAGS) ∧ TabOk g.K w g.FLAGS tab_FLAGS
theorem cr_Forest_ok (g : G) : ∀ vs H Q E, spM g.K 2 (mPure (mkC g.Forest (m_Forest_init g))) vs H Q E → spNew g.Forest (spM g.K 3 (m_Forest_init g)) vs H Q E := fun vs H Q E h => new_ok vs H Q E (pure_ok vs H Q E h)
end W3
namespace W3
open PySem PySem.Spec PyProof.Rows L2 M3
section
variable {P : Program} {w : World} {g : G} {mg : Str → Option Value} {base : Heap} {f_eBadForest f_eNoThing f_eBadThing f_iForest : Addr}
theorem ok_is_integer (D : M3.Def g.K mg "is_integer" s_is_integer ["thing"]) (T : Txt mg) (Z : Fx g w mg f_eBadForest f_eNoThing f_eBadThing f_iForest) : M3.Cal P w g.K mg base 1 "is_integer" ["thing"] (spM g.K 1 (mPure (m_is_integer g))) := by
  refine M3.Cal.imp (D.cal (sp := (spM g.K 1 (m_is_integer g))) sc_is_integer (spM_len rfl) (fun f cdv A outer s H vs Q E hr h => ?_)) pure_ok
  exact body_all (N := ["thing"]) (E := E) ((pss_one (ps_ret (pe_and (pe_callB (call_isiM (K := g.K) rfl) (by rfl) T.n_isinstance (by decide +kernel) (pa_cons (pv 0) (pa_cons (pe_bltn (v := .ty "int") (by rfl) T.n_int (by decide +kernel) rfl) pa_nil))) (pe_one (pe_not (pe_callB (call_isiM (K := g.K) rfl) (by rfl) T.n_isinstance (by decide +kernel) (pa_cons (pv 0) (pa_cons (pe_bltn (v := .ty "bool") (by rfl) T.n_bool (by decide +kernel) rfl) pa_nil)))))))))
    ((ss_ret (se_and (se_call (isi_ok Z.CSO) (sa_cons se_var (sa_cons se_con sa_nil))) (se_not (se_call (isi_ok Z.CSO) (sa_cons se_var (sa_cons se_con sa_nil))))))) h
end
end W3
namespace W3
open PySem PySem.Spec PyProof.Rows L2 M3
section
variable {P : Program} {w : World} {g : G} {mg : Str → Option Value} {base : Heap} {f_eBadForest f_eNoThing f_eBadThing f_iForest : Addr}
theorem ok_come_to_roots (D : M3.Def g.K mg "come_to_roots" s_come_to_roots ["parents"]) (T : Txt mg) (Z : Fx g w mg f_eBadForest f_eNoThing f_eBadThing f_iForest) : M3.Cal P w g.K mg base 1 "come_to_roots" ["parents"] (spM g.K 1 (mPure (m_come_to_roots g))) := by
  refine M3.Cal.imp (D.cal (sp := (spM g.K 1 (m_come_to_roots g))) sc_come_to_roots (spM_len rfl) (fun f cdv A outer s H vs Q E hr h => ?_)) pure_ok
  exact body_all (N := ["parents", "sure", "parent", "house", "line", "at", "passed"]) (E := E) ((pss_cons (ps_setLc (i := 1) (own := [("parent", 2)]) (g := (gName 2)) (tt := tYes) (by rfl) sc_come_to_roots.nd rfl rfl (sw_true rfl rfl rfl (by decide +kernel)) (pi_M (K := g.K) rfl (pv 0)) (blkOk_by (own := [("parent", 2)]) (N := ["parents", "sure", "parent", "house", "line", "at", "passed"]) (sc := defScope s_come_to_roots) (by decide +kernel)) (fun _ _ _ _ _ => (pg_name (i := 2) sc_come_to_roots.nd rfl (Or.inl rfl))) (fun _ _ _ _ _ => pts_nil) (fun _ _ _ _ _ => (pe_cmpR op_isN (pv 2) pe_non (nomark _))))
      (pss_cons (ps_for (passes_of rfl) rfl (pi_range1 rfl T.n_range (pa_cons (pe_callB (call_lenM (K := g.K) rfl) (by rfl) T.n_len PySem.boot_len (pa_cons (pv 0) pa_nil)) pa_nil)) (pg_name (i := 3) sc_come_to_roots.nd rfl (Or.inl rfl)) (pss_cons (ps_set (i := 4) sc_come_to_roots.nd rfl (Or.inl rfl) (pe_lst pa_nil))
      (pss_cons (ps_set (i := 5) sc_come_to_roots.nd rfl (Or.inl rfl) (pv 3))
      (pss_cons (ps_while (passes_of rfl) (pt_not (pt_val (pe_ix (ix_M (K := g.K) rfl) (pv 1) (pv 5) (fun _ _ => rfl)))) (pss_cons (ps_if (pt_cmpR (op_eqM (K := g.K) rfl hr.units) (pe_callB (call_lenM (K := g.K) rfl) (by rfl) T.n_len PySem.boot_len (pa_cons (pv 4) pa_nil)) (pe_callB (call_lenM (K := g.K) rfl) (by rfl) T.n_len PySem.boot_len (pa_cons (pv 0) pa_nil)) (nomark _)) (pss_one (ps_ret pe_bl)) pss_nil)
      (pss_cons (ps_expr (pe_bmK (K := g.K) rfl PySem.F.plainAttrs_list PySem.F.slot_list_append PySem.F.type_list_append mt_append (pv 4) (pa_cons (pv 5) pa_nil)))
      (pss_one (ps_set (i := 5) sc_come_to_roots.nd rfl (Or.inl rfl) (pe_ix (ix_M (K := g.K) rfl) (pv 0) (pv 5) (fun _ _ => rfl)))))))
      (pss_one (ps_for (passes_of rfl) rfl (pi_M (K := g.K) rfl (pv 4)) (pg_name (i := 6) sc_come_to_roots.nd rfl (Or.inl rfl)) (pss_one (ps_asg pe_bl (pg_sub (pv 1) (pv 6) set_list)))))))))
      (pss_one (ps_ret pe_bl)))))
    ((ss_seq (ss_asgG (se_trk (sl_lc (si_walk se_var) (sgv_name (by decide)) st_yes (se_op isN_okR se_var se_non))) sg_name)
      (ss_seq (ss_for (si_rng1 (sa_cons (se_call len_ok (sa_cons se_var sa_nil)) sa_nil)) sg_name (ss_seq (ss_asgG (se_trk (sl_lst sa_nil)) sg_name)
      (ss_seq (ss_asgG se_var sg_name)
      (ss_seq (ss_while (st_not (st_tst (se_op ix_ok se_var se_var))) (ss_seq (ss_ifS (st_test (se_op eq_ok (se_call len_ok (sa_cons se_var sa_nil)) (se_call len_ok (sa_cons se_var sa_nil)))) (ss_ret se_bl) ss_next)
      (ss_seq (ss_drop (se_bm append_ok se_var (sa_cons se_var sa_nil)))
      (ss_asgG (se_op ix_ok se_var se_var) sg_name))))
      (ss_for (si_walk se_var) sg_name (ss_asgG se_bl (sg_sub se_var se_var)))))))
      (ss_ret se_bl)))) h
end
end W3
namespace W3
open PySem PySem.Spec PyProof.Rows L2 M3
section
variable {P : Program} {w : World} {g : G} {mg : Str → Option Value} {base : Heap} {f_eBadForest f_eNoThing f_eBadThing f_iForest : Addr}
theorem ok_is_word (D : M3.Def g.K mg "is_word" s_is_word ["most", "thing"]) (T : Txt mg) (Z : Fx g w mg f_eBadForest f_eNoThing f_eBadThing f_iForest) : M3.Cal P w g.K mg base 1 "is_word" ["most", "thing"] (spM g.K 2 (mPure (m_is_word g))) := by
  obtain ⟨tk_LETTERS, h_LETTERS⟩ := T.c_LETTERS
  refine M3.Cal.imp (D.cal (sp := (spM g.K 2 (m_is_word g))) sc_is_word (spM_len rfl) (fun f cdv A outer s H vs Q E hr h => ?_)) pure_ok
  exact body_all (N := ["most", "thing", "sign"]) (E := E) ((pss_one (ps_ret (pe_and (pe_callB (call_isiM (K := g.K) rfl) (by rfl) T.n_isinstance (by decide +kernel) (pa_cons (pv 1) (pa_cons (pe_bltn (v := .ty "str") (by rfl) T.n_str (by decide +kernel) rfl) pa_nil))) (pe_and (pe_chain op_le op_le pe_int (pe_callB (call_lenM (K := g.K) rfl) (by rfl) T.n_len PySem.boot_len (pa_cons (pv 1) pa_nil)) (pv 0)) (pe_one (pe_callB (call_allM (K := g.K) rfl rfl) (by rfl) T.n_all (by decide +kernel) (pa_cons ((pe_lc (own := [("sign", 2)]) (g := (gName 2)) (tt := tYes) (by rfl) sc_is_word.nd (pi_M (K := g.K) rfl (pv 1)) (blkOk_by (own := [("sign", 2)]) (N := ["most", "thing", "sign"]) (sc := defScope s_is_word) (by decide +kernel)) (fun _ _ _ _ _ => (pg_name (i := 2) sc_is_word.nd rfl (Or.inl rfl))) (fun _ _ _ _ _ => pts_nil) (fun _ _ _ _ _ => (pe_cmpR (op_inM (K := g.K) rfl) (pv 2) (pe_glob (v := .str "abcdefghijklmnopqrstuvwxyz") rfl h_LETTERS ⟨_, rfl⟩) (by rfl))))) pa_nil))))))))
    ((ss_ret (se_and (se_call (isi_ok Z.CSO) (sa_cons se_var (sa_cons se_con sa_nil))) (se_and (se_chain le_ok le_ok se_int (se_call len_ok (sa_cons se_var sa_nil)) se_var) (se_call all_ok (sa_cons (se_frz (sl_lc (si_walk se_var) (sgv_name (by decide)) st_yes (se_op in_ok se_var se_str))) sa_nil)))))) h
end
end W3
namespace W3
open PySem PySem.Spec PyProof.Rows L2 M3
section
variable {P : Program} {w : World} {g : G} {mg : Str → Option Value} {base : Heap} {f_eBadForest f_eNoThing f_eBadThing f_iForest : Addr}
theorem ok_end_of (D : M3.Def g.K mg "_end_of" s_end_of ["text", "place", "signs"]) (T : Txt mg) (Z : Fx g w mg f_eBadForest f_eNoThing f_eBadThing f_iForest) : M3.Cal P w g.K mg base 1 "_end_of" ["text", "place", "signs"] (spM g.K 3 (mPure (m_end_of g))) := by
  obtain ⟨tk_MOST_SIGNS, h_MOST_SIGNS⟩ := T.c_MOST_SIGNS
  refine M3.Cal.imp (D.cal (sp := (spM g.K 3 (m_end_of g))) sc_end_of (spM_len rfl) (fun f cdv A outer s H vs Q E hr h => ?_)) pure_ok
  exact body_all (N := ["text", "place", "signs", "behind"]) (E := E) ((pss_cons (ps_set (i := 3) sc_end_of.nd rfl (Or.inl rfl) (pv 1))
      (pss_cons (ps_while (passes_of rfl) (PW.pt (pw_and (pt_cmpR op_lt (pv 3) (pe_callB (call_minM (K := g.K) rfl rfl) (by rfl) T.n_min (by decide +kernel) (pa_cons (pe_callB (call_lenM (K := g.K) rfl) (by rfl) T.n_len PySem.boot_len (pa_cons (pv 0) pa_nil)) (pa_cons (pe_op (op_addM (K := g.K) rfl) (pv 1) (pe_glob (v := .int 20) rfl h_MOST_SIGNS ⟨_, rfl⟩)) pa_nil))) (nomark _)) (pw_and1 (pt_cmpR (op_inM (K := g.K) rfl) (pe_ix (ix_M (K := g.K) rfl) (pv 0) (pv 3) (fun _ _ => rfl)) (pv 2) (by rfl))))) (pss_one (ps_aug (i := 3) sc_end_of.nd rfl (Or.inl rfl) pe_int ip_add)))
      (pss_one (ps_ret (pv 3))))))
    ((ss_seq (ss_asgG se_var sg_name)
      (ss_seq (ss_while (st_and (st_test (se_op lt_ok se_var (se_call min_ok (sa_cons (se_call len_ok (sa_cons se_var sa_nil)) (sa_cons (se_op add_ok se_var se_int) sa_nil))))) (st_test (se_op in_ok (se_op ix_ok se_var se_var) se_var))) (ss_aug se_int ip_add_ok))
      (ss_ret se_var)))) h
end
end W3
namespace W3
open PySem PySem.Spec PyProof.Rows L2 M3
section
variable {P : Program} {w : World} {g : G} {mg : Str → Option Value} {base : Heap} {f_eBadForest f_eNoThing f_eBadThing f_iForest : Addr}
theorem ok_L_hand (D : M3.Def g.K mg "_law_hand" s_L_hand ["script"]) (T : Txt mg) (Z : Fx g w mg f_eBadForest f_eNoThing f_eBadThing f_iForest) : M3.Cal P w g.K mg base 1 "_law_hand" ["script"] (spM g.K 1 (m_L_hand g)) := by
  refine M3.Cal.mono (D.cal (sp := (spM g.K 1 (m_L_hand g))) sc_L_hand (spM_len rfl) (fun f cdv A outer s H vs Q E hr h => ?_)) (Nat.le_refl _)
  exact body_all (N := ["script", "cells", "cell"]) (E := E) ((pss_cons (ps_setLc (i := 1) (own := [("cell", 2)]) (g := (gName 2)) (tt := tYes) (by rfl) sc_L_hand.nd rfl rfl (sw_true rfl rfl rfl (by decide +kernel)) (pi_M (K := g.K) rfl (pe_slice (sl_M (K := g.K) rfl) (pv 0) po_none (po_some pe_int))) (blkOk_by (own := [("cell", 2)]) (N := ["script", "cells", "cell"]) (sc := defScope s_L_hand) (by decide +kernel)) (fun _ _ _ _ _ => (pg_name (i := 2) sc_L_hand.nd rfl (Or.inl rfl))) (fun _ _ _ _ _ => pts_nil) (fun _ _ _ _ _ => (pe_callB call_abs (by rfl) T.n_abs (by decide +kernel) (pa_cons (pe_callTy call_int1 (by rfl) T.n_int (by decide +kernel) (pa_cons (pv 2) pa_nil)) pa_nil))))
      (pss_one (ps_ret (pe_lst (pa_cons (pv 1) (pa_cons pe_int (pa_cons pe_int (pa_cons (pe_op (op_addM (K := g.K) rfl) pe_int (pe_callB (call_lenM (K := g.K) rfl) (by rfl) T.n_len PySem.boot_len (pa_cons (pv 1) pa_nil))) (pa_cons pe_int pa_nil))))))))))
    ((ss_seq (ss_asgG (se_frz (sl_lc (si_walk (se_sl se_var so_none (so_some se_int))) (sgv_name (by decide)) st_yes (se_call abs_ok (sa_cons (se_call int_ok (sa_cons se_var sa_nil)) sa_nil)))) sg_name)
      (ss_ret (se_trk (sl_lst (sa_cons se_var (sa_cons se_int (sa_cons se_int (sa_cons (se_op add_ok se_int (se_call len_ok (sa_cons se_var sa_nil))) (sa_cons se_int sa_nil)))))))))) h
end
end W3
namespace W3
open PySem PySem.Spec PyProof.Rows L2 M3
section
variable {P : Program} {w : World} {g : G} {mg : Str → Option Value} {base : Heap} {f_eBadForest f_eNoThing f_eBadThing f_iForest : Addr}
theorem ok_L_draw (D : M3.Def g.K mg "_law_draw" s_L_draw ["hand", "many"]) (T : Txt mg) (Z : Fx g w mg f_eBadForest f_eNoThing f_eBadThing f_iForest) : M3.Cal P w g.K mg base 1 "_law_draw" ["hand", "many"] (spM g.K 2 (mScope (m_L_draw g))) := by
  refine M3.Cal.imp (D.cal (sp := (spM g.K 2 (m_L_draw g))) sc_L_draw (spM_len rfl) (fun f cdv A outer s H vs Q E hr h => ?_)) scope_ok
  exact body_all (N := ["hand", "many", "cell", "digit", "number"]) (E := E) ((pss_cons (ps_if (PW.pt (pw_and (pt_cmpR (op_eqM (K := g.K) rfl hr.units) (pe_ix (ix_M (K := g.K) rfl) (pv 0) pe_int (fun _ _ => rfl)) pe_int (nomark _)) (pw_and1 (pt_cmpR op_lt (pe_ix (ix_M (K := g.K) rfl) (pv 0) pe_int (fun _ _ => rfl)) (pe_callB (call_lenM (K := g.K) rfl) (by rfl) T.n_len PySem.boot_len (pa_cons (pe_ix (ix_M (K := g.K) rfl) (pv 0) pe_int (fun _ _ => rfl)) pa_nil)) (nomark _))))) (pss_cons (ps_set (i := 2) sc_L_draw.nd rfl (Or.inl rfl) (pe_ix (ix_M (K := g.K) rfl) (pe_ix (ix_M (K := g.K) rfl) (pv 0) pe_int (fun _ _ => rfl)) (pe_ix (ix_M (K := g.K) rfl) (pv 0) pe_int (fun _ _ => rfl)) (fun _ _ => rfl)))
      (pss_cons (ps_asg (pe_op (op_addM (K := g.K) rfl) (pe_ix (ix_M (K := g.K) rfl) (pv 0) pe_int (fun _ _ => rfl)) pe_int) (pg_sub (pv 0) pe_int set_list))
      (pss_cons (ps_asg (pe_op op_mod (pe_callTy call_int1 (by rfl) T.n_int (by decide +kernel) (pa_cons (pe_op (op_addM (K := g.K) rfl) (pe_op (op_addM (K := g.K) rfl) (pe_op (op_mulM (K := g.K) rfl) (pe_ix (ix_M (K := g.K) rfl) (pv 0) pe_int (fun _ _ => rfl)) pe_int) (pv 2)) pe_int) pa_nil)) pe_int) (pg_sub (pv 0) pe_int set_list))
      (pss_one (ps_if (pt_cmpR op_ge (pv 2) (pe_op op_pow pe_int pe_int) (nomark _)) (pss_one (ps_asg (pv 2) (pg_sub (pv 0) pe_int set_list))) pss_nil))))) pss_nil)
      (pss_cons (ps_if (pt_cmpR op_gt (pe_ix (ix_M (K := g.K) rfl) (pv 0) pe_int (fun _ _ => rfl)) pe_int (nomark _)) (pss_cons (ps_set (i := 3) sc_L_draw.nd rfl (Or.inl rfl) (pe_op op_mod (pe_callTy call_int1 (by rfl) T.n_int (by decide +kernel) (pa_cons (pe_ix (ix_M (K := g.K) rfl) (pv 0) pe_int (fun _ _ => rfl)) pa_nil)) (pv 1)))
      (pss_cons (ps_asg (pe_op op_fdivW (pe_ix (ix_M (K := g.K) rfl) (pv 0) pe_int (fun _ _ => rfl)) (pv 1)) (pg_sub (pv 0) pe_int set_list))
      (pss_one (ps_ret (pv 3))))) pss_nil)
      (pss_cons (ps_asg (pe_op (op_addM (K := g.K) rfl) (pe_ix (ix_M (K := g.K) rfl) (pv 0) pe_int (fun _ _ => rfl)) pe_int) (pg_sub (pv 0) pe_int set_list))
      (pss_cons (ps_set (i := 4) sc_L_draw.nd rfl (Or.inl rfl) (pe_op op_mod (pe_callTy call_int1 (by rfl) T.n_int (by decide +kernel) (pa_cons (pe_op (op_mulM (K := g.K) rfl) (pe_callTy call_int1 (by rfl) T.n_int (by decide +kernel) (pa_cons (pe_op (op_addM (K := g.K) rfl) (pe_ix (ix_M (K := g.K) rfl) (pv 0) pe_int (fun _ _ => rfl)) (pe_op (op_mulM (K := g.K) rfl) pe_int (pe_ix (ix_M (K := g.K) rfl) (pv 0) pe_int (fun _ _ => rfl)))) pa_nil)) pe_int) pa_nil)) pe_int))
      (pss_cons (ps_set (i := 4) sc_L_draw.nd rfl (Or.inl rfl) (pe_op op_mod (pe_callTy call_int1 (by rfl) T.n_int (by decide +kernel) (pa_cons (pe_op (op_mulM (K := g.K) rfl) (pv 4) (pe_op (op_addM (K := g.K) rfl) (pe_op op_fdivW (pv 4) pe_int) pe_int)) pa_nil)) pe_int))
      (pss_cons (ps_set (i := 4) sc_L_draw.nd rfl (Or.inl rfl) (pe_op op_mod (pe_callTy call_int1 (by rfl) T.n_int (by decide +kernel) (pa_cons (pe_op (op_mulM (K := g.K) rfl) (pv 4) (pe_op (op_addM (K := g.K) rfl) (pe_op op_fdivW (pv 4) pe_int) pe_int)) pa_nil)) pe_int))
      (pss_one (ps_ret (pe_op op_mod (pe_callTy call_int1 (by rfl) T.n_int (by decide +kernel) (pa_cons (pe_op op_fdivW (pv 4) pe_int) pa_nil)) (pv 1)))))))))))
    ((ss_seq (ss_ifS (st_and (st_test (se_op eq_ok (se_op ix_ok se_var se_int) se_int)) (st_test (se_op lt_ok (se_op ix_ok se_var se_int) (se_call len_ok (sa_cons (se_op ix_ok se_var se_int) sa_nil))))) (ss_seq (ss_asgG (se_op ix_ok (se_op ix_ok se_var se_int) (se_op ix_ok se_var se_int)) sg_name)
      (ss_seq (ss_asgG (se_op add_ok (se_op ix_ok se_var se_int) se_int) (sg_sub se_var se_int))
      (ss_seq (ss_asgG (se_op mod_ok (se_call int_ok (sa_cons (se_op add_ok (se_op add_ok (se_op mul_ok (se_op ix_ok se_var se_int) se_int) se_var) se_int) sa_nil)) se_int) (sg_sub se_var se_int))
      (ss_ifS (st_test (se_op ge_ok se_var (se_op pow_ok se_int se_int))) (ss_asgG se_var (sg_sub se_var se_int)) ss_next)))) ss_next)
      (ss_seq (ss_ifS (st_test (se_op gt_ok (se_op ix_ok se_var se_int) se_int)) (ss_seq (ss_asgG (se_op mod_ok (se_call int_ok (sa_cons (se_op ix_ok se_var se_int) sa_nil)) se_var) sg_name)
      (ss_seq (ss_asgG (se_op div_ok (se_op ix_ok se_var se_int) se_var) (sg_sub se_var se_int))
      (ss_ret se_var))) ss_next)
      (ss_seq (ss_asgG (se_op add_ok (se_op ix_ok se_var se_int) se_int) (sg_sub se_var se_int))
      (ss_seq (ss_asgG (se_op mod_ok (se_call int_ok (sa_cons (se_op mul_ok (se_call int_ok (sa_cons (se_op add_ok (se_op ix_ok se_var se_int) (se_op mul_ok se_int (se_op ix_ok se_var se_int))) sa_nil)) se_int) sa_nil)) se_int) sg_name)
      (ss_seq (ss_asgG (se_op mod_ok (se_call int_ok (sa_cons (se_op mul_ok se_var (se_op add_ok (se_op div_ok se_var se_int) se_int)) sa_nil)) se_int) sg_name)
      (ss_seq (ss_asgG (se_op mod_ok (se_call int_ok (sa_cons (se_op mul_ok se_var (se_op add_ok (se_op div_ok se_var se_int) se_int)) sa_nil)) se_int) sg_name)
      (ss_ret (se_op mod_ok (se_call int_ok (sa_cons (se_op div_ok se_var se_int) sa_nil)) se_var))))))))) h
end
end W3
namespace W3
open PySem PySem.Spec PyProof.Rows L2 M3
section
variable {P : Program} {w : World} {g : G} {mg : Str → Option Value} {base : Heap} {f_eBadForest f_eNoThing f_eBadThing f_iForest : Addr}
theorem ok_L_deep (D : M3.Def g.K mg "_law_deep" s_L_deep ["kind"]) (T : Txt mg) (Z : Fx g w mg f_eBadForest f_eNoThing f_eBadThing f_iForest) : M3.Cal P w g.K mg base 1 "_law_deep" ["kind"] (spM g.K 1 (mPure (m_L_deep g))) := by
  refine M3.Cal.imp (D.cal (sp := (spM g.K 1 (m_L_deep g))) sc_L_deep (spM_len rfl) (fun f cdv A outer s H vs Q E hr h => ?_)) pure_ok
  exact body_all (N := ["kind", "found", "turn"]) (E := E) ((pss_cons (ps_set (i := 1) sc_L_deep.nd rfl (Or.inl rfl) pe_non)
      (pss_cons (ps_for (passes_of rfl) rfl (pi_range1 rfl T.n_range (pa_cons pe_int pa_nil)) (pg_name (i := 2) sc_L_deep.nd rfl (Or.inl rfl)) (pss_one (ps_set (i := 1) sc_L_deep.nd rfl (Or.inl rfl) (pe_ifExp (pt_cmpR (op_eqM (K := g.K) rfl hr.units) (pv 0) pe_int (nomark _)) ((pe_lst (pa_cons (pv 1) pa_nil))) (pe_tup (pa_cons (pv 1) pa_nil))))))
      (pss_one (ps_ret (pv 1))))))
    ((ss_seq (ss_asgG se_non sg_name)
      (ss_seq (ss_for (si_rng1 (sa_cons se_int sa_nil)) sg_name (ss_asgG (se_if (st_test (se_op eq_ok se_var se_int)) (se_frz (sl_lst (sa_cons se_var sa_nil))) (se_tup (sa_cons se_var sa_nil))) sg_name))
      (ss_ret se_var)))) h
end
end W3
namespace W3
open PySem PySem.Spec PyProof.Rows L2 M3
section
variable {P : Program} {w : World} {g : G} {mg : Str → Option Value} {base : Heap} {f_eBadForest f_eNoThing f_eBadThing f_iForest : Addr}
theorem ok_L_token (D : M3.Def g.K mg "_law_token" s_L_token ["text", "at"]) (T : Txt mg) (Z : Fx g w mg f_eBadForest f_eNoThing f_eBadThing f_iForest) : M3.Cal P w g.K mg base 1 "_law_token" ["text", "at"] (spM g.K 2 (mPure (m_L_token g))) := by
  refine M3.Cal.imp (D.cal (sp := (spM g.K 2 (m_L_token g))) sc_L_token (spM_len rfl) (fun f cdv A outer s H vs Q E hr h => ?_)) pure_ok
  exact body_all (N := ["text", "at", "figures", "letters", "found", "sign", "minus"]) (E := E) ((pss_cons (ps_asg (pe_tup (pa_cons pe_str (pa_cons pe_str pa_nil))) (pg_tup rfl (pgs_cons (pg_name (i := 2) sc_L_token.nd rfl (Or.inl rfl)) (pgs_cons (pg_name (i := 3) sc_L_token.nd rfl (Or.inl rfl)) pgs_nil))))
      (pss_cons (ps_if (pt_cmpR (op_inM (K := g.K) rfl) (pe_ix (ix_M (K := g.K) rfl) (pv 0) (pv 1) (fun _ _ => rfl)) (pv 3) (by rfl)) (pss_cons (ps_set (i := 4) sc_L_token.nd rfl (Or.inl rfl) pe_int)
      (pss_cons (ps_for (passes_of rfl) rfl (pi_M (K := g.K) rfl (pe_slice (sl_M (K := g.K) rfl) (pv 0) (po_some (pv 1)) (po_some (pe_op (op_addM (K := g.K) rfl) (pv 1) pe_int)))) (pg_name (i := 5) sc_L_token.nd rfl (Or.inl rfl)) (pss_one (ps_set (i := 4) sc_L_token.nd rfl (Or.inl rfl) (pe_ifExp (PW.pt (pw_and (pt_cmpR (op_inM (K := g.K) rfl) (pv 5) (pv 3) (by rfl)) (pw_and1 (pt_cmpR op_ge (pv 4) pe_int (nomark _))))) (pe_op (op_addM (K := g.K) rfl) (pv 4) pe_int) (pe_un un_neg (pe_callB call_abs (by rfl) T.n_abs (by decide +kernel) (pa_cons (pv 4) pa_nil)))))))
      (pss_one (ps_ret (pe_callB call_abs (by rfl) T.n_abs (by decide +kernel) (pa_cons (pv 4) pa_nil)))))) pss_nil)
      (pss_cons (ps_if (pt_cmpR (op_eqM (K := g.K) rfl hr.units) (pe_ix (ix_M (K := g.K) rfl) (pv 0) (pv 1) (fun _ _ => rfl)) pe_str (nomark _)) (pss_one (ps_ret pe_int)) pss_nil)
      (pss_cons (ps_set (i := 6) sc_L_token.nd rfl (Or.inl rfl) (pe_callTy call_int1 (by rfl) T.n_int (by decide +kernel) (pa_cons (pe_cmpR (op_eqM (K := g.K) rfl hr.units) (pe_ix (ix_M (K := g.K) rfl) (pv 0) (pv 1) (fun _ _ => rfl)) pe_str (nomark _)) pa_nil)))
      (pss_cons (ps_if (pt_cmpR (op_notInM (K := g.K) rfl) (pe_slice (sl_M (K := g.K) rfl) (pv 0) (po_some (pe_op (op_addM (K := g.K) rfl) (pv 1) (pv 6))) (po_some (pe_op (op_addM (K := g.K) rfl) (pe_op (op_addM (K := g.K) rfl) (pv 1) (pv 6)) pe_int))) (pe_callTy (call_tupM (K := g.K) rfl) (by rfl) T.n_tuple (by decide +kernel) (pa_cons ((pe_callTy (call_listS rfl) (by rfl) T.n_list (by decide +kernel) (pa_cons (pe_slice (sl_M (K := g.K) rfl) (pv 2) (po_some pe_int) po_none) pa_nil))) pa_nil)) (by rfl)) (pss_one (ps_ret (pv 6))) pss_nil)
      (pss_cons (ps_set (i := 4) sc_L_token.nd rfl (Or.inl rfl) pe_int)
      (pss_cons (ps_for (passes_of rfl) rfl (pi_M (K := g.K) rfl (pe_slice (sl_M (K := g.K) rfl) (pv 0) (po_some (pe_op (op_addM (K := g.K) rfl) (pv 1) (pv 6))) (po_some (pe_op (op_addM (K := g.K) rfl) (pe_op (op_addM (K := g.K) rfl) (pv 1) (pv 6)) pe_int)))) (pg_name (i := 5) sc_L_token.nd rfl (Or.inl rfl)) (pss_one (ps_set (i := 4) sc_L_token.nd rfl (Or.inl rfl) (pe_ifExp (PW.pt (pw_and (pt_cmpR (op_inM (K := g.K) rfl) (pv 5) (pv 2) (by rfl)) (pw_and1 (pt_cmpR op_ge (pv 4) pe_int (nomark _))))) (pe_op (op_addM (K := g.K) rfl) (pv 4) pe_int) (pe_un un_neg (pe_callB call_abs (by rfl) T.n_abs (by decide +kernel) (pa_cons (pv 4) pa_nil)))))))
      (pss_one (ps_ret (pe_op (op_addM (K := g.K) rfl) (pv 6) (pe_callB call_abs (by rfl) T.n_abs (by decide +kernel) (pa_cons (pv 4) pa_nil)))))))))))))
    ((ss_seq (ss_asgG (se_tup (sa_cons se_str (sa_cons se_str sa_nil))) (sg_tup (sgs_cons (fun _ _ => rfl) sg_name (sgs_cons (fun _ _ => rfl) sg_name sgs_nil))))
      (ss_seq (ss_ifS (st_test (se_op in_ok (se_op ix_ok se_var se_var) se_var)) (ss_seq (ss_asgG se_int sg_name)
      (ss_seq (ss_for (si_walk (se_sl se_var (so_some se_var) (so_some (se_op add_ok se_var se_int)))) sg_name (ss_asgG (se_if (st_and (st_test (se_op in_ok se_var se_var)) (st_test (se_op ge_ok se_var se_int))) (se_op add_ok se_var se_int) (se_un neg_ok (se_call abs_ok (sa_cons se_var sa_nil)))) sg_name))
      (ss_ret (se_call abs_ok (sa_cons se_var sa_nil))))) ss_next)
      (ss_seq (ss_ifS (st_test (se_op eq_ok (se_op ix_ok se_var se_var) se_str)) (ss_ret se_int) ss_next)
      (ss_seq (ss_asgG (se_call int_ok (sa_cons (se_op eq_ok (se_op ix_ok se_var se_var) se_str) sa_nil)) sg_name)
      (ss_seq (ss_ifS (st_test (se_op notIn_ok (se_sl se_var (so_some (se_op add_ok se_var se_var)) (so_some (se_op add_ok (se_op add_ok se_var se_var) se_int))) (se_call tuple_ok (sa_cons (se_frz (sl_listS (sa_cons (se_sl se_var (so_some se_int) so_none) sa_nil))) sa_nil)))) (ss_ret se_var) ss_next)
      (ss_seq (ss_asgG se_int sg_name)
      (ss_seq (ss_for (si_walk (se_sl se_var (so_some (se_op add_ok se_var se_var)) (so_some (se_op add_ok (se_op add_ok se_var se_var) se_int)))) sg_name (ss_asgG (se_if (st_and (st_test (se_op in_ok se_var se_var)) (st_test (se_op ge_ok se_var se_int))) (se_op add_ok se_var se_int) (se_un neg_ok (se_call abs_ok (sa_cons se_var sa_nil)))) sg_name))
      (ss_ret (se_op add_ok se_var (se_call abs_ok (sa_cons se_var sa_nil)))))))))))) h
end
end W3
namespace W3
open PySem PySem.Spec PyProof.Rows L2 M3
section
variable {P : Program} {w : World} {g : G} {mg : Str → Option Value} {base : Heap} {f_eBadForest f_eNoThing f_eBadThing f_iForest : Addr}
theorem ok_L_item (D : M3.Def g.K mg "_law_item" s_L_item ["word"]) (T : Txt mg) (Z : Fx g w mg f_eBadForest f_eNoThing f_eBadThing f_iForest) : M3.Cal P w g.K mg base 1 "_law_item" ["word"] (spM g.K 1 (mPure (m_L_item g))) := by
  refine M3.Cal.imp (D.cal (sp := (spM g.K 1 (m_L_item g))) sc_L_item (spM_len rfl) (fun f cdv A outer s H vs Q E hr h => ?_)) pure_ok
  exact body_all (N := ["word"]) (E := E) ((pss_cons (ps_if (pt_cmpR (op_inM (K := g.K) rfl) (pv 0) (pe_tup (pa_cons pe_str (pa_cons pe_str (pa_cons pe_str pa_nil)))) (by rfl)) (pss_one (ps_ret (pe_dget (hu_of hr) (pe_disp (pps_cons pe_str pe_non (pps_cons pe_str pe_bl (pps_cons pe_str pe_bl pps_nil))) rfl rfl (fun h => nomatch h) (by decide)) (pv 0) (fun _ _ => rfl)))) pss_nil)
      (pss_one (ps_ret (pe_ifExp (pt_cmpR (op_inM (K := g.K) rfl) (pe_ix (ix_M (K := g.K) rfl) (pv 0) pe_int (fun _ _ => rfl)) pe_str (by rfl)) (pe_callTy call_intT (by rfl) T.n_int (by decide +kernel) (pa_cons (pv 0) pa_nil)) (pv 0))))))
    ((ss_seq (ss_ifS (st_test (se_op in_ok se_var (se_tup (sa_cons se_str (sa_cons se_str (sa_cons se_str sa_nil)))))) (ss_ret (se_dget (se_disp (SPs.cons se_str se_non (SPs.cons se_str se_bl (SPs.cons se_str se_bl SPs.nil)))) se_var)) ss_next)
      (ss_ret (se_if (st_test (se_op in_ok (se_op ix_ok se_var se_int) se_str)) (se_call intT_ok (sa_cons se_var sa_nil)) se_var)))) h
end
end W3
namespace W3
open PySem PySem.Spec PyProof.Rows L2 M3
section
variable {P : Program} {w : World} {g : G} {mg : Str → Option Value} {base : Heap} {f_eBadForest f_eNoThing f_eBadThing f_iForest : Addr}
theorem ok_is_between (D : M3.Def g.K mg "is_between" s_is_between ["least", "most", "thing"]) (T : Txt mg) (Z : Fx g w mg f_eBadForest f_eNoThing f_eBadThing f_iForest) (C_is_integer : M3.Cal P w g.K mg base 1 "is_integer" ["thing"] (spM g.K 1 (mPure (m_is_integer g)))) : M3.Cal P w g.K mg base 2 "is_between" ["least", "most", "thing"] (spM g.K 3 (mPure (m_is_between g))) := by
  refine M3.Cal.imp (D.cal (sp := (spM g.K 3 (m_is_between g))) sc_is_between (spM_len rfl) (fun f cdv A outer s H vs Q E hr h => ?_)) pure_ok
  exact body_all (N := ["least", "most", "thing"]) (E := E) ((pss_one (ps_ret (pe_and (pcal C_is_integer hr (by omega) rfl (takes_of rfl rfl rfl rfl) (pa_cons (pv 2) pa_nil)) (pe_one (pe_chain op_le op_le (pv 0) (pv 2) (pv 1)))))))
    ((ss_ret (se_and (se_def (sa_cons se_var sa_nil)) (se_chain le_ok le_ok se_var se_var se_var)))) h
end
end W3
namespace W3
open PySem PySem.Spec PyProof.Rows L2 M3
section
variable {P : Program} {w : World} {g : G} {mg : Str → Option Value} {base : Heap} {f_eBadForest f_eNoThing f_eBadThing f_iForest : Addr}
theorem ok_are_worths (D : M3.Def g.K mg "_are_worths" s_are_worths ["thing", "houses"]) (T : Txt mg) (Z : Fx g w mg f_eBadForest f_eNoThing f_eBadThing f_iForest) (C_is_integer : M3.Cal P w g.K mg base 1 "is_integer" ["thing"] (spM g.K 1 (mPure (m_is_integer g)))) : M3.Cal P w g.K mg base 2 "_are_worths" ["thing", "houses"] (spM g.K 2 (mPure (m_are_worths g))) := by
  refine M3.Cal.imp (D.cal (sp := (spM g.K 2 (m_are_worths g))) sc_are_worths (spM_len rfl) (fun f cdv A outer s H vs Q E hr h => ?_)) pure_ok
  exact body_all (N := ["thing", "houses", "worth"]) (E := E) ((pss_cons (ps_if (PW.pt (pw_or (pt_not (pt_val (pe_callB (call_isiM (K := g.K) rfl) (by rfl) T.n_isinstance (by decide +kernel) (pa_cons (pv 0) (pa_cons (pe_bltn (v := .ty "tuple") (by rfl) T.n_tuple (by decide +kernel) rfl) pa_nil))))) (pw_or1 (pt_cmpR (op_neM (K := g.K) rfl hr.units) (pe_callB (call_lenM (K := g.K) rfl) (by rfl) T.n_len PySem.boot_len (pa_cons (pv 0) pa_nil)) (pv 1) (nomark _))))) (pss_one (ps_ret pe_bl)) pss_nil)
      (pss_one (ps_ret (pe_callB (call_allM (K := g.K) rfl rfl) (by rfl) T.n_all (by decide +kernel) (pa_cons ((pe_lc (own := [("worth", 2)]) (g := (gName 2)) (tt := tYes) (by rfl) sc_are_worths.nd (pi_M (K := g.K) rfl (pv 0)) (blkOk_by (own := [("worth", 2)]) (N := ["thing", "houses", "worth"]) (sc := defScope s_are_worths) (by decide +kernel)) (fun _ _ _ _ _ => (pg_name (i := 2) sc_are_worths.nd rfl (Or.inl rfl))) (fun _ _ _ _ _ => pts_nil) (fun _ _ _ _ _ => (pcalF C_is_integer hr (by omega) rfl (pa_cons (pv 2) pa_nil))))) pa_nil))))))
    ((ss_seq (ss_ifS (st_or (st_not (st_tst (se_call (isi_ok Z.CSO) (sa_cons se_var (sa_cons se_con sa_nil))))) (st_test (se_op ne_ok (se_call len_ok (sa_cons se_var sa_nil)) se_var))) (ss_ret se_bl) ss_next)
      (ss_ret (se_call all_ok (sa_cons (se_frz (sl_lc (si_walk se_var) (sgv_name (by decide)) st_yes (se_defF (sa_cons se_var sa_nil)))) sa_nil))))) h
end
end W3
namespace W3
open PySem PySem.Spec PyProof.Rows L2 M3
section
variable {P : Program} {w : World} {g : G} {mg : Str → Option Value} {base : Heap} {f_eBadForest f_eNoThing f_eBadThing f_iForest : Addr}
theorem ok_read_behind_minus (D : M3.Def g.K mg "_read_behind_minus" s_read_behind_minus ["text", "place"]) (T : Txt mg) (Z : Fx g w mg f_eBadForest f_eNoThing f_eBadThing f_iForest) (C_end_of : M3.Cal P w g.K mg base 1 "_end_of" ["text", "place", "signs"] (spM g.K 3 (mPure (m_end_of g)))) : M3.Cal P w g.K mg base 2 "_read_behind_minus" ["text", "place"] (spM g.K 2 (mPure (m_read_behind_minus g))) := by
  obtain ⟨tk_FIGURES, h_FIGURES⟩ := T.c_FIGURES
  refine M3.Cal.imp (D.cal (sp := (spM g.K 2 (m_read_behind_minus g))) sc_read_behind_minus (spM_len rfl) (fun f cdv A outer s H vs Q E hr h => ?_)) pure_ok
  exact body_all (N := ["text", "place", "behind"]) (E := E) ((pss_cons (ps_set (i := 2) sc_read_behind_minus.nd rfl (Or.inl rfl) (pcal C_end_of hr (by omega) rfl (takes_of rfl rfl rfl rfl) (pa_cons (pv 0) (pa_cons (pv 1) (pa_cons (pe_glob (v := .str "0123456789") rfl h_FIGURES ⟨_, rfl⟩) pa_nil)))))
      (pss_cons (ps_if (PW.pt (pw_or (pt_cmpR (op_eqM (K := g.K) rfl hr.units) (pv 2) (pv 1) (nomark _)) (pw_or1 (pt_cmpR (op_eqM (K := g.K) rfl hr.units) (pe_ix (ix_M (K := g.K) rfl) (pv 0) (pv 1) (fun _ _ => rfl)) pe_str (nomark _))))) (pss_one (ps_ret (pe_tup (pa_cons pe_non (pa_cons (pv 1) pa_nil))))) pss_nil)
      (pss_one (ps_ret (pe_tup (pa_cons (pe_un un_neg (pe_callTy call_intT (by rfl) T.n_int (by decide +kernel) (pa_cons (pe_slice (sl_M (K := g.K) rfl) (pv 0) (po_some (pv 1)) (po_some (pv 2))) pa_nil))) (pa_cons (pv 2) pa_nil))))))))
    ((ss_seq (ss_asgG (se_def (sa_cons se_var (sa_cons se_var (sa_cons se_str sa_nil)))) sg_name)
      (ss_seq (ss_ifS (st_or (st_test (se_op eq_ok se_var se_var)) (st_test (se_op eq_ok (se_op ix_ok se_var se_var) se_str))) (ss_ret (se_tup (sa_cons se_non (sa_cons se_var sa_nil)))) ss_next)
      (ss_ret (se_tup (sa_cons (se_un neg_ok (se_call intT_ok (sa_cons (se_sl se_var (so_some se_var) (so_some se_var)) sa_nil))) (sa_cons se_var sa_nil))))))) h
end
end W3
namespace W3
open PySem PySem.Spec PyProof.Rows L2 M3
section
variable {P : Program} {w : World} {g : G} {mg : Str → Option Value} {base : Heap} {f_eBadForest f_eNoThing f_eBadThing f_iForest : Addr}
theorem ok_L_some (D : M3.Def g.K mg "_law_some" s_L_some ["hand", "things"]) (T : Txt mg) (Z : Fx g w mg f_eBadForest f_eNoThing f_eBadThing f_iForest) (C_L_draw : M3.Cal P w g.K mg base 1 "_law_draw" ["hand", "many"] (spM g.K 2 (mScope (m_L_draw g)))) : M3.Cal P w g.K mg base 2 "_law_some" ["hand", "things"] (spM g.K 2 (mScope (m_L_some g))) := by
  refine M3.Cal.imp (D.cal (sp := (spM g.K 2 (m_L_some g))) sc_L_some (spM_len rfl) (fun f cdv A outer s H vs Q E hr h => ?_)) scope_ok
  exact body_all (N := ["hand", "things"]) (E := E) ((pss_one (ps_ret (pe_ix (ix_M (K := g.K) rfl) (pv 1) (pcal C_L_draw hr (by omega) rfl (takes_of rfl rfl rfl rfl) (pa_cons (pv 0) (pa_cons (pe_callB (call_lenM (K := g.K) rfl) (by rfl) T.n_len PySem.boot_len (pa_cons (pv 1) pa_nil)) pa_nil))) (fun _ _ => rfl)))))
    ((ss_ret (se_op ix_ok se_var (se_def (sa_cons se_var (sa_cons (se_call len_ok (sa_cons se_var sa_nil)) sa_nil)))))) h
end
end W3
namespace W3
open PySem PySem.Spec PyProof.Rows L2 M3
section
variable {P : Program} {w : World} {g : G} {mg : Str → Option Value} {base : Heap} {f_eBadForest f_eNoThing f_eBadThing f_iForest : Addr}
theorem ok_L_read (D : M3.Def g.K mg "_law_read" s_L_read ["text"]) (T : Txt mg) (Z : Fx g w mg f_eBadForest f_eNoThing f_eBadThing f_iForest) (C_L_item : M3.Cal P w g.K mg base 1 "_law_item" ["word"] (spM g.K 1 (mPure (m_L_item g)))) (C_L_token : M3.Cal P w g.K mg base 1 "_law_token" ["text", "at"] (spM g.K 2 (mPure (m_L_token g)))) : M3.Cal P w g.K mg base 2 "_law_read" ["text"] (spM g.K 1 (mPure (m_L_read g))) := by
  refine M3.Cal.imp (D.cal (sp := (spM g.K 1 (m_L_read g))) sc_L_read (spM_len rfl) (fun f cdv A outer s H vs Q E hr h => ?_)) pure_ok
  exact body_all (N := ["text", "at", "stack", "due", "turn", "sign", "is_in", "row", "many"]) (E := E) ((pss_cons (ps_if (pt_not (pt_val (pe_callB (call_isiM (K := g.K) rfl) (by rfl) T.n_isinstance (by decide +kernel) (pa_cons (pv 0) (pa_cons (pe_bltn (v := .ty "str") (by rfl) T.n_str (by decide +kernel) rfl) pa_nil))))) (pss_one (ps_ret (pe_tup (pa_cons pe_str (pa_cons (pe_un un_neg pe_int) pa_nil))))) pss_nil)
      (pss_cons (ps_par3 (i := 1) (j := 2) (l := 3) (by rfl) sc_L_read.nd rfl rfl rfl (by decide) (by decide) (by decide) rfl rfl rfl (pa_cons pe_int (pa_cons ((pe_lst (pa_cons ((pe_lst pa_nil)) pa_nil))) (pa_cons pe_str pa_nil))) (by rfl))
      (pss_cons (ps_for (passes_of rfl) rfl (pi_range1 rfl T.n_range (pa_cons (pe_callB (call_lenM (K := g.K) rfl) (by rfl) T.n_len PySem.boot_len (pa_cons (pv 0) pa_nil)) pa_nil)) (pg_name (i := 4) sc_L_read.nd rfl (Or.inl rfl)) (pss_one (ps_if (pt_cmpR op_lt (pv 1) (pe_callB (call_lenM (K := g.K) rfl) (by rfl) T.n_len PySem.boot_len (pa_cons (pv 0) pa_nil)) (nomark _)) (pss_cons (ps_par (i := 5) (j := 6) (by rfl) sc_L_read.nd rfl rfl (by decide) rfl rfl (pa_cons (pe_ix (ix_M (K := g.K) rfl) (pv 0) (pv 1) (fun _ _ => rfl)) (pa_cons (pe_cmpR op_gt (pe_callB (call_lenM (K := g.K) rfl) (by rfl) T.n_len PySem.boot_len (pa_cons (pv 2) pa_nil)) pe_int (nomark _)) pa_nil)) (by rfl))
      (pss_one (ps_if (PW.pt (pw_and (pt_cmpR (op_eqM (K := g.K) rfl hr.units) (pv 5) pe_str (nomark _)) (pw_and (pt_val (pv 6)) (pw_and1 (pt_cmpR (op_neM (K := g.K) rfl hr.units) (pv 3) pe_str (nomark _)))))) (pss_cons (ps_set (i := 7) sc_L_read.nd rfl (Or.inl rfl) (pe_callTy (call_tupM (K := g.K) rfl) (by rfl) T.n_tuple (by decide +kernel) (pa_cons (pe_bm0K (K := g.K) rfl PySem.F.plainAttrs_list PySem.F.slot_list_pop PySem.F.type_list_pop mt_pop (pv 2)) pa_nil)))
      (pss_cons (ps_expr (pe_bmK (K := g.K) rfl PySem.F.plainAttrs_list PySem.F.slot_list_append PySem.F.type_list_append mt_append (pe_ix (ix_M (K := g.K) rfl) (pv 2) (pe_un un_neg pe_int) (fun _ _ => rfl)) (pa_cons (pv 7) pa_nil)))
      (pss_one (ps_par (i := 1) (j := 3) (by rfl) sc_L_read.nd rfl rfl (by decide) rfl rfl (pa_cons (pe_op (op_addM (K := g.K) rfl) (pv 1) pe_int) (pa_cons pe_str pa_nil)) (by rfl))))) (pss_one (ps_if (PW.pt (pw_and (pt_cmpR (op_eqM (K := g.K) rfl hr.units) (pv 5) pe_str (nomark _)) (pw_and (pt_val (pv 6)) (pw_and1 (pt_cmpR (op_eqM (K := g.K) rfl hr.units) (pv 3) pe_str (nomark _)))))) (pss_one (ps_par (i := 1) (j := 3) (by rfl) sc_L_read.nd rfl rfl (by decide) rfl rfl (pa_cons (pe_op (op_addM (K := g.K) rfl) (pv 1) pe_int) (pa_cons pe_str pa_nil)) (by rfl))) (pss_one (ps_if (PW.pt (pw_and (pt_cmpR (op_eqM (K := g.K) rfl hr.units) (pv 5) pe_str (nomark _)) (pw_and (pt_cmpR (op_neM (K := g.K) rfl hr.units) (pv 3) pe_str (nomark _)) (pw_and1 (pt_cmpR op_le (pe_callB (call_lenM (K := g.K) rfl) (by rfl) T.n_len PySem.boot_len (pa_cons (pv 2) pa_nil)) pe_int (nomark _)))))) (pss_cons (ps_expr (pe_bmK (K := g.K) rfl PySem.F.plainAttrs_list PySem.F.slot_list_append PySem.F.type_list_append mt_append (pv 2) (pa_cons ((pe_lst pa_nil)) pa_nil)))
      (pss_one (ps_par (i := 1) (j := 3) (by rfl) sc_L_read.nd rfl rfl (by decide) rfl rfl (pa_cons (pe_op (op_addM (K := g.K) rfl) (pv 1) pe_int) (pa_cons pe_str pa_nil)) (by rfl)))) (pss_cons (ps_set (i := 8) sc_L_read.nd rfl (Or.inl rfl) (pe_ifExp (pt_cmpR (op_neM (K := g.K) rfl hr.units) (pv 3) pe_str (nomark _)) (pcal C_L_token hr (by omega) rfl (takes_of rfl rfl rfl rfl) (pa_cons (pv 0) (pa_cons (pv 1) pa_nil))) pe_int))
      (pss_cons (ps_if (pt_cmpR (op_eqM (K := g.K) rfl hr.units) (pv 8) pe_int (nomark _)) (pss_one (ps_ret (pe_tup (pa_cons pe_str (pa_cons (pv 1) pa_nil))))) pss_nil)
      (pss_cons (ps_expr (pe_bmK (K := g.K) rfl PySem.F.plainAttrs_list PySem.F.slot_list_append PySem.F.type_list_append mt_append (pe_ix (ix_M (K := g.K) rfl) (pv 2) (pe_un un_neg pe_int) (fun _ _ => rfl)) (pa_cons (pcal C_L_item hr (by omega) rfl (takes_of rfl rfl rfl rfl) (pa_cons (pe_slice (sl_M (K := g.K) rfl) (pv 0) (po_some (pv 1)) (po_some (pe_op (op_addM (K := g.K) rfl) (pv 1) (pv 8)))) pa_nil)) pa_nil)))
      (pss_one (ps_par (i := 1) (j := 3) (by rfl) sc_L_read.nd rfl rfl (by decide) rfl rfl (pa_cons (pe_op (op_addM (K := g.K) rfl) (pv 1) (pv 8)) (pa_cons pe_str pa_nil)) (by rfl))))))))))))) pss_nil)))
      (pss_one (ps_ret (pe_ifExp (PW.pt (pw_and (pt_cmpR (op_eqM (K := g.K) rfl hr.units) (pv 3) pe_str (nomark _)) (pw_and1 (pt_cmpR (op_eqM (K := g.K) rfl hr.units) (pe_callB (call_lenM (K := g.K) rfl) (by rfl) T.n_len PySem.boot_len (pa_cons (pv 2) pa_nil)) pe_int (nomark _))))) (pe_tup (pa_cons pe_str (pa_cons (pe_ix (ix_M (K := g.K) rfl) (pe_ix (ix_M (K := g.K) rfl) (pv 2) pe_int (fun _ _ => rfl)) pe_int (fun _ _ => rfl)) pa_nil))) (pe_tup (pa_cons pe_str (pa_cons (pe_callB (call_lenM (K := g.K) rfl) (by rfl) T.n_len PySem.boot_len (pa_cons (pv 0) pa_nil)) pa_nil))))))))))
    ((ss_seq (ss_ifS (st_not (st_tst (se_call (isi_ok Z.CSO) (sa_cons se_var (sa_cons se_con sa_nil))))) (ss_ret (se_tup (sa_cons se_str (sa_cons (se_un neg_ok se_int) sa_nil)))) ss_next)
      (ss_seq (ss_par3 (sa_cons se_int (sa_cons (se_trk (sl_lst (sa_cons (se_trk (sl_lst sa_nil)) sa_nil))) (sa_cons se_str sa_nil))))
      (ss_seq (ss_for (si_rng1 (sa_cons (se_call len_ok (sa_cons se_var sa_nil)) sa_nil)) sg_name (ss_ifS (st_test (se_op lt_ok se_var (se_call len_ok (sa_cons se_var sa_nil)))) (ss_seq (ss_par (sa_cons (se_op ix_ok se_var se_var) (sa_cons (se_op gt_ok (se_call len_ok (sa_cons se_var sa_nil)) se_int) sa_nil)))
      (ss_ifS (st_and (st_test (se_op eq_ok se_var se_str)) (st_and (st_tst se_var) (st_test (se_op ne_ok se_var se_str)))) (ss_seq (ss_asgG (se_call tuple_ok (sa_cons (se_bm0 pop_ok se_var) sa_nil)) sg_name)
      (ss_seq (ss_drop (se_bm append_ok (se_op ix_ok se_var (se_un neg_ok se_int)) (sa_cons se_var sa_nil)))
      (ss_par (sa_cons (se_op add_ok se_var se_int) (sa_cons se_str sa_nil))))) (ss_ifS (st_and (st_test (se_op eq_ok se_var se_str)) (st_and (st_tst se_var) (st_test (se_op eq_ok se_var se_str)))) (ss_par (sa_cons (se_op add_ok se_var se_int) (sa_cons se_str sa_nil))) (ss_ifS (st_and (st_test (se_op eq_ok se_var se_str)) (st_and (st_test (se_op ne_ok se_var se_str)) (st_test (se_op le_ok (se_call len_ok (sa_cons se_var sa_nil)) se_int)))) (ss_seq (ss_drop (se_bm append_ok se_var (sa_cons (se_trk (sl_lst sa_nil)) sa_nil)))
      (ss_par (sa_cons (se_op add_ok se_var se_int) (sa_cons se_str sa_nil)))) (ss_seq (ss_asgG (se_if (st_test (se_op ne_ok se_var se_str)) (se_def (sa_cons se_var (sa_cons se_var sa_nil))) se_int) sg_name)
      (ss_seq (ss_ifS (st_test (se_op eq_ok se_var se_int)) (ss_ret (se_tup (sa_cons se_str (sa_cons se_var sa_nil)))) ss_next)
      (ss_seq (ss_drop (se_bm append_ok (se_op ix_ok se_var (se_un neg_ok se_int)) (sa_cons (se_def (sa_cons (se_sl se_var (so_some se_var) (so_some (se_op add_ok se_var se_var))) sa_nil)) sa_nil)))
      (ss_par (sa_cons (se_op add_ok se_var se_var) (sa_cons se_str sa_nil)))))))))) ss_next))
      (ss_ret (se_if (st_and (st_test (se_op eq_ok se_var se_str)) (st_test (se_op eq_ok (se_call len_ok (sa_cons se_var sa_nil)) se_int))) (se_tup (sa_cons se_str (sa_cons (se_op ix_ok (se_op ix_ok se_var se_int) se_int) sa_nil))) (se_tup (sa_cons se_str (sa_cons (se_call len_ok (sa_cons se_var sa_nil)) sa_nil))))))))) h
end
end W3
namespace W3
open PySem PySem.Spec PyProof.Rows L2 M3
section
variable {P : Program} {w : World} {g : G} {mg : Str → Option Value} {base : Heap} {f_eBadForest f_eNoThing f_eBadThing f_iForest : Addr}
theorem ok_is_house (D : M3.Def g.K mg "is_house" s_is_house ["many", "thing"]) (T : Txt mg) (Z : Fx g w mg f_eBadForest f_eNoThing f_eBadThing f_iForest) (C_is_between : M3.Cal P w g.K mg base 2 "is_between" ["least", "most", "thing"] (spM g.K 3 (mPure (m_is_between g)))) : M3.Cal P w g.K mg base 3 "is_house" ["many", "thing"] (spM g.K 2 (mPure (m_is_house g))) := by
  refine M3.Cal.imp (D.cal (sp := (spM g.K 2 (m_is_house g))) sc_is_house (spM_len rfl) (fun f cdv A outer s H vs Q E hr h => ?_)) pure_ok
  exact body_all (N := ["many", "thing"]) (E := E) ((pss_one (ps_ret (pcal C_is_between hr (by omega) rfl (takes_of rfl rfl rfl rfl) (pa_cons pe_int (pa_cons (pe_op op_sub (pv 0) pe_int) (pa_cons (pv 1) pa_nil)))))))
    ((ss_ret (se_def (sa_cons se_int (sa_cons (se_op sub_ok se_var se_int) (sa_cons se_var sa_nil)))))) h
end
end W3
namespace W3
open PySem PySem.Spec PyProof.Rows L2 M3
section
variable {P : Program} {w : World} {g : G} {mg : Str → Option Value} {base : Heap} {f_eBadForest f_eNoThing f_eBadThing f_iForest : Addr}
theorem ok_is_many (D : M3.Def g.K mg "is_many" s_is_many ["thing"]) (T : Txt mg) (Z : Fx g w mg f_eBadForest f_eNoThing f_eBadThing f_iForest) (C_is_between : M3.Cal P w g.K mg base 2 "is_between" ["least", "most", "thing"] (spM g.K 3 (mPure (m_is_between g)))) : M3.Cal P w g.K mg base 3 "is_many" ["thing"] (spM g.K 1 (mPure (m_is_many g))) := by
  obtain ⟨tk_MOST_HOUSES, h_MOST_HOUSES⟩ := T.c_MOST_HOUSES
  refine M3.Cal.imp (D.cal (sp := (spM g.K 1 (m_is_many g))) sc_is_many (spM_len rfl) (fun f cdv A outer s H vs Q E hr h => ?_)) pure_ok
  exact body_all (N := ["thing"]) (E := E) ((pss_one (ps_ret (pcal C_is_between hr (by omega) rfl (takes_of rfl rfl rfl rfl) (pa_cons pe_int (pa_cons (pe_glob (v := .int 64) rfl h_MOST_HOUSES ⟨_, rfl⟩) (pa_cons (pv 0) pa_nil)))))))
    ((ss_ret (se_def (sa_cons se_int (sa_cons se_int (sa_cons se_var sa_nil)))))) h
end
end W3
namespace W3
open PySem PySem.Spec PyProof.Rows L2 M3
section
variable {P : Program} {w : World} {g : G} {mg : Str → Option Value} {base : Heap} {f_eBadForest f_eNoThing f_eBadThing f_iForest : Addr}
theorem ok_L_nested (D : M3.Def g.K mg "_law_nested" s_L_nested ["hand", "most"]) (T : Txt mg) (Z : Fx g w mg f_eBadForest f_eNoThing f_eBadThing f_iForest) (C_L_draw : M3.Cal P w g.K mg base 1 "_law_draw" ["hand", "many"] (spM g.K 2 (mScope (m_L_draw g)))) (C_L_some : M3.Cal P w g.K mg base 2 "_law_some" ["hand", "things"] (spM g.K 2 (mScope (m_L_some g)))) : M3.Cal P w g.K mg base 3 "_law_nested" ["hand", "most"] (spM g.K 2 (mScope (m_L_nested g))) := by
  refine M3.Cal.imp (D.cal (sp := (spM g.K 2 (m_L_nested g))) sc_L_nested (spM_len rfl) (fun f cdv A outer s H vs Q E hr h => ?_)) scope_ok
  exact body_all (N := ["hand", "most", "thing", "turn"]) (E := E) ((pss_cons (ps_set (i := 2) sc_L_nested.nd rfl (Or.inl rfl) (pcal C_L_some hr (by omega) rfl (takes_of rfl rfl rfl rfl) (pa_cons (pv 0) (pa_cons ((pe_lst (pa_cons (pe_tup pa_nil) (pa_cons (pe_tup pa_nil) (pa_cons pe_int (pa_cons pe_str (pa_cons pe_non pa_nil))))))) pa_nil))))
      (pss_cons (ps_for (passes_of rfl) rfl (pi_range1 rfl T.n_range (pa_cons (pe_op op_sub (pe_op op_sub (pv 1) pe_int) (pcal C_L_draw hr (by omega) rfl (takes_of rfl rfl rfl rfl) (pa_cons (pv 0) (pa_cons pe_int pa_nil)))) pa_nil)) (pg_name (i := 3) sc_L_nested.nd rfl (Or.inl rfl)) (pss_one (ps_set (i := 2) sc_L_nested.nd rfl (Or.inl rfl) (pcal C_L_some hr (by omega) rfl (takes_of rfl rfl rfl rfl) (pa_cons (pv 0) (pa_cons ((pe_lst (pa_cons (pe_tup (pa_cons (pv 2) pa_nil)) (pa_cons (pe_tup (pa_cons (pv 2) (pa_cons pe_int pa_nil))) (pa_cons (pe_tup (pa_cons pe_non (pa_cons (pv 2) pa_nil))) pa_nil))))) pa_nil))))))
      (pss_one (ps_ret (pv 2))))))
    ((ss_seq (ss_asgG (se_def (sa_cons se_var (sa_cons (se_frz (sl_lst (sa_cons (se_tup sa_nil) (sa_cons (se_tup sa_nil) (sa_cons se_int (sa_cons se_str (sa_cons se_non sa_nil))))))) sa_nil))) sg_name)
      (ss_seq (ss_for (si_rng1 (sa_cons (se_op sub_ok (se_op sub_ok se_var se_int) (se_def (sa_cons se_var (sa_cons se_int sa_nil)))) sa_nil)) sg_name (ss_asgG (se_def (sa_cons se_var (sa_cons (se_frz (sl_lst (sa_cons (se_tup (sa_cons se_var sa_nil)) (sa_cons (se_tup (sa_cons se_var (sa_cons se_int sa_nil))) (sa_cons (se_tup (sa_cons se_non (sa_cons se_var sa_nil))) sa_nil))))) sa_nil))) sg_name))
      (ss_ret se_var)))) h
end
end W3
namespace W3
open PySem PySem.Spec PyProof.Rows L2 M3
section
variable {P : Program} {w : World} {g : G} {mg : Str → Option Value} {base : Heap} {f_eBadForest f_eNoThing f_eBadThing f_iForest : Addr}
theorem ok_L_spoilt (D : M3.Def g.K mg "_law_spoilt" s_L_spoilt ["hand", "text"]) (T : Txt mg) (Z : Fx g w mg f_eBadForest f_eNoThing f_eBadThing f_iForest) (C_L_some : M3.Cal P w g.K mg base 2 "_law_some" ["hand", "things"] (spM g.K 2 (mScope (m_L_some g)))) (C_L_draw : M3.Cal P w g.K mg base 1 "_law_draw" ["hand", "many"] (spM g.K 2 (mScope (m_L_draw g)))) : M3.Cal P w g.K mg base 3 "_law_spoilt" ["hand", "text"] (spM g.K 2 (mScope (m_L_spoilt g))) := by
  refine M3.Cal.imp (D.cal (sp := (spM g.K 2 (m_L_spoilt g))) sc_L_spoilt (spM_len rfl) (fun f cdv A outer s H vs Q E hr h => ?_)) scope_ok
  exact body_all (N := ["hand", "text", "at", "way", "signs", "sign"]) (E := E) ((pss_cons (ps_par (i := 2) (j := 3) (by rfl) sc_L_spoilt.nd rfl rfl (by decide) rfl rfl (pa_cons (pcal C_L_draw hr (by omega) rfl (takes_of rfl rfl rfl rfl) (pa_cons (pv 0) (pa_cons (pe_op (op_addM (K := g.K) rfl) (pe_callB (call_lenM (K := g.K) rfl) (by rfl) T.n_len PySem.boot_len (pa_cons (pv 1) pa_nil)) pe_int) pa_nil))) (pa_cons (pcal C_L_draw hr (by omega) rfl (takes_of rfl rfl rfl rfl) (pa_cons (pv 0) (pa_cons pe_int pa_nil))) pa_nil)) (by rfl))
      (pss_cons (ps_set (i := 4) sc_L_spoilt.nd rfl (Or.inl rfl) ((pe_lst (pa_cons pe_str (pa_cons pe_str (pa_cons pe_str (pa_cons pe_str (pa_cons pe_str (pa_cons pe_str (pa_cons pe_str (pa_cons pe_str (pa_cons pe_str (pa_cons pe_str (pa_cons pe_str (pa_cons pe_str (pa_cons pe_str (pa_cons pe_str (pa_cons pe_str (pa_cons pe_str (pa_cons (pe_op op_mulS pe_str pe_int) (pa_cons (pe_op op_mulS pe_str pe_int) pa_nil)))))))))))))))))))))
      (pss_cons (ps_set (i := 5) sc_L_spoilt.nd rfl (Or.inl rfl) (pcal C_L_some hr (by omega) rfl (takes_of rfl rfl rfl rfl) (pa_cons (pv 0) (pa_cons (pv 4) pa_nil))))
      (pss_cons (ps_if (pt_cmpR op_lt (pv 3) pe_int (nomark _)) (pss_one (ps_ret (pe_op (op_addM (K := g.K) rfl) (pe_op (op_addM (K := g.K) rfl) (pe_slice (sl_M (K := g.K) rfl) (pv 1) po_none (po_some (pv 2))) (pv 5)) (pe_slice (sl_M (K := g.K) rfl) (pv 1) (po_some (pv 2)) po_none)))) pss_nil)
      (pss_cons (ps_if (pt_cmpR op_lt (pv 3) pe_int (nomark _)) (pss_one (ps_ret (pe_op (op_addM (K := g.K) rfl) (pe_slice (sl_M (K := g.K) rfl) (pv 1) po_none (po_some (pv 2))) (pe_slice (sl_M (K := g.K) rfl) (pv 1) (po_some (pe_op (op_addM (K := g.K) rfl) (pv 2) pe_int)) po_none)))) pss_nil)
      (pss_one (ps_ret (pe_ifExp (pt_cmpR (op_eqM (K := g.K) rfl hr.units) (pv 3) pe_int (nomark _)) (pe_op (op_addM (K := g.K) rfl) (pe_op (op_addM (K := g.K) rfl) (pe_slice (sl_M (K := g.K) rfl) (pv 1) po_none (po_some (pv 2))) (pv 5)) (pe_slice (sl_M (K := g.K) rfl) (pv 1) (po_some (pe_op (op_addM (K := g.K) rfl) (pv 2) pe_int)) po_none)) (pe_slice (sl_M (K := g.K) rfl) (pv 1) po_none (po_some (pv 2))))))))))))
    ((ss_seq (ss_par (sa_cons (se_def (sa_cons se_var (sa_cons (se_op add_ok (se_call len_ok (sa_cons se_var sa_nil)) se_int) sa_nil))) (sa_cons (se_def (sa_cons se_var (sa_cons se_int sa_nil))) sa_nil)))
      (ss_seq (ss_asgG (se_frz (sl_lst (sa_cons se_str (sa_cons se_str (sa_cons se_str (sa_cons se_str (sa_cons se_str (sa_cons se_str (sa_cons se_str (sa_cons se_str (sa_cons se_str (sa_cons se_str (sa_cons se_str (sa_cons se_str (sa_cons se_str (sa_cons se_str (sa_cons se_str (sa_cons se_str (sa_cons (se_op mulS_ok se_str se_int) (sa_cons (se_op mulS_ok se_str se_int) sa_nil)))))))))))))))))))) sg_name)
      (ss_seq (ss_asgG (se_def (sa_cons se_var (sa_cons se_var sa_nil))) sg_name)
      (ss_seq (ss_ifS (st_test (se_op lt_ok se_var se_int)) (ss_ret (se_op add_ok (se_op add_ok (se_sl se_var so_none (so_some se_var)) se_var) (se_sl se_var (so_some se_var) so_none))) ss_next)
      (ss_seq (ss_ifS (st_test (se_op lt_ok se_var se_int)) (ss_ret (se_op add_ok (se_sl se_var so_none (so_some se_var)) (se_sl se_var (so_some (se_op add_ok se_var se_int)) so_none))) ss_next)
      (ss_ret (se_if (st_test (se_op eq_ok se_var se_int)) (se_op add_ok (se_op add_ok (se_sl se_var so_none (so_some se_var)) se_var) (se_sl se_var (so_some (se_op add_ok se_var se_int)) so_none)) (se_sl se_var so_none (so_some se_var)))))))))) h
end
end W3
namespace W3
open PySem PySem.Spec PyProof.Rows L2 M3
section
variable {P : Program} {w : World} {g : G} {mg : Str → Option Value} {base : Heap} {f_eBadForest f_eNoThing f_eBadThing f_iForest : Addr}
theorem ok_are_parents (D : M3.Def g.K mg "_are_parents" s_are_parents ["thing"]) (T : Txt mg) (Z : Fx g w mg f_eBadForest f_eNoThing f_eBadThing f_iForest) (C_come_to_roots : M3.Cal P w g.K mg base 1 "come_to_roots" ["parents"] (spM g.K 1 (mPure (m_come_to_roots g)))) (C_is_house : M3.Cal P w g.K mg base 3 "is_house" ["many", "thing"] (spM g.K 2 (mPure (m_is_house g)))) (C_is_many : M3.Cal P w g.K mg base 3 "is_many" ["thing"] (spM g.K 1 (mPure (m_is_many g)))) : M3.Cal P w g.K mg base 4 "_are_parents" ["thing"] (spM g.K 1 (mPure (m_are_parents g))) := by
  refine M3.Cal.imp (D.cal (sp := (spM g.K 1 (m_are_parents g))) sc_are_parents (spM_len rfl) (fun f cdv A outer s H vs Q E hr h => ?_)) pure_ok
  exact body_all (N := ["thing", "parent"]) (E := E) ((pss_cons (ps_if (PW.pt (pw_or (pt_not (pt_val (pe_callB (call_isiM (K := g.K) rfl) (by rfl) T.n_isinstance (by decide +kernel) (pa_cons (pv 0) (pa_cons (pe_bltn (v := .ty "tuple") (by rfl) T.n_tuple (by decide +kernel) rfl) pa_nil))))) (pw_or1 (pt_not (pt_val (pcal C_is_many hr (by omega) rfl (takes_of rfl rfl rfl rfl) (pa_cons (pe_callB (call_lenM (K := g.K) rfl) (by rfl) T.n_len PySem.boot_len (pa_cons (pv 0) pa_nil)) pa_nil))))))) (pss_one (ps_ret pe_bl)) pss_nil)
      (pss_cons (ps_if (pt_not (pt_val (pe_callB (call_allM (K := g.K) rfl rfl) (by rfl) T.n_all (by decide +kernel) (pa_cons ((pe_lc (own := [("parent", 1)]) (g := (gName 1)) (tt := tYes) (by rfl) sc_are_parents.nd (pi_M (K := g.K) rfl (pv 0)) (blkOk_by (own := [("parent", 1)]) (N := ["thing", "parent"]) (sc := defScope s_are_parents) (by decide +kernel)) (fun _ _ _ _ _ => (pg_name (i := 1) sc_are_parents.nd rfl (Or.inl rfl))) (fun _ _ _ _ _ => pts_nil) (fun _ _ _ _ _ => (pe_or (pe_cmpR op_isN (pv 1) pe_non (nomark _)) (pe_one (pcalF C_is_house hr (by omega) rfl (pa_cons (pe_callB (call_lenM (K := g.K) rfl) (by rfl) T.n_len PySem.boot_len (pa_cons (pv 0) pa_nil)) (pa_cons (pv 1) pa_nil)))))))) pa_nil)))) (pss_one (ps_ret pe_bl)) pss_nil)
      (pss_one (ps_ret (pcal C_come_to_roots hr (by omega) rfl (takes_of rfl rfl rfl rfl) (pa_cons (pv 0) pa_nil)))))))
    ((ss_seq (ss_ifS (st_or (st_not (st_tst (se_call (isi_ok Z.CSO) (sa_cons se_var (sa_cons se_con sa_nil))))) (st_not (st_tst (se_def (sa_cons (se_call len_ok (sa_cons se_var sa_nil)) sa_nil))))) (ss_ret se_bl) ss_next)
      (ss_seq (ss_ifS (st_not (st_tst (se_call all_ok (sa_cons (se_frz (sl_lc (si_walk se_var) (sgv_name (by decide)) st_yes (se_or (se_op isN_okR se_var se_non) (se_defF (sa_cons (se_call len_ok (sa_cons se_var sa_nil)) (sa_cons se_var sa_nil)))))) sa_nil)))) (ss_ret se_bl) ss_next)
      (ss_ret (se_def (sa_cons se_var sa_nil)))))) h
end
end W3
namespace W3
open PySem PySem.Spec PyProof.Rows L2 M3
section
variable {P : Program} {w : World} {g : G} {mg : Str → Option Value} {base : Heap} {f_eBadForest f_eNoThing f_eBadThing f_iForest : Addr}
theorem ok_read_parts (D : M3.Def g.K mg "_read_parts" s_read_parts ["text", "place", "deep"]) (T : Txt mg) (Z : Fx g w mg f_eBadForest f_eNoThing f_eBadThing f_iForest) (k : Nat) (f : List M3.D → Store → M3.R M3.D) (hk : 1 ≤ k) (C_read_thing_at : M3.Cal P w g.K mg base k "_read_thing_at" ["text", "place", "deep"] (spM g.K 3 (mPure f))) : M3.Cal P w g.K mg base (k + 1) "_read_parts" ["text", "place", "deep"] (spM g.K 3 (mPure (m_read_parts g f))) := by
  refine M3.Cal.imp (D.cal (k := k) (sp := (spM g.K 3 (m_read_parts g f))) sc_read_parts (spM_len rfl) (fun f' cdv A outer s H vs Q E hr h => ?_)) pure_ok
  exact body_all (N := ["text", "place", "deep", "parts", "sign", "part", "behind"]) (E := E) ((pss_cons (ps_if (pt_cmpR (op_eqM (K := g.K) rfl hr.units) (pe_slice (sl_M (K := g.K) rfl) (pv 0) (po_some (pv 1)) (po_some (pe_op (op_addM (K := g.K) rfl) (pv 1) pe_int))) pe_str (nomark _)) (pss_one (ps_ret (pe_tup (pa_cons (pe_tup pa_nil) (pa_cons (pe_op (op_addM (K := g.K) rfl) (pv 1) pe_int) pa_nil))))) pss_nil)
      (pss_cons (ps_set (i := 3) sc_read_parts.nd rfl (Or.inl rfl) (pe_lst pa_nil))
      (pss_cons (ps_set (i := 4) sc_read_parts.nd rfl (Or.inl rfl) pe_str)
      (pss_cons (ps_while (passes_of rfl) (pt_cmpR (op_eqM (K := g.K) rfl hr.units) (pv 4) pe_str (nomark _)) (pss_cons (ps_asg (pcal C_read_thing_at hr (by omega) rfl (takes_of rfl rfl rfl rfl) (pa_cons (pv 0) (pa_cons (pv 1) (pa_cons (pv 2) pa_nil)))) (pg_tup rfl (pgs_cons (pg_name (i := 5) sc_read_parts.nd rfl (Or.inl rfl)) (pgs_cons (pg_name (i := 6) sc_read_parts.nd rfl (Or.inl rfl)) pgs_nil))))
      (pss_cons (ps_expr (pe_bmK (K := g.K) rfl PySem.F.plainAttrs_list PySem.F.slot_list_append PySem.F.type_list_append mt_append (pv 3) (pa_cons (pv 5) pa_nil)))
      (pss_cons (ps_set (i := 4) sc_read_parts.nd rfl (Or.inl rfl) (pe_slice (sl_M (K := g.K) rfl) (pv 0) (po_some (pv 6)) (po_some (pe_op (op_addM (K := g.K) rfl) (pv 6) pe_int))))
      (pss_one (ps_set (i := 1) sc_read_parts.nd rfl (Or.inl rfl) (pe_op (op_addM (K := g.K) rfl) (pv 6) pe_int)))))))
      (pss_cons (ps_if (pt_cmpR (op_neM (K := g.K) rfl hr.units) (pv 4) pe_str (nomark _)) (pss_one (ps_raise_BadThing rfl Z.BadThing hr (takes_of rfl rfl rfl rfl) (pa_cons (pe_op op_sub (pv 1) pe_int) pa_nil))) pss_nil)
      (pss_one (ps_ret (pe_tup (pa_cons (pe_callTy (call_tupM (K := g.K) rfl) (by rfl) T.n_tuple (by decide +kernel) (pa_cons (pv 3) pa_nil)) (pa_cons (pv 1) pa_nil)))))))))))
    ((ss_seq (ss_ifS (st_test (se_op eq_ok (se_sl se_var (so_some se_var) (so_some (se_op add_ok se_var se_int))) se_str)) (ss_ret (se_tup (sa_cons (se_tup sa_nil) (sa_cons (se_op add_ok se_var se_int) sa_nil)))) ss_next)
      (ss_seq (ss_asgG (se_trk (sl_lst sa_nil)) sg_name)
      (ss_seq (ss_asgG se_str sg_name)
      (ss_seq (ss_while (st_test (se_op eq_ok se_var se_str)) (ss_seq (ss_asgG (se_def (sa_cons se_var (sa_cons se_var (sa_cons se_var sa_nil)))) (sg_tup (sgs_cons (fun _ _ => rfl) sg_name (sgs_cons (fun _ _ => rfl) sg_name sgs_nil))))
      (ss_seq (ss_drop (se_bm append_ok se_var (sa_cons se_var sa_nil)))
      (ss_seq (ss_asgG (se_sl se_var (so_some se_var) (so_some (se_op add_ok se_var se_int))) sg_name)
      (ss_asgG (se_op add_ok se_var se_int) sg_name)))))
      (ss_seq (ss_ifS (st_test (se_op ne_ok se_var se_str)) (ss_raise1 (sa_cons (se_op sub_ok se_var se_int) sa_nil)) ss_next)
      (ss_ret (se_tup (sa_cons (se_call tuple_ok (sa_cons se_var sa_nil)) (sa_cons se_var sa_nil)))))))))) h
theorem ok_read_thing_at (D : M3.Def g.K mg "_read_thing_at" s_read_thing_at ["text", "place", "deep"]) (T : Txt mg) (Z : Fx g w mg f_eBadForest f_eNoThing f_eBadThing f_iForest) (C_end_of : M3.Cal P w g.K mg base 1 "_end_of" ["text", "place", "signs"] (spM g.K 3 (mPure (m_end_of g)))) (C_read_behind_minus : M3.Cal P w g.K mg base 2 "_read_behind_minus" ["text", "place"] (spM g.K 2 (mPure (m_read_behind_minus g)))) (D_read_parts : M3.Def g.K mg "_read_parts" s_read_parts ["text", "place", "deep"]) : ∀ d : Nat, M3.Cal P w g.K mg base (3 + 2 * d) "_read_thing_at" ["text", "place", "deep"] (spM g.K 3 (mPure (m_read_thing_at g d))) := by
  obtain ⟨tk_LETTERS, h_LETTERS⟩ := T.c_LETTERS
  obtain ⟨tk_FIGURES, h_FIGURES⟩ := T.c_FIGURES
  intro d
  induction d with
  | zero =>
    obtain ⟨f, fd, F, hm, b⟩ := D.ex
    exact M3.Cal.imp (sp := (spM g.K 3 (m_read_thing_at g 0))) ⟨f, fd, ⟨spM_len rfl, fun A outer s H args us vs Q E _ _ _ _ h => (spM_fail h).elim⟩, hm, F.kp, b⟩ pure_ok
  | succ d C_read_thing_at =>
    have C_read_parts := ok_read_parts (P := P) (w := w) (base := base) D_read_parts T Z (3 + 2 * d) (m_read_thing_at g d) (by omega) C_read_thing_at
    refine M3.Cal.imp (D.cal (k := 3 + 2 * d + 1) (sp := (spM g.K 3 (m_read_thing_at g (d + 1)))) sc_read_thing_at (spM_len rfl) (fun f cdv A outer s H vs Q E hr h => ?_)) pure_ok
    exact body_all (N := ["text", "place", "deep", "sign", "behind", "word"]) (E := E) ((pss_cons (ps_set (i := 3) sc_read_thing_at.nd rfl (Or.inl rfl) (pe_slice (sl_M (K := g.K) rfl) (pv 0) (po_some (pv 1)) (po_some (pe_op (op_addM (K := g.K) rfl) (pv 1) pe_int))))
      (pss_cons (ps_if (PW.pt (pw_and (pt_cmpR (op_eqM (K := g.K) rfl hr.units) (pv 3) pe_str (nomark _)) (pw_and1 (pt_cmpR op_gt (pv 2) pe_int (nomark _))))) (pss_one (ps_ret (pcal C_read_parts hr (by omega) rfl (takes_of rfl rfl rfl rfl) (pa_cons (pv 0) (pa_cons (pe_op (op_addM (K := g.K) rfl) (pv 1) pe_int) (pa_cons (pe_op op_sub (pv 2) pe_int) pa_nil)))))) pss_nil)
      (pss_cons (ps_if (pt_cmpR (op_eqM (K := g.K) rfl hr.units) (pv 3) pe_str (nomark _)) (pss_one (ps_ret (pcal C_read_behind_minus hr (by omega) rfl (takes_of rfl rfl rfl rfl) (pa_cons (pv 0) (pa_cons (pe_op (op_addM (K := g.K) rfl) (pv 1) pe_int) pa_nil))))) pss_nil)
      (pss_cons (ps_if (pt_cmpR (op_eqM (K := g.K) rfl hr.units) (pv 3) pe_str (nomark _)) (pss_one (ps_ret (pe_tup (pa_cons pe_int (pa_cons (pe_op (op_addM (K := g.K) rfl) (pv 1) pe_int) pa_nil))))) pss_nil)
      (pss_cons (ps_set (i := 4) sc_read_thing_at.nd rfl (Or.inl rfl) (pcal C_end_of hr (by omega) rfl (takes_of rfl rfl rfl rfl) (pa_cons (pv 0) (pa_cons (pv 1) (pa_cons (pe_glob (v := .str "0123456789") rfl h_FIGURES ⟨_, rfl⟩) pa_nil)))))
      (pss_cons (ps_if (pt_cmpR op_gt (pv 4) (pv 1) (nomark _)) (pss_one (ps_ret (pe_tup (pa_cons (pe_callTy call_intT (by rfl) T.n_int (by decide +kernel) (pa_cons (pe_slice (sl_M (K := g.K) rfl) (pv 0) (po_some (pv 1)) (po_some (pv 4))) pa_nil)) (pa_cons (pv 4) pa_nil))))) pss_nil)
      (pss_cons (ps_set (i := 4) sc_read_thing_at.nd rfl (Or.inl rfl) (pcal C_end_of hr (by omega) rfl (takes_of rfl rfl rfl rfl) (pa_cons (pv 0) (pa_cons (pv 1) (pa_cons (pe_glob (v := .str "abcdefghijklmnopqrstuvwxyz") rfl h_LETTERS ⟨_, rfl⟩) pa_nil)))))
      (pss_cons (ps_if (pt_cmpR (op_eqM (K := g.K) rfl hr.units) (pv 4) (pv 1) (nomark _)) (pss_one (ps_raise_BadThing rfl Z.BadThing hr (takes_of rfl rfl rfl rfl) (pa_cons (pv 1) pa_nil))) pss_nil)
      (pss_cons (ps_set (i := 5) sc_read_thing_at.nd rfl (Or.inl rfl) (pe_slice (sl_M (K := g.K) rfl) (pv 0) (po_some (pv 1)) (po_some (pv 4))))
      (pss_one (ps_ret (pe_tup (pa_cons (pe_getT2 (K := g.K) rfl rfl Z.FLAGS.1 Z.FLAGS.2 (pv 5) (pv 5) ⟨rfl, rfl, rfl, rfl⟩) (pa_cons (pv 4) pa_nil)))))))))))))))
      ((ss_seq (ss_asgG (se_sl se_var (so_some se_var) (so_some (se_op add_ok se_var se_int))) sg_name)
      (ss_seq (ss_ifS (st_and (st_test (se_op eq_ok se_var se_str)) (st_test (se_op gt_ok se_var se_int))) (ss_ret (se_def (sa_cons se_var (sa_cons (se_op add_ok se_var se_int) (sa_cons (se_op sub_ok se_var se_int) sa_nil))))) ss_next)
      (ss_seq (ss_ifS (st_test (se_op eq_ok se_var se_str)) (ss_ret (se_def (sa_cons se_var (sa_cons (se_op add_ok se_var se_int) sa_nil)))) ss_next)
      (ss_seq (ss_ifS (st_test (se_op eq_ok se_var se_str)) (ss_ret (se_tup (sa_cons se_int (sa_cons (se_op add_ok se_var se_int) sa_nil)))) ss_next)
      (ss_seq (ss_asgG (se_def (sa_cons se_var (sa_cons se_var (sa_cons se_str sa_nil)))) sg_name)
      (ss_seq (ss_ifS (st_test (se_op gt_ok se_var se_var)) (ss_ret (se_tup (sa_cons (se_call intT_ok (sa_cons (se_sl se_var (so_some se_var) (so_some se_var)) sa_nil)) (sa_cons se_var sa_nil)))) ss_next)
      (ss_seq (ss_asgG (se_def (sa_cons se_var (sa_cons se_var (sa_cons se_str sa_nil)))) sg_name)
      (ss_seq (ss_ifS (st_test (se_op eq_ok se_var se_var)) (ss_raise1 (sa_cons se_var sa_nil)) ss_next)
      (ss_seq (ss_asgG (se_sl se_var (so_some se_var) (so_some se_var)) sg_name)
      (ss_ret (se_tup (sa_cons (se_getT2 se_var se_var) (sa_cons se_var sa_nil)))))))))))))) h
end
end W3
namespace W3
open PySem PySem.Spec PyProof.Rows L2 M3
section
variable {P : Program} {w : World} {g : G} {mg : Str → Option Value} {base : Heap} {f_eBadForest f_eNoThing f_eBadThing f_iForest : Addr}
theorem ok_read_thing (D : M3.Def g.K mg "read_thing" s_read_thing ["text"]) (T : Txt mg) (Z : Fx g w mg f_eBadForest f_eNoThing f_eBadThing f_iForest) (C_read_thing_at : M3.Cal P w g.K mg base 45 "_read_thing_at" ["text", "place", "deep"] (spM g.K 3 (mPure (m_read_thing_at g 21)))) : M3.Cal P w g.K mg base 46 "read_thing" ["text"] (spM g.K 1 (mPure (m_read_thing g))) := by
  obtain ⟨tk_MOST_DEEP, h_MOST_DEEP⟩ := T.c_MOST_DEEP
  refine M3.Cal.imp (D.cal (sp := (spM g.K 1 (m_read_thing g))) sc_read_thing (spM_len rfl) (fun f cdv A outer s H vs Q E hr h => ?_)) pure_ok
  exact body_all (N := ["text", "thing", "behind"]) (E := E) ((pss_cons (ps_if (pt_not (pt_val (pe_callB (call_isiM (K := g.K) rfl) (by rfl) T.n_isinstance (by decide +kernel) (pa_cons (pv 0) (pa_cons (pe_bltn (v := .ty "str") (by rfl) T.n_str (by decide +kernel) rfl) pa_nil))))) (pss_one (ps_raise_BadThing rfl Z.BadThing hr (takes_of rfl rfl rfl rfl) (pa_cons (pe_un un_neg pe_int) pa_nil))) pss_nil)
      (pss_cons (ps_asg (pcal C_read_thing_at hr (by omega) rfl (takes_of rfl rfl rfl rfl) (pa_cons (pv 0) (pa_cons pe_int (pa_cons (pe_glob (v := .int 20) rfl h_MOST_DEEP ⟨_, rfl⟩) pa_nil)))) (pg_tup rfl (pgs_cons (pg_name (i := 1) sc_read_thing.nd rfl (Or.inl rfl)) (pgs_cons (pg_name (i := 2) sc_read_thing.nd rfl (Or.inl rfl)) pgs_nil))))
      (pss_cons (ps_if (pt_cmpR op_lt (pv 2) (pe_callB (call_lenM (K := g.K) rfl) (by rfl) T.n_len PySem.boot_len (pa_cons (pv 0) pa_nil)) (nomark _)) (pss_one (ps_raise_BadThing rfl Z.BadThing hr (takes_of rfl rfl rfl rfl) (pa_cons (pv 2) pa_nil))) pss_nil)
      (pss_one (ps_ret (pv 1)))))))
    ((ss_seq (ss_ifS (st_not (st_tst (se_call (isi_ok Z.CSO) (sa_cons se_var (sa_cons se_con sa_nil))))) (ss_raise1 (sa_cons (se_un neg_ok se_int) sa_nil)) ss_next)
      (ss_seq (ss_asgG (se_def (sa_cons se_var (sa_cons se_int (sa_cons se_int sa_nil)))) (sg_tup (sgs_cons (fun _ _ => rfl) sg_name (sgs_cons (fun _ _ => rfl) sg_name sgs_nil))))
      (ss_seq (ss_ifS (st_test (se_op lt_ok se_var (se_call len_ok (sa_cons se_var sa_nil)))) (ss_raise1 (sa_cons se_var sa_nil)) ss_next)
      (ss_ret se_var))))) h
end
end W3
namespace W3
open PySem PySem.Spec PyProof.Rows L2 M3
section
variable {P : Program} {w : World} {g : G} {mg : Str → Option Value} {base : Heap} {f_eBadForest f_eNoThing f_eBadThing f_iForest : Addr}
theorem ok_L_told (D : M3.Def g.K mg "_law_told" s_L_told ["text"]) (T : Txt mg) (Z : Fx g w mg f_eBadForest f_eNoThing f_eBadThing f_iForest) (C_read_thing : M3.Cal P w g.K mg base 46 "read_thing" ["text"] (spM g.K 1 (mPure (m_read_thing g)))) : M3.Cal P w g.K mg base 47 "_law_told" ["text"] (spM g.K 1 (mPure (m_L_told g))) := by
  refine M3.Cal.imp (D.cal (sp := (spM g.K 1 (m_L_told g))) sc_L_told (spM_len rfl) (fun f cdv A outer s H vs Q E hr h => ?_)) pure_ok
  exact body_all (N := ["text", "found", "e"]) (E := E) ((pss_cons (ps_set (i := 1) sc_L_told.nd rfl (Or.inl rfl) (pe_tup (pa_cons pe_str (pa_cons pe_non pa_nil))))
      (pss_cons (ps_tryA (i := 2) (ts := tIsQ g.K g.BadThing (.ref g.ForestError) (.ty "ValueError") 2 1 (fun a d => tTup (tCons (tC (.str "bad")) (tCons (tBy_BadThing g.BadThing a (.ref g.BadThing) d (tVar 2)) tNil)))) rfl rfl sc_L_told.nd rfl rfl ⟨rfl, by decide, Or.inl Z.BadThing.gC⟩ (takes_of rfl rfl rfl rfl) (fun W pn xe tk po => (pss_one (ps_set (i := 1) sc_L_told.nd rfl (Or.inl rfl) (pe_tup (pa_cons pe_str (pa_cons (pcal C_read_thing hr (by omega) rfl tk (pa_cons (pv 0) pa_nil)) pa_nil)))))) (pss_isQ fun a oe d pn hz hf => pss_one (ps_set (i := 1) sc_L_told.nd rfl (Or.inl rfl) (pe_ifExp (PW.pt (pw_and (pt_val (pe_callB (id := "isinstance") (call_isEd (K := g.K) (D := g.BadThing) (d := d) rfl Z.xc_BadThing hz hf) (by rfl) T.n_isinstance (by decide +kernel) (pa_cons (pv 2) (pa_cons (pe_glob (v := .ref g.ForestError) rfl Z.ForestError rfl) pa_nil)))) (pw_and1 (pt_val (pe_callB (id := "isinstance") (call_isEd (K := g.K) (D := g.BadThing) (d := d) rfl Z.xc_BadThing hz hf) (by rfl) T.n_isinstance (by decide +kernel) (pa_cons (pv 2) (pa_cons (pe_bltn (v := .ty "ValueError") (by rfl) T.n_ValueError (by decide +kernel) rfl) pa_nil))))))) (pe_tup (pa_cons pe_str (pa_cons (by exact (pe_by_BadThing Z.BadThing hz hf (pv 2))) pa_nil))) (pv 1)))))
      (pss_one (ps_ret (pv 1))))))
    ((ss_seq (ss_asgG (se_tup (sa_cons se_str (sa_cons se_non sa_nil))) sg_name)
      (ss_seq (ss_tryIs (fun W' => (ss_asgG (se_tup (sa_cons se_str (sa_cons (se_def (sa_cons se_var sa_nil)) sa_nil))) sg_name)) (fun _ r => r) (fun _ r => r) (isQ_fld (C0 := g.BadThing) (tby := fun a d => tBy_BadThing g.BadThing a (.ref g.BadThing) d) (fun _ _ _ => rfl)))
      (ss_ret se_var)))) h
end
end W3
namespace W3
open PySem PySem.Spec PyProof.Rows L2 M3
section
variable {P : Program} {w : World} {g : G} {mg : Str → Option Value} {base : Heap} {f_eBadForest f_eNoThing f_eBadThing f_iForest : Addr}
theorem ok_L_is (D : M3.Def g.K mg "_law_is" s_L_is ["told", "due"]) (T : Txt mg) (Z : Fx g w mg f_eBadForest f_eNoThing f_eBadThing f_iForest) : ∀ d : Nat, M3.Cal P w g.K mg base (1 + d) "_law_is" ["told", "due"] (spM g.K 2 (mPure (m_L_is g d))) := by
  intro d
  induction d with
  | zero =>
    obtain ⟨f, fd, F, hm, b⟩ := D.ex
    exact M3.Cal.imp (sp := (spM g.K 2 (m_L_is g 0))) ⟨f, fd, ⟨spM_len rfl, fun A outer s H args us vs Q E _ _ _ _ h => (spM_fail h).elim⟩, hm, F.kp, b⟩ pure_ok
  | succ d C_L_is =>
    refine M3.Cal.imp (D.cal (k := 1 + d) (sp := (spM g.K 2 (m_L_is g (d + 1)))) sc_L_is (spM_len rfl) (fun f cdv A outer s H vs Q E hr h => ?_)) pure_ok
    exact body_all (N := ["told", "due", "k", "key"]) (E := E) ((pss_cons (ps_if (pt_val (pe_callB (call_isiTM (K := g.K) rfl) (by rfl) T.n_isinstance (by decide +kernel) (pa_cons (pv 1) (pa_cons (pe_tup (pa_cons (pe_bltn (v := .ty "tuple") (by rfl) T.n_tuple (by decide +kernel) rfl) (pa_cons (pe_bltn (v := .ty "list") (by rfl) T.n_list (by decide +kernel) rfl) pa_nil))) pa_nil)))) (pss_cons (ps_if (PW.pt (pw_or (pt_cmpR (op_neM (K := g.K) rfl hr.units) (pe_callB (call_isiM (K := g.K) rfl) (by rfl) T.n_isinstance (by decide +kernel) (pa_cons (pv 0) (pa_cons (pe_bltn (v := .ty "tuple") (by rfl) T.n_tuple (by decide +kernel) rfl) pa_nil))) (pe_callB (call_isiM (K := g.K) rfl) (by rfl) T.n_isinstance (by decide +kernel) (pa_cons (pv 1) (pa_cons (pe_bltn (v := .ty "tuple") (by rfl) T.n_tuple (by decide +kernel) rfl) pa_nil))) (nomark _)) (pw_or1 (pt_cmpR (op_neM (K := g.K) rfl hr.units) (pe_callB (call_isiM (K := g.K) rfl) (by rfl) T.n_isinstance (by decide +kernel) (pa_cons (pv 0) (pa_cons (pe_bltn (v := .ty "list") (by rfl) T.n_list (by decide +kernel) rfl) pa_nil))) (pe_callB (call_isiM (K := g.K) rfl) (by rfl) T.n_isinstance (by decide +kernel) (pa_cons (pv 1) (pa_cons (pe_bltn (v := .ty "list") (by rfl) T.n_list (by decide +kernel) rfl) pa_nil))) (nomark _))))) (pss_one (ps_ret pe_bl)) pss_nil)
      (pss_one (ps_ret (pe_and (pe_cmpR (op_eqM (K := g.K) rfl hr.units) (pe_callB (call_lenM (K := g.K) rfl) (by rfl) T.n_len PySem.boot_len (pa_cons (pv 0) pa_nil)) (pe_callB (call_lenM (K := g.K) rfl) (by rfl) T.n_len PySem.boot_len (pa_cons (pv 1) pa_nil)) (nomark _)) (pe_one (pe_callB (call_allM (K := g.K) rfl rfl) (by rfl) T.n_all (by decide +kernel) (pa_cons ((pe_lc (own := [("k", 2)]) (g := (gName 2)) (tt := tYes) (by rfl) sc_L_is.nd (pi_range1 rfl T.n_range (pa_cons (pe_callB (call_lenM (K := g.K) rfl) (by rfl) T.n_len PySem.boot_len (pa_cons (pv 1) pa_nil)) pa_nil)) (blkOk_by (own := [("k", 2)]) (N := ["told", "due", "k", "key"]) (sc := defScope s_L_is) (by decide +kernel)) (fun _ _ _ _ _ => (pg_name (i := 2) sc_L_is.nd rfl (Or.inl rfl))) (fun _ _ _ _ _ => pts_nil) (fun _ _ _ _ _ => (pcalF C_L_is hr (by omega) rfl (pa_cons (pe_ix (ix_M (K := g.K) rfl) (pv 0) (pv 2) (fun _ _ => rfl)) (pa_cons (pe_ix (ix_M (K := g.K) rfl) (pv 1) (pv 2) (fun _ _ => rfl)) pa_nil)))))) pa_nil))))))) pss_nil)
      (pss_cons (ps_if (pt_val (pe_callB (call_isiM (K := g.K) rfl) (by rfl) T.n_isinstance (by decide +kernel) (pa_cons (pv 1) (pa_cons (pe_bltn (v := .ty "dict") (by rfl) T.n_dict (by decide +kernel) rfl) pa_nil)))) (pss_one (ps_ret (pe_and (pe_callB (call_isiM (K := g.K) rfl) (by rfl) T.n_isinstance (by decide +kernel) (pa_cons (pv 0) (pa_cons (pe_bltn (v := .ty "dict") (by rfl) T.n_dict (by decide +kernel) rfl) pa_nil))) (pe_and (pe_cmpR (op_eqM (K := g.K) rfl hr.units) (pv 0) (pv 1) (nomark _)) (pe_one (pe_callB (call_allM (K := g.K) rfl rfl) (by rfl) T.n_all (by decide +kernel) (pa_cons ((pe_lc (own := [("key", 3)]) (g := (gName 3)) (tt := tYes) (by rfl) sc_L_is.nd (pi_M (K := g.K) rfl (pv 1)) (blkOk_by (own := [("key", 3)]) (N := ["told", "due", "k", "key"]) (sc := defScope s_L_is) (by decide +kernel)) (fun _ _ _ _ _ => (pg_name (i := 3) sc_L_is.nd rfl (Or.inl rfl))) (fun _ _ _ _ _ => pts_nil) (fun _ _ _ _ _ => (pcalF C_L_is hr (by omega) rfl (pa_cons (pe_ix (ix_M (K := g.K) rfl) (pv 0) (pv 3) (fun _ _ => rfl)) (pa_cons (pe_ix (ix_M (K := g.K) rfl) (pv 1) (pv 3) (fun _ _ => rfl)) pa_nil)))))) pa_nil))))))) pss_nil)
      (pss_one (ps_ret (pe_and (pe_cmpR (op_eqM (K := g.K) rfl hr.units) (pe_callB (call_isiM (K := g.K) rfl) (by rfl) T.n_isinstance (by decide +kernel) (pa_cons (pv 0) (pa_cons (pe_bltn (v := .ty "bool") (by rfl) T.n_bool (by decide +kernel) rfl) pa_nil))) (pe_callB (call_isiM (K := g.K) rfl) (by rfl) T.n_isinstance (by decide +kernel) (pa_cons (pv 1) (pa_cons (pe_bltn (v := .ty "bool") (by rfl) T.n_bool (by decide +kernel) rfl) pa_nil))) (nomark _)) (pe_one (pe_cmpR (op_eqM (K := g.K) rfl hr.units) (pv 0) (pv 1) (nomark _)))))))))
      ((ss_seq (ss_ifS (st_tst (se_isiT Z.CSO se_var (sa_cons se_con (sa_cons se_con sa_nil)))) (ss_seq (ss_ifS (st_or (st_test (se_op ne_ok (se_call (isi_ok Z.CSO) (sa_cons se_var (sa_cons se_con sa_nil))) (se_call (isi_ok Z.CSO) (sa_cons se_var (sa_cons se_con sa_nil))))) (st_test (se_op ne_ok (se_call (isi_ok Z.CSO) (sa_cons se_var (sa_cons se_con sa_nil))) (se_call (isi_ok Z.CSO) (sa_cons se_var (sa_cons se_con sa_nil)))))) (ss_ret se_bl) ss_next)
      (ss_ret (se_and (se_op eq_ok (se_call len_ok (sa_cons se_var sa_nil)) (se_call len_ok (sa_cons se_var sa_nil))) (se_call all_ok (sa_cons (se_frz (sl_lc (si_rng1 (sa_cons (se_call len_ok (sa_cons se_var sa_nil)) sa_nil)) (sgv_name (by decide)) st_yes (se_defF (sa_cons (se_op ix_ok se_var se_var) (sa_cons (se_op ix_ok se_var se_var) sa_nil))))) sa_nil))))) ss_next)
      (ss_seq (ss_ifS (st_tst (se_call (isi_ok Z.CSO) (sa_cons se_var (sa_cons se_con sa_nil)))) (ss_ret (se_and (se_call (isi_ok Z.CSO) (sa_cons se_var (sa_cons se_con sa_nil))) (se_and (se_op eq_ok se_var se_var) (se_call all_ok (sa_cons (se_frz (sl_lc (si_walk se_var) (sgv_name (by decide)) st_yes (se_defF (sa_cons (se_op ix_ok se_var se_var) (sa_cons (se_op ix_ok se_var se_var) sa_nil))))) sa_nil))))) ss_next)
      (ss_ret (se_and (se_op eq_ok (se_call (isi_ok Z.CSO) (sa_cons se_var (sa_cons se_con sa_nil))) (se_call (isi_ok Z.CSO) (sa_cons se_var (sa_cons se_con sa_nil)))) (se_op eq_ok se_var se_var)))))) h
end
end W3
namespace W3
open PySem PySem.Spec PyProof.Rows L2 M3
section
variable {P : Program} {w : World} {g : G} {mg : Str → Option Value} {base : Heap} {f_eBadForest f_eNoThing f_eBadThing f_iForest : Addr}
theorem ok_text_of (D : M3.Def g.K mg "_text_of" s_text_of ["thing"]) (T : Txt mg) (Z : Fx g w mg f_eBadForest f_eNoThing f_eBadThing f_iForest) : ∀ d : Nat, M3.Cal P w g.K mg base (1 + d) "_text_of" ["thing"] (spM g.K 1 (mPure (m_text_of g d))) := by
  intro d
  induction d with
  | zero =>
    obtain ⟨f, fd, F, hm, b⟩ := D.ex
    exact M3.Cal.imp (sp := (spM g.K 1 (m_text_of g 0))) ⟨f, fd, ⟨spM_len rfl, fun A outer s H args us vs Q E _ _ _ _ h => (spM_fail h).elim⟩, hm, F.kp, b⟩ pure_ok
  | succ d C_text_of =>
    refine M3.Cal.imp (D.cal (k := 1 + d) (sp := (spM g.K 1 (m_text_of g (d + 1)))) sc_text_of (spM_len rfl) (fun f cdv A outer s H vs Q E hr h => ?_)) pure_ok
    exact body_all (N := ["thing", "part"]) (E := E) ((pss_cons (ps_if (pt_cmpR op_isN (pv 0) pe_non (nomark _)) (pss_one (ps_ret pe_str)) pss_nil)
      (pss_cons (ps_if (pt_val (pe_callB (call_isiM (K := g.K) rfl) (by rfl) T.n_isinstance (by decide +kernel) (pa_cons (pv 0) (pa_cons (pe_bltn (v := .ty "bool") (by rfl) T.n_bool (by decide +kernel) rfl) pa_nil)))) (pss_one (ps_ret (pe_ifExp (pt_val (pv 0)) pe_str pe_str))) pss_nil)
      (pss_cons (ps_if (pt_val (pe_callB (call_isiM (K := g.K) rfl) (by rfl) T.n_isinstance (by decide +kernel) (pa_cons (pv 0) (pa_cons (pe_bltn (v := .ty "tuple") (by rfl) T.n_tuple (by decide +kernel) rfl) pa_nil)))) (pss_one (ps_ret (pe_op (op_addM (K := g.K) rfl) (pe_op (op_addM (K := g.K) rfl) pe_str (pe_joinM (K := g.K) rfl pe_str ((pe_lc (own := [("part", 1)]) (g := (gName 1)) (tt := tYes) (by rfl) sc_text_of.nd (pi_M (K := g.K) rfl (pv 0)) (blkOk_by (own := [("part", 1)]) (N := ["thing", "part"]) (sc := defScope s_text_of) (by decide +kernel)) (fun _ _ _ _ _ => (pg_name (i := 1) sc_text_of.nd rfl (Or.inl rfl))) (fun _ _ _ _ _ => pts_nil) (fun _ _ _ _ _ => (pcalF C_text_of hr (by omega) rfl (pa_cons (pv 1) pa_nil))))))) pe_str))) pss_nil)
      (pss_one (ps_ret (pe_callTy call_strA (by rfl) T.n_str (by decide +kernel) (pa_cons (pv 0) pa_nil))))))))
      ((ss_seq (ss_ifS (st_test (se_op isN_okR se_var se_non)) (ss_ret se_str) ss_next)
      (ss_seq (ss_ifS (st_tst (se_call (isi_ok Z.CSO) (sa_cons se_var (sa_cons se_con sa_nil)))) (ss_ret (se_if (st_tst se_var) se_str se_str)) ss_next)
      (ss_seq (ss_ifS (st_tst (se_call (isi_ok Z.CSO) (sa_cons se_var (sa_cons se_con sa_nil)))) (ss_ret (se_op add_ok (se_op add_ok se_str (se_join se_str (se_frz (sl_lc (si_walk se_var) (sgv_name (by decide)) st_yes (se_defF (sa_cons se_var sa_nil)))))) se_str)) ss_next)
      (ss_ret (se_call strA_ok (sa_cons se_var sa_nil))))))) h
end
end W3
namespace W3
open PySem PySem.Spec PyProof.Rows L2 M3
section
variable {P : Program} {w : World} {g : G} {mg : Str → Option Value} {base : Heap} {f_eBadForest f_eNoThing f_eBadThing f_iForest : Addr}
theorem ok_L_written (D : M3.Def g.K mg "_law_written" s_L_written ["thing"]) (T : Txt mg) (Z : Fx g w mg f_eBadForest f_eNoThing f_eBadThing f_iForest) : ∀ d : Nat, M3.Cal P w g.K mg base (1 + d) "_law_written" ["thing"] (spM g.K 1 (mPure (m_L_written g d))) := by
  intro d
  induction d with
  | zero =>
    obtain ⟨f, fd, F, hm, b⟩ := D.ex
    exact M3.Cal.imp (sp := (spM g.K 1 (m_L_written g 0))) ⟨f, fd, ⟨spM_len rfl, fun A outer s H args us vs Q E _ _ _ _ h => (spM_fail h).elim⟩, hm, F.kp, b⟩ pure_ok
  | succ d C_L_written =>
    refine M3.Cal.imp (D.cal (k := 1 + d) (sp := (spM g.K 1 (m_L_written g (d + 1)))) sc_L_written (spM_len rfl) (fun f cdv A outer s H vs Q E hr h => ?_)) pure_ok
    exact body_all (N := ["thing", "one"]) (E := E) ((pss_cons (ps_if (pt_cmpR op_isN (pv 0) pe_non (nomark _)) (pss_one (ps_ret pe_str)) pss_nil)
      (pss_cons (ps_if (pt_val (pe_callB (call_isiM (K := g.K) rfl) (by rfl) T.n_isinstance (by decide +kernel) (pa_cons (pv 0) (pa_cons (pe_bltn (v := .ty "bool") (by rfl) T.n_bool (by decide +kernel) rfl) pa_nil)))) (pss_one (ps_ret (pe_ifExp (pt_val (pv 0)) pe_str pe_str))) pss_nil)
      (pss_cons (ps_if (pt_val (pe_callB (call_isiM (K := g.K) rfl) (by rfl) T.n_isinstance (by decide +kernel) (pa_cons (pv 0) (pa_cons (pe_bltn (v := .ty "tuple") (by rfl) T.n_tuple (by decide +kernel) rfl) pa_nil)))) (pss_one (ps_ret (pe_op (op_addM (K := g.K) rfl) (pe_op (op_addM (K := g.K) rfl) pe_str (pe_joinM (K := g.K) rfl pe_str ((pe_lc (own := [("one", 1)]) (g := (gName 1)) (tt := tYes) (by rfl) sc_L_written.nd (pi_M (K := g.K) rfl (pv 0)) (blkOk_by (own := [("one", 1)]) (N := ["thing", "one"]) (sc := defScope s_L_written) (by decide +kernel)) (fun _ _ _ _ _ => (pg_name (i := 1) sc_L_written.nd rfl (Or.inl rfl))) (fun _ _ _ _ _ => pts_nil) (fun _ _ _ _ _ => (pcalF C_L_written hr (by omega) rfl (pa_cons (pv 1) pa_nil))))))) pe_str))) pss_nil)
      (pss_one (ps_ret (pe_callTy call_strA (by rfl) T.n_str (by decide +kernel) (pa_cons (pv 0) pa_nil))))))))
      ((ss_seq (ss_ifS (st_test (se_op isN_okR se_var se_non)) (ss_ret se_str) ss_next)
      (ss_seq (ss_ifS (st_tst (se_call (isi_ok Z.CSO) (sa_cons se_var (sa_cons se_con sa_nil)))) (ss_ret (se_if (st_tst se_var) se_str se_str)) ss_next)
      (ss_seq (ss_ifS (st_tst (se_call (isi_ok Z.CSO) (sa_cons se_var (sa_cons se_con sa_nil)))) (ss_ret (se_op add_ok (se_op add_ok se_str (se_join se_str (se_frz (sl_lc (si_walk se_var) (sgv_name (by decide)) st_yes (se_defF (sa_cons se_var sa_nil)))))) se_str)) ss_next)
      (ss_ret (se_call strA_ok (sa_cons se_var sa_nil))))))) h
end
end W3
namespace W3
open PySem PySem.Spec PyProof.Rows L2 M3
section
variable {P : Program} {w : World} {g : G} {mg : Str → Option Value} {base : Heap} {f_eBadForest f_eNoThing f_eBadThing f_iForest : Addr}
theorem ok_L_can_be (D : M3.Def g.K mg "_law_can_be" s_L_can_be ["thing", "deep"]) (T : Txt mg) (Z : Fx g w mg f_eBadForest f_eNoThing f_eBadThing f_iForest) : ∀ d : Nat, M3.Cal P w g.K mg base (1 + d) "_law_can_be" ["thing", "deep"] (spM g.K 2 (mPure (m_L_can_be g d))) := by
  intro d
  induction d with
  | zero =>
    obtain ⟨f, fd, F, hm, b⟩ := D.ex
    exact M3.Cal.imp (sp := (spM g.K 2 (m_L_can_be g 0))) ⟨f, fd, ⟨spM_len rfl, fun A outer s H args us vs Q E _ _ _ _ h => (spM_fail h).elim⟩, hm, F.kp, b⟩ pure_ok
  | succ d C_L_can_be =>
    refine M3.Cal.imp (D.cal (k := 1 + d) (sp := (spM g.K 2 (m_L_can_be g (d + 1)))) sc_L_can_be (spM_len rfl) (fun f cdv A outer s H vs Q E hr h => ?_)) pure_ok
    exact body_all (N := ["thing", "deep", "is_word_v", "sign", "one"]) (E := E) ((pss_cons (ps_if (PW.pt (pw_or (pt_cmpR op_isN (pv 0) pe_non (nomark _)) (pw_or1 (pt_val (pe_callB (call_isiM (K := g.K) rfl) (by rfl) T.n_isinstance (by decide +kernel) (pa_cons (pv 0) (pa_cons (pe_bltn (v := .ty "int") (by rfl) T.n_int (by decide +kernel) rfl) pa_nil))))))) (pss_one (ps_ret pe_bl)) pss_nil)
      (pss_cons (ps_if (pt_val (pe_callB (call_isiM (K := g.K) rfl) (by rfl) T.n_isinstance (by decide +kernel) (pa_cons (pv 0) (pa_cons (pe_bltn (v := .ty "str") (by rfl) T.n_str (by decide +kernel) rfl) pa_nil)))) (pss_cons (ps_set (i := 2) sc_L_can_be.nd rfl (Or.inl rfl) (pe_and (pe_chain op_le op_le pe_int (pe_callB (call_lenM (K := g.K) rfl) (by rfl) T.n_len PySem.boot_len (pa_cons (pv 0) pa_nil)) pe_int) (pe_one (pe_callB (call_allM (K := g.K) rfl rfl) (by rfl) T.n_all (by decide +kernel) (pa_cons ((pe_lc (own := [("sign", 3)]) (g := (gName 3)) (tt := tYes) (by rfl) sc_L_can_be.nd (pi_M (K := g.K) rfl (pv 0)) (blkOk_by (own := [("sign", 3)]) (N := ["thing", "deep", "is_word_v", "sign", "one"]) (sc := defScope s_L_can_be) (by decide +kernel)) (fun _ _ _ _ _ => (pg_name (i := 3) sc_L_can_be.nd rfl (Or.inl rfl))) (fun _ _ _ _ _ => pts_nil) (fun _ _ _ _ _ => (pe_cmpR (op_inM (K := g.K) rfl) (pv 3) pe_str (by rfl))))) pa_nil)))))
      (pss_one (ps_ret (pe_and (pv 2) (pe_one (pe_cmpR (op_notInM (K := g.K) rfl) (pv 0) (pe_tup (pa_cons pe_str (pa_cons pe_str pa_nil))) (by rfl))))))) pss_nil)
      (pss_one (ps_ret (pe_and (pe_callB (call_isiM (K := g.K) rfl) (by rfl) T.n_isinstance (by decide +kernel) (pa_cons (pv 0) (pa_cons (pe_bltn (v := .ty "tuple") (by rfl) T.n_tuple (by decide +kernel) rfl) pa_nil))) (pe_and (pe_cmpR op_lt (pv 1) pe_int (nomark _)) (pe_one (pe_callB (call_allM (K := g.K) rfl rfl) (by rfl) T.n_all (by decide +kernel) (pa_cons ((pe_lc (own := [("one", 4)]) (g := (gName 4)) (tt := tYes) (by rfl) sc_L_can_be.nd (pi_M (K := g.K) rfl (pv 0)) (blkOk_by (own := [("one", 4)]) (N := ["thing", "deep", "is_word_v", "sign", "one"]) (sc := defScope s_L_can_be) (by decide +kernel)) (fun _ _ _ _ _ => (pg_name (i := 4) sc_L_can_be.nd rfl (Or.inl rfl))) (fun _ _ _ _ _ => pts_nil) (fun _ _ _ _ _ => (pcalF C_L_can_be hr (by omega) rfl (pa_cons (pv 4) (pa_cons (pe_op (op_addM (K := g.K) rfl) (pv 1) pe_int) pa_nil)))))) pa_nil))))))))))
      ((ss_seq (ss_ifS (st_or (st_test (se_op isN_okR se_var se_non)) (st_tst (se_call (isi_ok Z.CSO) (sa_cons se_var (sa_cons se_con sa_nil))))) (ss_ret se_bl) ss_next)
      (ss_seq (ss_ifS (st_tst (se_call (isi_ok Z.CSO) (sa_cons se_var (sa_cons se_con sa_nil)))) (ss_seq (ss_asgG (se_and (se_chain le_ok le_ok se_int (se_call len_ok (sa_cons se_var sa_nil)) se_int) (se_call all_ok (sa_cons (se_frz (sl_lc (si_walk se_var) (sgv_name (by decide)) st_yes (se_op in_ok se_var se_str))) sa_nil))) sg_name)
      (ss_ret (se_and se_var (se_op notIn_ok se_var (se_tup (sa_cons se_str (sa_cons se_str sa_nil))))))) ss_next)
      (ss_ret (se_and (se_call (isi_ok Z.CSO) (sa_cons se_var (sa_cons se_con sa_nil))) (se_and (se_op lt_ok se_var se_int) (se_call all_ok (sa_cons (se_frz (sl_lc (si_walk se_var) (sgv_name (by decide)) st_yes (se_defF (sa_cons se_var (sa_cons (se_op add_ok se_var se_int) sa_nil))))) sa_nil)))))))) h
end
end W3
namespace W3
open PySem PySem.Spec PyProof.Rows L2 M3
section
variable {P : Program} {w : World} {g : G} {mg : Str → Option Value} {base : Heap} {f_eBadForest f_eNoThing f_eBadThing f_iForest : Addr}
theorem ok_can_be_written (D : M3.Def g.K mg "_can_be_written" s_can_be_written ["thing", "deep"]) (T : Txt mg) (Z : Fx g w mg f_eBadForest f_eNoThing f_eBadThing f_iForest) (C_is_word : M3.Cal P w g.K mg base 1 "is_word" ["most", "thing"] (spM g.K 2 (mPure (m_is_word g)))) : ∀ d : Nat, M3.Cal P w g.K mg base (2 + d) "_can_be_written" ["thing", "deep"] (spM g.K 2 (mPure (m_can_be_written g d))) := by
  obtain ⟨tk_MOST_SIGNS, h_MOST_SIGNS⟩ := T.c_MOST_SIGNS
  intro d
  induction d with
  | zero =>
    obtain ⟨f, fd, F, hm, b⟩ := D.ex
    exact M3.Cal.imp (sp := (spM g.K 2 (m_can_be_written g 0))) ⟨f, fd, ⟨spM_len rfl, fun A outer s H args us vs Q E _ _ _ _ h => (spM_fail h).elim⟩, hm, F.kp, b⟩ pure_ok
  | succ d C_can_be_written =>
    refine M3.Cal.imp (D.cal (k := 2 + d) (sp := (spM g.K 2 (m_can_be_written g (d + 1)))) sc_can_be_written (spM_len rfl) (fun f cdv A outer s H vs Q E hr h => ?_)) pure_ok
    exact body_all (N := ["thing", "deep", "part"]) (E := E) ((pss_cons (ps_if (pt_val (pe_callB (call_isiM (K := g.K) rfl) (by rfl) T.n_isinstance (by decide +kernel) (pa_cons (pv 0) (pa_cons (pe_bltn (v := .ty "tuple") (by rfl) T.n_tuple (by decide +kernel) rfl) pa_nil)))) (pss_one (ps_ret (pe_and (pe_cmpR op_gt (pv 1) pe_int (nomark _)) (pe_one (pe_callB (call_allM (K := g.K) rfl rfl) (by rfl) T.n_all (by decide +kernel) (pa_cons ((pe_lc (own := [("part", 2)]) (g := (gName 2)) (tt := tYes) (by rfl) sc_can_be_written.nd (pi_M (K := g.K) rfl (pv 0)) (blkOk_by (own := [("part", 2)]) (N := ["thing", "deep", "part"]) (sc := defScope s_can_be_written) (by decide +kernel)) (fun _ _ _ _ _ => (pg_name (i := 2) sc_can_be_written.nd rfl (Or.inl rfl))) (fun _ _ _ _ _ => pts_nil) (fun _ _ _ _ _ => (pcalF C_can_be_written hr (by omega) rfl (pa_cons (pv 2) (pa_cons (pe_op op_sub (pv 1) pe_int) pa_nil)))))) pa_nil)))))) pss_nil)
      (pss_cons (ps_if (pt_val (pe_callB (call_isiM (K := g.K) rfl) (by rfl) T.n_isinstance (by decide +kernel) (pa_cons (pv 0) (pa_cons (pe_bltn (v := .ty "str") (by rfl) T.n_str (by decide +kernel) rfl) pa_nil)))) (pss_one (ps_ret (pe_and (pcal C_is_word hr (by omega) rfl (takes_of rfl rfl rfl rfl) (pa_cons (pe_glob (v := .int 20) rfl h_MOST_SIGNS ⟨_, rfl⟩) (pa_cons (pv 0) pa_nil))) (pe_one (pe_cmpR (op_notInTab (K := g.K) rfl Z.FLAGS.2) (pv 0) (pe_glob (v := .ref g.FLAGS) rfl Z.FLAGS.1 rfl) (by rfl)))))) pss_nil)
      (pss_one (ps_ret (pe_or (pe_cmpR op_isN (pv 0) pe_non (nomark _)) (pe_one (pe_callB (call_isiM (K := g.K) rfl) (by rfl) T.n_isinstance (by decide +kernel) (pa_cons (pv 0) (pa_cons (pe_bltn (v := .ty "int") (by rfl) T.n_int (by decide +kernel) rfl) pa_nil))))))))))
      ((ss_seq (ss_ifS (st_tst (se_call (isi_ok Z.CSO) (sa_cons se_var (sa_cons se_con sa_nil)))) (ss_ret (se_and (se_op gt_ok se_var se_int) (se_call all_ok (sa_cons (se_frz (sl_lc (si_walk se_var) (sgv_name (by decide)) st_yes (se_defF (sa_cons se_var (sa_cons (se_op sub_ok se_var se_int) sa_nil))))) sa_nil)))) ss_next)
      (ss_seq (ss_ifS (st_tst (se_call (isi_ok Z.CSO) (sa_cons se_var (sa_cons se_con sa_nil)))) (ss_ret (se_and (se_def (sa_cons se_int (sa_cons se_var sa_nil))) (se_op notInTab_ok se_var se_con))) ss_next)
      (ss_ret (se_or (se_op isN_okR se_var se_non) (se_call (isi_ok Z.CSO) (sa_cons se_var (sa_cons se_con sa_nil)))))))) h
end
end W3
namespace W3
open PySem PySem.Spec PyProof.Rows L2 M3
section
variable {P : Program} {w : World} {g : G} {mg : Str → Option Value} {base : Heap} {f_eBadForest f_eNoThing f_eBadThing f_iForest : Addr}
theorem ok_written (D : M3.Def g.K mg "written" s_written ["thing"]) (T : Txt mg) (Z : Fx g w mg f_eBadForest f_eNoThing f_eBadThing f_iForest) (C_text_of : M3.Cal P w g.K mg base 71 "_text_of" ["thing"] (spM g.K 1 (mPure (m_text_of g 70)))) (C_can_be_written : M3.Cal P w g.K mg base 72 "_can_be_written" ["thing", "deep"] (spM g.K 2 (mPure (m_can_be_written g 70)))) : M3.Cal P w g.K mg base 73 "written" ["thing"] (spM g.K 1 (mPure (m_written g))) := by
  obtain ⟨tk_MOST_DEEP, h_MOST_DEEP⟩ := T.c_MOST_DEEP
  refine M3.Cal.imp (D.cal (sp := (spM g.K 1 (m_written g))) sc_written (spM_len rfl) (fun f cdv A outer s H vs Q E hr h => ?_)) pure_ok
  exact body_all (N := ["thing"]) (E := E) ((pss_cons (ps_if (pt_not (pt_val (pcal C_can_be_written hr (by omega) rfl (takes_of rfl rfl rfl rfl) (pa_cons (pv 0) (pa_cons (pe_glob (v := .int 20) rfl h_MOST_DEEP ⟨_, rfl⟩) pa_nil))))) (pss_one (ps_raise_NoThing rfl Z.NoThing hr (takes_of rfl rfl rfl rfl))) pss_nil)
      (pss_one (ps_ret (pcal C_text_of hr (by omega) rfl (takes_of rfl rfl rfl rfl) (pa_cons (pv 0) pa_nil))))))
    ((ss_seq (ss_ifS (st_not (st_tst (se_def (sa_cons se_var (sa_cons se_int sa_nil))))) ss_raise0 ss_next)
      (ss_ret (se_def (sa_cons se_var sa_nil))))) h
end
end W3
namespace W3
open PySem PySem.Spec PyProof.Rows L2 M3
section
variable {P : Program} {w : World} {g : G} {mg : Str → Option Value} {base : Heap} {f_eBadForest f_eNoThing f_eBadThing f_iForest : Addr}
theorem ok_L_drawn_thing (D : M3.Def g.K mg "_law_drawn_thing" s_L_drawn_thing ["hand", "deep"]) (T : Txt mg) (Z : Fx g w mg f_eBadForest f_eNoThing f_eBadThing f_iForest) (C_L_some : M3.Cal P w g.K mg base 2 "_law_some" ["hand", "things"] (spM g.K 2 (mScope (m_L_some g)))) (C_L_draw : M3.Cal P w g.K mg base 1 "_law_draw" ["hand", "many"] (spM g.K 2 (mScope (m_L_draw g)))) : ∀ d : Nat, M3.Cal P w g.K mg base (3 + d) "_law_drawn_thing" ["hand", "deep"] (spM g.K 2 (mScope (m_L_drawn_thing g d))) := by
  intro d
  induction d with
  | zero =>
    obtain ⟨f, fd, F, hm, b⟩ := D.ex
    exact M3.Cal.imp (sp := (spM g.K 2 (m_L_drawn_thing g 0))) ⟨f, fd, ⟨spM_len rfl, fun A outer s H args us vs Q E _ _ _ _ h => (spM_fail h).elim⟩, hm, F.kp, b⟩ scope_ok
  | succ d C_L_drawn_thing =>
    refine M3.Cal.imp (D.cal (k := 3 + d) (sp := (spM g.K 2 (m_L_drawn_thing g (d + 1)))) sc_L_drawn_thing (spM_len rfl) (fun f cdv A outer s H vs Q E hr h => ?_)) scope_ok
    exact body_all (N := ["hand", "deep", "kind", "turn"]) (E := E) ((pss_cons (ps_set (i := 2) sc_L_drawn_thing.nd rfl (Or.inl rfl) (pcal C_L_draw hr (by omega) rfl (takes_of rfl rfl rfl rfl) (pa_cons (pv 0) (pa_cons pe_int pa_nil))))
      (pss_cons (ps_if (PW.pt (pw_and (pt_cmpR op_lt (pv 2) pe_int (nomark _)) (pw_and1 (pt_cmpR op_gt (pv 1) pe_int (nomark _))))) (pss_one (ps_ret (pe_callTy (call_tupM (K := g.K) rfl) (by rfl) T.n_tuple (by decide +kernel) (pa_cons ((pe_lc (own := [("turn", 3)]) (g := (gName 3)) (tt := tYes) (by rfl) sc_L_drawn_thing.nd (pi_range1 rfl T.n_range (pa_cons (pcal C_L_draw hr (by omega) rfl (takes_of rfl rfl rfl rfl) (pa_cons (pv 0) (pa_cons pe_int pa_nil))) pa_nil)) (blkOk_by (own := [("turn", 3)]) (N := ["hand", "deep", "kind", "turn"]) (sc := defScope s_L_drawn_thing) (by decide +kernel)) (fun _ _ _ _ _ => (pg_name (i := 3) sc_L_drawn_thing.nd rfl (Or.inl rfl))) (fun _ _ _ _ _ => pts_nil) (fun _ _ _ _ _ => (pcalF C_L_drawn_thing hr (by omega) rfl (pa_cons (pv 0) (pa_cons (pe_op op_sub (pv 1) pe_int) pa_nil)))))) pa_nil)))) pss_nil)
      (pss_cons (ps_if (pt_cmpR op_lt (pv 2) pe_int (nomark _)) (pss_one (ps_ret (pcal C_L_some hr (by omega) rfl (takes_of rfl rfl rfl rfl) (pa_cons (pv 0) (pa_cons ((pe_lst (pa_cons pe_int (pa_cons pe_int (pa_cons (pe_un un_neg pe_int) (pa_cons pe_int (pa_cons (pe_un un_neg pe_int) (pa_cons (pe_op op_pow pe_int pe_int) (pa_cons (pe_un un_neg (pe_op op_sub (pe_op op_pow pe_int pe_int) pe_int)) (pa_cons (pe_op op_sub (pe_op op_pow pe_int pe_int) pe_int) (pa_cons (pcal C_L_draw hr (by omega) rfl (takes_of rfl rfl rfl rfl) (pa_cons (pv 0) (pa_cons pe_int pa_nil))) pa_nil))))))))))) pa_nil))))) pss_nil)
      (pss_cons (ps_if (pt_cmpR op_lt (pv 2) pe_int (nomark _)) (pss_one (ps_ret (pcal C_L_some hr (by omega) rfl (takes_of rfl rfl rfl rfl) (pa_cons (pv 0) (pa_cons ((pe_lst (pa_cons pe_str (pa_cons pe_str (pa_cons (pe_op op_mulS pe_str pe_int) (pa_cons pe_str (pa_cons pe_str (pa_cons pe_str (pa_cons pe_str (pa_cons pe_str (pa_cons pe_str pa_nil))))))))))) pa_nil))))) pss_nil)
      (pss_one (ps_ret (pcal C_L_some hr (by omega) rfl (takes_of rfl rfl rfl rfl) (pa_cons (pv 0) (pa_cons ((pe_lst (pa_cons pe_non (pa_cons pe_bl (pa_cons pe_bl pa_nil))))) pa_nil))))))))))
      ((ss_seq (ss_asgG (se_def (sa_cons se_var (sa_cons se_int sa_nil))) sg_name)
      (ss_seq (ss_ifS (st_and (st_test (se_op lt_ok se_var se_int)) (st_test (se_op gt_ok se_var se_int))) (ss_ret (se_call tuple_ok (sa_cons (se_frz (sl_lc (si_rng1 (sa_cons (se_def (sa_cons se_var (sa_cons se_int sa_nil))) sa_nil)) (sgv_name (by decide)) st_yes (se_defF (sa_cons se_var (sa_cons (se_op sub_ok se_var se_int) sa_nil))))) sa_nil))) ss_next)
      (ss_seq (ss_ifS (st_test (se_op lt_ok se_var se_int)) (ss_ret (se_def (sa_cons se_var (sa_cons (se_frz (sl_lst (sa_cons se_int (sa_cons se_int (sa_cons (se_un neg_ok se_int) (sa_cons se_int (sa_cons (se_un neg_ok se_int) (sa_cons (se_op pow_ok se_int se_int) (sa_cons (se_un neg_ok (se_op sub_ok (se_op pow_ok se_int se_int) se_int)) (sa_cons (se_op sub_ok (se_op pow_ok se_int se_int) se_int) (sa_cons (se_def (sa_cons se_var (sa_cons se_int sa_nil))) sa_nil))))))))))) sa_nil)))) ss_next)
      (ss_seq (ss_ifS (st_test (se_op lt_ok se_var se_int)) (ss_ret (se_def (sa_cons se_var (sa_cons (se_frz (sl_lst (sa_cons se_str (sa_cons se_str (sa_cons (se_op mulS_ok se_str se_int) (sa_cons se_str (sa_cons se_str (sa_cons se_str (sa_cons se_str (sa_cons se_str (sa_cons se_str sa_nil))))))))))) sa_nil)))) ss_next)
      (ss_ret (se_def (sa_cons se_var (sa_cons (se_frz (sl_lst (sa_cons se_non (sa_cons se_bl (sa_cons se_bl sa_nil))))) sa_nil))))))))) h
end
end W3
namespace W3
open PySem PySem.Spec PyProof.Rows L2 M3
section
variable {P : Program} {w : World} {g : G} {mg : Str → Option Value} {base : Heap} {f_eBadForest f_eNoThing f_eBadThing f_iForest : Addr}
theorem ok_L_given (D : M3.Def g.K mg "_law_given" s_L_given ["thing"]) (T : Txt mg) (Z : Fx g w mg f_eBadForest f_eNoThing f_eBadThing f_iForest) (C_written : M3.Cal P w g.K mg base 73 "written" ["thing"] (spM g.K 1 (mPure (m_written g)))) : M3.Cal P w g.K mg base 74 "_law_given" ["thing"] (spM g.K 1 (mPure (m_L_given g))) := by
  refine M3.Cal.imp (D.cal (sp := (spM g.K 1 (m_L_given g))) sc_L_given (spM_len rfl) (fun f cdv A outer s H vs Q E hr h => ?_)) pure_ok
  exact body_all (N := ["thing", "found", "e"]) (E := E) ((pss_cons (ps_set (i := 1) sc_L_given.nd rfl (Or.inl rfl) pe_str)
      (pss_cons (ps_tryA (i := 2) (ts := tIsQ g.K g.NoThing (.ref g.ForestError) (.ty "ValueError") 2 1 (fun _ _ => tC (.str "(NoThing)"))) rfl rfl sc_L_given.nd rfl rfl ⟨rfl, by decide, Or.inl Z.NoThing.gC⟩ (takes_of rfl rfl rfl rfl) (fun W pn xe tk po => (pss_one (ps_set (i := 1) sc_L_given.nd rfl (Or.inl rfl) (pcal C_written hr (by omega) rfl tk (pa_cons (pv 0) pa_nil))))) (pss_isQ fun a oe d pn hz hf => pss_one (ps_set (i := 1) sc_L_given.nd rfl (Or.inl rfl) (pe_ifExp (PW.pt (pw_and (pt_val (pe_callB (id := "isinstance") (call_isEd (K := g.K) (D := g.NoThing) (d := d) rfl Z.xc_NoThing hz hf) (by rfl) T.n_isinstance (by decide +kernel) (pa_cons (pv 2) (pa_cons (pe_glob (v := .ref g.ForestError) rfl Z.ForestError rfl) pa_nil)))) (pw_and1 (pt_val (pe_callB (id := "isinstance") (call_isEd (K := g.K) (D := g.NoThing) (d := d) rfl Z.xc_NoThing hz hf) (by rfl) T.n_isinstance (by decide +kernel) (pa_cons (pv 2) (pa_cons (pe_bltn (v := .ty "ValueError") (by rfl) T.n_ValueError (by decide +kernel) rfl) pa_nil))))))) pe_str (pv 1)))))
      (pss_one (ps_ret (pv 1))))))
    ((ss_seq (ss_asgG se_str sg_name)
      (ss_seq (ss_tryIs (fun W' => (ss_asgG (se_def (sa_cons se_var sa_nil)) sg_name)) (fun _ r => r) (fun _ r => r) isQ_str)
      (ss_ret se_var)))) h
end
end W3
namespace W3
open PySem PySem.Spec PyProof.Rows L2 M3
section
variable {P : Program} {w : World} {g : G} {mg : Str → Option Value} {base : Heap} {f_eBadForest f_eNoThing f_eBadThing f_iForest : Addr}
theorem ok_Forest_init {f0 : Addr} {fd0 : FuncData} (F : Fun g.K "__init__" "Forest.__init__" s_Forest_init f0 fd0) (T : Txt mg) (Z : Fx g w mg f_eBadForest f_eNoThing f_eBadThing f_iForest) (C_are_worths : M3.Cal P w g.K mg base 2 "_are_worths" ["thing", "houses"] (spM g.K 2 (mPure (m_are_worths g)))) (C_are_parents : M3.Cal P w g.K mg base 4 "_are_parents" ["thing"] (spM g.K 1 (mPure (m_are_parents g)))) : FnOk P w g.K mg base (L2.CX P w) 5 f0 fd0 ["self", "parents", "worths"] (spM g.K 3 (m_Forest_init g)) := by
  refine F.okX sc_Forest_init (spM_len rfl) (fun cdv A outer s H vs Q E hr h => ?_)
  exact body_all (N := ["self", "parents", "worths"]) (E := E) ((pss_cons (ps_if (pt_not (pt_val (pcal C_are_parents hr (by omega) rfl (takes_of rfl rfl rfl rfl) (pa_cons (pv 1) pa_nil)))) (pss_one (ps_raise_BadForest rfl Z.BadForest hr (takes_of rfl rfl rfl rfl) (pa_cons pe_str pa_nil))) pss_nil)
      (pss_cons (ps_if (pt_not (pt_val (pcal C_are_worths hr (by omega) rfl (takes_of rfl rfl rfl rfl) (pa_cons (pv 2) (pa_cons (pe_callB (call_lenM (K := g.K) rfl) (by rfl) T.n_len PySem.boot_len (pa_cons (pv 1) pa_nil)) pa_nil))))) (pss_one (ps_raise_BadForest rfl Z.BadForest hr (takes_of rfl rfl rfl rfl) (pa_cons pe_str pa_nil))) pss_nil)
      (pss_cons (ps_fld (pv 0) (pv 1) rfl)
      (pss_one (ps_fld (pv 0) (pv 2) rfl))))))
    ((ss_seq (ss_ifS (st_not (st_tst (se_def (sa_cons se_var sa_nil)))) (ss_raise1 (sa_cons se_str sa_nil)) ss_next)
      (ss_seq (ss_ifS (st_not (st_tst (se_def (sa_cons se_var (sa_cons (se_call len_ok (sa_cons se_var sa_nil)) sa_nil))))) (ss_raise1 (sa_cons se_str sa_nil)) ss_next)
      (ss_seq (ss_setF Z.FO se_var se_var)
      (ss_setF Z.FO se_var se_var))))) h
end
end W3
namespace W3
open PySem PySem.Spec PyProof.Rows L2 M3
section
variable {P : Program} {w : World} {g : G} {mg : Str → Option Value} {base : Heap} {f_eBadForest f_eNoThing f_eBadThing f_iForest : Addr}
theorem ok_law {f0 : Addr} {fd0 : FuncData} (F : Fun g.K "law" "law" s_law f0 fd0) (T : Txt mg) (Z : Fx g w mg f_eBadForest f_eNoThing f_eBadThing f_iForest) (C_L_is : M3.Cal P w g.K mg base 61 "_law_is" ["told", "due"] (spM g.K 2 (mPure (m_L_is g 60)))) (C_L_told : M3.Cal P w g.K mg base 47 "_law_told" ["text"] (spM g.K 1 (mPure (m_L_told g)))) (C_L_some : M3.Cal P w g.K mg base 2 "_law_some" ["hand", "things"] (spM g.K 2 (mScope (m_L_some g)))) {fd_Forest_init : FuncData} (F_Forest_init : FnOk P w g.K mg base (L2.CX P w) 5 f_iForest fd_Forest_init ["self", "parents", "worths"] (spM g.K 3 (m_Forest_init g))) (B_Forest_init : Binds g.K fd_Forest_init ["self", "parents", "worths"] []) (C_L_deep : M3.Cal P w g.K mg base 1 "_law_deep" ["kind"] (spM g.K 1 (mPure (m_L_deep g)))) (C_L_read : M3.Cal P w g.K mg base 2 "_law_read" ["text"] (spM g.K 1 (mPure (m_L_read g)))) (C_L_spoilt : M3.Cal P w g.K mg base 3 "_law_spoilt" ["hand", "text"] (spM g.K 2 (mScope (m_L_spoilt g)))) (C_L_written : M3.Cal P w g.K mg base 71 "_law_written" ["thing"] (spM g.K 1 (mPure (m_L_written g 70)))) (C_L_given : M3.Cal P w g.K mg base 74 "_law_given" ["thing"] (spM g.K 1 (mPure (m_L_given g)))) (C_L_can_be : M3.Cal P w g.K mg base 71 "_law_can_be" ["thing", "deep"] (spM g.K 2 (mPure (m_L_can_be g 70)))) (C_L_draw : M3.Cal P w g.K mg base 1 "_law_draw" ["hand", "many"] (spM g.K 2 (mScope (m_L_draw g)))) (C_L_nested : M3.Cal P w g.K mg base 3 "_law_nested" ["hand", "most"] (spM g.K 2 (mScope (m_L_nested g)))) (C_L_drawn_thing : M3.Cal P w g.K mg base 73 "_law_drawn_thing" ["hand", "deep"] (spM g.K 2 (mScope (m_L_drawn_thing g 70)))) (C_L_hand : M3.Cal P w g.K mg base 1 "_law_hand" ["script"] (spM g.K 1 (m_L_hand g))) : FnOk P w g.K mg base (L2.CX P w) 75 f0 fd0 ["script"] (spM g.K 1 (m_law g)) := by
  refine F.okX sc_law (spM_len rfl) (fun cdv A outer s H vs Q E hr h => ?_)
  exact body_all (N := ["script", "hand", "odd", "turn", "thing", "can", "text", "again", "wrong"]) (E := E) ((pss_cons (ps_set (i := 1) sc_law.nd rfl (Or.inl rfl) (pcal C_L_hand hr (by omega) rfl (takes_of rfl rfl rfl rfl) (pa_cons (pv 0) pa_nil)))
      (pss_cons (ps_set (i := 2) sc_law.nd rfl (Or.inl rfl) ((pe_lst (pa_cons ((pe_lst pa_nil)) (pa_cons ((pe_lst (pa_cons pe_int pa_nil))) (pa_cons pe_dnewK (pa_cons pe_str (pa_cons pe_str (pa_cons pe_str (pa_cons pe_str (pa_cons pe_str (pa_cons (pe_op op_mulS pe_str pe_int) (pa_cons pe_str (pa_cons pe_str (pa_cons (pe_tup (pa_cons pe_int (pa_cons ((pe_lst pa_nil)) pa_nil))) (pa_cons (pe_tup (pa_cons pe_str pa_nil)) (pa_cons (pe_tup (pa_cons (pe_tup pa_nil) (pa_cons (pe_tup (pa_cons pe_str (pa_cons pe_str pa_nil))) pa_nil))) pa_nil)))))))))))))))))
      (pss_cons (ps_for (passes_of rfl) rfl (pi_range1 rfl T.n_range (pa_cons pe_int pa_nil)) (pg_name (i := 3) sc_law.nd rfl (Or.inl rfl)) (pss_cons (ps_set (i := 4) sc_law.nd rfl (Or.inl rfl) (pcal C_L_drawn_thing hr (by omega) rfl (takes_of rfl rfl rfl rfl) (pa_cons (pv 1) (pa_cons pe_int pa_nil))))
      (pss_cons (ps_if (pt_cmpR (op_eqM (K := g.K) rfl hr.units) (pcal C_L_draw hr (by omega) rfl (takes_of rfl rfl rfl rfl) (pa_cons (pv 1) (pa_cons pe_int pa_nil))) pe_int (nomark _)) (pss_one (ps_set (i := 4) sc_law.nd rfl (Or.inl rfl) (pcal C_L_nested hr (by omega) rfl (takes_of rfl rfl rfl rfl) (pa_cons (pv 1) (pa_cons pe_int pa_nil))))) (pss_one (ps_if (pt_cmpR (op_eqM (K := g.K) rfl hr.units) (pcal C_L_draw hr (by omega) rfl (takes_of rfl rfl rfl rfl) (pa_cons (pv 1) (pa_cons pe_int pa_nil))) pe_int (nomark _)) (pss_one (ps_set (i := 4) sc_law.nd rfl (Or.inl rfl) (pcal C_L_some hr (by omega) rfl (takes_of rfl rfl rfl rfl) (pa_cons (pv 1) (pa_cons (pe_op (op_addM (K := g.K) rfl) (pv 2) ((pe_lst (pa_cons (pcal C_L_deep hr (by omega) rfl (takes_of rfl rfl rfl rfl) (pa_cons pe_int pa_nil)) (pa_cons (pcal C_L_deep hr (by omega) rfl (takes_of rfl rfl rfl rfl) (pa_cons pe_int pa_nil)) (pa_cons (pe_makeS Z.mk_Forest F_Forest_init (hr.mono (by omega)) rfl Z.Forest B_Forest_init (fun σ => passAt (takes_of rfl rfl rfl rfl) σ) (pa_cons (pe_tup (pa_cons pe_non pa_nil)) (pa_cons (pe_tup (pa_cons pe_int pa_nil)) pa_nil))) (pa_cons (pe_tup (pa_cons (pe_makeS Z.mk_Forest F_Forest_init (hr.mono (by omega)) rfl Z.Forest B_Forest_init (fun σ => passAt (takes_of rfl rfl rfl rfl) σ) (pa_cons (pe_tup (pa_cons pe_non pa_nil)) (pa_cons (pe_tup (pa_cons pe_int pa_nil)) pa_nil))) pa_nil)) pa_nil))))))) pa_nil))))) pss_nil)))
      (pss_cons (ps_set (i := 5) sc_law.nd rfl (Or.inl rfl) (pcal C_L_can_be hr (by omega) rfl (takes_of rfl rfl rfl rfl) (pa_cons (pv 4) (pa_cons pe_int pa_nil))))
      (pss_cons (ps_if (pt_cmpR (op_neM (K := g.K) rfl hr.units) (pcal C_L_given hr (by omega) rfl (takes_of rfl rfl rfl rfl) (pa_cons (pv 4) pa_nil)) (pe_ifExp (pt_val (pv 5)) (pcal C_L_written hr (by omega) rfl (takes_of rfl rfl rfl rfl) (pa_cons (pv 4) pa_nil)) pe_str) (nomark _)) (pss_one (ps_ret pe_bl)) pss_nil)
      (pss_cons (ps_set (i := 6) sc_law.nd rfl (Or.inl rfl) (pe_ifExp (pt_val (pv 5)) (pcal C_L_written hr (by omega) rfl (takes_of rfl rfl rfl rfl) (pa_cons (pv 4) pa_nil)) pe_str))
      (pss_cons (ps_if (PW.pt (pw_and (pt_val (pv 5)) (pw_and1 (pt_not (pt_val (pcal C_L_is hr (by omega) rfl (takes_of rfl rfl rfl rfl) (pa_cons (pcal C_L_told hr (by omega) rfl (takes_of rfl rfl rfl rfl) (pa_cons (pv 6) pa_nil)) (pa_cons (pe_tup (pa_cons pe_str (pa_cons (pv 4) pa_nil))) pa_nil)))))))) (pss_one (ps_ret pe_bl)) pss_nil)
      (pss_cons (ps_for (passes_of rfl) rfl (pi_range1 rfl T.n_range (pa_cons pe_int pa_nil)) (pg_name (i := 7) sc_law.nd rfl (Or.inl rfl)) (pss_cons (ps_set (i := 6) sc_law.nd rfl (Or.inl rfl) (pcal C_L_spoilt hr (by omega) rfl (takes_of rfl rfl rfl rfl) (pa_cons (pv 1) (pa_cons (pv 6) pa_nil))))
      (pss_one (ps_if (pt_not (pt_val (pcal C_L_is hr (by omega) rfl (takes_of rfl rfl rfl rfl) (pa_cons (pcal C_L_told hr (by omega) rfl (takes_of rfl rfl rfl rfl) (pa_cons (pv 6) pa_nil)) (pa_cons (pcal C_L_read hr (by omega) rfl (takes_of rfl rfl rfl rfl) (pa_cons (pv 6) pa_nil)) pa_nil))))) (pss_one (ps_ret pe_bl)) pss_nil))))
      (pss_cons (ps_set (i := 8) sc_law.nd rfl (Or.inl rfl) (pcal C_L_some hr (by omega) rfl (takes_of rfl rfl rfl rfl) (pa_cons (pv 1) (pa_cons ((pe_lst (pa_cons pe_non (pa_cons pe_int (pa_cons ((pe_lst (pa_cons pe_str pa_nil))) (pa_cons (pe_tup (pa_cons pe_str pa_nil)) (pa_cons pe_dnewK (pa_cons pe_bl (pa_cons (pcal C_L_deep hr (by omega) rfl (takes_of rfl rfl rfl rfl) (pa_cons pe_int pa_nil)) (pa_cons (pcal C_L_deep hr (by omega) rfl (takes_of rfl rfl rfl rfl) (pa_cons pe_int pa_nil)) (pa_cons (pe_makeS Z.mk_Forest F_Forest_init (hr.mono (by omega)) rfl Z.Forest B_Forest_init (fun σ => passAt (takes_of rfl rfl rfl rfl) σ) (pa_cons (pe_tup (pa_cons pe_non pa_nil)) (pa_cons (pe_tup (pa_cons pe_int pa_nil)) pa_nil))) pa_nil))))))))))) pa_nil))))
      (pss_one (ps_if (pt_not (pt_val (pcal C_L_is hr (by omega) rfl (takes_of rfl rfl rfl rfl) (pa_cons (pcal C_L_told hr (by omega) rfl (takes_of rfl rfl rfl rfl) (pa_cons (pv 8) pa_nil)) (pa_cons (pe_tup (pa_cons pe_str (pa_cons (pe_un un_neg pe_int) pa_nil))) pa_nil))))) (pss_one (ps_ret pe_bl)) pss_nil)))))))))))
      (pss_one (ps_ret pe_bl))))))
    ((ss_seq (ss_asgG (se_def (sa_cons se_var sa_nil)) sg_name)
      (ss_seq (ss_asgG (se_frz (sl_lst (sa_cons (se_frz (sl_lst sa_nil)) (sa_cons (se_frz (sl_lst (sa_cons se_int sa_nil))) (sa_cons se_dnew (sa_cons se_str (sa_cons se_str (sa_cons se_str (sa_cons se_str (sa_cons se_str (sa_cons (se_op mulS_ok se_str se_int) (sa_cons se_str (sa_cons se_str (sa_cons (se_tup (sa_cons se_int (sa_cons (se_frz (sl_lst sa_nil)) sa_nil))) (sa_cons (se_tup (sa_cons se_str sa_nil)) (sa_cons (se_tup (sa_cons (se_tup sa_nil) (sa_cons (se_tup (sa_cons se_str (sa_cons se_str sa_nil))) sa_nil))) sa_nil)))))))))))))))) sg_name)
      (ss_seq (ss_for (si_rng1 (sa_cons se_int sa_nil)) sg_name (ss_seq (ss_asgG (se_def (sa_cons se_var (sa_cons se_int sa_nil))) sg_name)
      (ss_seq (ss_ifS (st_test (se_op eq_ok (se_def (sa_cons se_var (sa_cons se_int sa_nil))) se_int)) (ss_asgG (se_def (sa_cons se_var (sa_cons se_int sa_nil))) sg_name) (ss_ifS (st_test (se_op eq_ok (se_def (sa_cons se_var (sa_cons se_int sa_nil))) se_int)) (ss_asgG (se_def (sa_cons se_var (sa_cons (se_op add_ok se_var (se_frz (sl_lst (sa_cons (se_def (sa_cons se_int sa_nil)) (sa_cons (se_def (sa_cons se_int sa_nil)) (sa_cons (se_new (cr_Forest_ok g) (sa_cons (se_tup (sa_cons se_non sa_nil)) (sa_cons (se_tup (sa_cons se_int sa_nil)) sa_nil))) (sa_cons (se_tup (sa_cons (se_new (cr_Forest_ok g) (sa_cons (se_tup (sa_cons se_non sa_nil)) (sa_cons (se_tup (sa_cons se_int sa_nil)) sa_nil))) sa_nil)) sa_nil))))))) sa_nil))) sg_name) ss_next))
      (ss_seq (ss_asgG (se_def (sa_cons se_var (sa_cons se_int sa_nil))) sg_name)
      (ss_seq (ss_ifS (st_test (se_op ne_ok (se_def (sa_cons se_var sa_nil)) (se_if (st_tst se_var) (se_def (sa_cons se_var sa_nil)) se_str))) (ss_ret se_bl) ss_next)
      (ss_seq (ss_asgG (se_if (st_tst se_var) (se_def (sa_cons se_var sa_nil)) se_str) sg_name)
      (ss_seq (ss_ifS (st_and (st_tst se_var) (st_not (st_tst (se_def (sa_cons (se_def (sa_cons se_var sa_nil)) (sa_cons (se_tup (sa_cons se_str (sa_cons se_var sa_nil))) sa_nil)))))) (ss_ret se_bl) ss_next)
      (ss_seq (ss_for (si_rng1 (sa_cons se_int sa_nil)) sg_name (ss_seq (ss_asgG (se_def (sa_cons se_var (sa_cons se_var sa_nil))) sg_name)
      (ss_ifS (st_not (st_tst (se_def (sa_cons (se_def (sa_cons se_var sa_nil)) (sa_cons (se_def (sa_cons se_var sa_nil)) sa_nil))))) (ss_ret se_bl) ss_next)))
      (ss_seq (ss_asgG (se_def (sa_cons se_var (sa_cons (se_frz (sl_lst (sa_cons se_non (sa_cons se_int (sa_cons (se_frz (sl_lst (sa_cons se_str sa_nil))) (sa_cons (se_tup (sa_cons se_str sa_nil)) (sa_cons se_dnew (sa_cons se_bl (sa_cons (se_def (sa_cons se_int sa_nil)) (sa_cons (se_def (sa_cons se_int sa_nil)) (sa_cons (se_new (cr_Forest_ok g) (sa_cons (se_tup (sa_cons se_non sa_nil)) (sa_cons (se_tup (sa_cons se_int sa_nil)) sa_nil))) sa_nil))))))))))) sa_nil))) sg_name)
      (ss_ifS (st_not (st_tst (se_def (sa_cons (se_def (sa_cons se_var sa_nil)) (sa_cons (se_tup (sa_cons se_str (sa_cons (se_un neg_ok se_int) sa_nil))) sa_nil))))) (ss_ret se_bl) ss_next))))))))))
      (ss_ret se_bl))))) h
end
end W3
namespace W3
open PySem PySem.Spec PyProof.Rows L2 M3
def txt (cs : List Nat) : Str := ⟨cs.toArray⟩
theorem txt_cps (z : Str) : txt z.cps.toList = z := by unfold txt; rw [Array.toArray_toList]
theorem txt_list (cs : List Nat) : (txt cs).cps.toList = cs := by unfold txt; exact List.toList_toArray
theorem txt_len (cs : List Nat) : (txt cs).length = cs.length := by unfold txt; exact List.size_toArray
theorem txt_inj {a b : List Nat} (h : txt a = txt b) : a = b := by
  have := congrArg (fun z : Str => z.cps.toList) h
  simpa only [txt_list] using this
theorem txt_add (a b : List Nat) : txt a ++ txt b = txt (a ++ b) := StrLaws.ext'' a b
  where StrLaws.ext'' (a b : List Nat) : txt a ++ txt b = txt (a ++ b) := PySem.Str.ext' (by
    show a.toArray ++ b.toArray = (a ++ b).toArray
    simp)
theorem txt_eq {cs : List Nat} {z : Str} : (txt cs = z) ↔ cs = z.cps.toList := by
  constructor
  · intro h; rw [← h, txt_list]
  · intro h; rw [h, txt_cps]
theorem rng_ab (A B : Nat) : sliceRange (A : Int) (B : Int) 1 = (List.range (B - A)).map fun k => A + k := by
  unfold sliceRange
  simp only [show ((1 : Int) > 0) = True from by simp, if_true]
  by_cases h : (A : Int) < B
  · have e3 : (((B : Int) - A + 1 - 1) / 1).toNat = B - A := by simp only [Int.ediv_one]; omega
    simp only [h, if_true, e3]
    refine List.map_congr_left fun k _ => ?_
    omega
  · have : B - A = 0 := by omega
    simp [h, this]
theorem ind_ab (a b n : Nat) : Builtin.Str.strSliceIndices (some (a : Int)) (some (b : Int)) 1 n = (List.range (min b n - min a n)).map fun k => min a n + k := by
  rw [← rng_ab]
  unfold Builtin.Str.strSliceIndices
  simp only [show ((1 : Int) > 0) = True from by simp, if_true]
  rw [if_neg (by omega), if_neg (by omega), show max (0 : Int) (min (a : Int) (n : Int)) = ((min a n : Nat) : Int) by omega, show max (0 : Int) (min (b : Int) (n : Int)) = ((min b n : Nat) : Int) by omega]
theorem ind_to (b n : Nat) : Builtin.Str.strSliceIndices none (some (b : Int)) 1 n = (List.range (min b n - min 0 n)).map fun k => min 0 n + k := by
  rw [← rng_ab]
  unfold Builtin.Str.strSliceIndices
  simp only [show ((1 : Int) > 0) = True from by simp, if_true]
  rw [if_neg (by omega), show max (0 : Int) (min (b : Int) (n : Int)) = ((min b n : Nat) : Int) by omega, show (0 : Int) = ((min 0 n : Nat) : Int) by omega]
theorem ind_from (a n : Nat) : Builtin.Str.strSliceIndices (some (a : Int)) none 1 n = (List.range (min n n - min a n)).map fun k => min a n + k := by
  rw [← rng_ab]
  unfold Builtin.Str.strSliceIndices
  simp only [show ((1 : Int) > 0) = True from by simp, if_true]
  rw [if_neg (by omega), show max (0 : Int) (min (a : Int) (n : Int)) = ((min a n : Nat) : Int) by omega, show (n : Int) = ((min n n : Nat) : Int) by omega]
theorem slice_of {cs : List Nat} {lo hi : Option Int} {A B : Nat} (h : Builtin.Str.strSliceIndices lo hi 1 cs.length = (List.range (min B cs.length - min A cs.length)).map fun k => min A cs.length + k) : Txt.slice (txt cs) lo hi = txt ((cs.drop A).take (B - A)) := by
  have e0 : (cs.drop (min A cs.length)).take (min B cs.length - min A cs.length) = (cs.drop A).take (B - A) := by
    by_cases c : A ≤ cs.length
    · rw [Nat.min_eq_left c]
      by_cases d : B ≤ cs.length
      · rw [Nat.min_eq_left d]
      · rw [Nat.min_eq_right (by omega), List.take_of_length_le (by rw [List.length_drop]; omega), List.take_of_length_le (by rw [List.length_drop]; omega)]
    · rw [show min A cs.length = cs.length by omega, List.drop_length, List.take_nil, List.drop_eq_nil_of_le (show cs.length ≤ A by omega), List.take_nil]
  have e1 : ((List.range (min B cs.length - min A cs.length)).map fun k => min A cs.length + k).filterMap (cs[·]?) = (cs.drop A).take (B - A) := by
    rw [← e0]
    by_cases c : min A cs.length ≤ min B cs.length
    · exact StrLaws.picks cs _ _ (by omega)
    · rw [show min B cs.length - min A cs.length = 0 by omega]; simp
  unfold Txt.slice
  rw [txt_len, h]
  have e2 : (((List.range (min B cs.length - min A cs.length)).map fun k => min A cs.length + k).filterMap ((txt cs).cps[·]?)).toArray = ((cs.drop A).take (B - A)).toArray := by
    rw [← e1]
    congr 2
    funext k
    unfold txt
    simp
  split
  · rename_i q
    have q : min B cs.length - min A cs.length = cs.length := by simpa using q
    have l : ((cs.drop A).take (B - A)).length = cs.length := by rw [← e0, List.length_take, List.length_drop]; omega
    have s : ((cs.drop A).take (B - A)).Sublist cs := (List.take_sublist _ _).trans (List.drop_sublist _ _)
    rw [s.eq_of_length l]
  · rw [e2]; rfl
theorem slice_ab (cs : List Nat) (a b : Nat) : Txt.slice (txt cs) (some (a : Int)) (some (b : Int)) = txt ((cs.drop a).take (b - a)) := slice_of (ind_ab a b _)
theorem slice_to (cs : List Nat) (b : Nat) : Txt.slice (txt cs) none (some (b : Int)) = txt (cs.take b) := by
  rw [slice_of (A := 0) (ind_to b _), List.drop_zero, Nat.sub_zero]
theorem slice_from (cs : List Nat) (a : Nat) : Txt.slice (txt cs) (some (a : Int)) none = txt (cs.drop a) := by
  rw [slice_of (A := a) (B := cs.length) (ind_from a _), List.take_of_length_le (by rw [List.length_drop]; omega)]
def isF (c : Nat) : Bool := decide (48 ≤ c) && decide (c ≤ 57)
def isL (c : Nat) : Bool := decide (97 ≤ c) && decide (c ≤ 122)
def FZ : Str := "0123456789"
def LZ : Str := "abcdefghijklmnopqrstuvwxyz"
theorem FZ_eq : FZ.cps.toList = (List.range 58).filter isF := by decide +kernel
theorem LZ_eq : LZ.cps.toList = (List.range 123).filter isL := by decide +kernel
theorem mem_F (c : Nat) : decide (c ∈ FZ.cps.toList) = isF c := by
  rw [FZ_eq, Bool.eq_iff_iff, decide_eq_true_iff, List.mem_filter, List.mem_range]
  refine ⟨fun h => h.2, fun h => ⟨?_, h⟩⟩
  unfold isF at h
  rw [Bool.and_eq_true] at h
  have := of_decide_eq_true h.2
  omega
theorem mem_L (c : Nat) : decide (c ∈ LZ.cps.toList) = isL c := by
  rw [LZ_eq, Bool.eq_iff_iff, decide_eq_true_iff, List.mem_filter, List.mem_range]
  refine ⟨fun h => h.2, fun h => ⟨?_, h⟩⟩
  unfold isL at h
  rw [Bool.and_eq_true] at h
  have := of_decide_eq_true h.2
  omega
theorem isF_iff {c : Nat} : isF c = true ↔ 48 ≤ c ∧ c ≤ 57 := by unfold isF; rw [Bool.and_eq_true, decide_eq_true_iff, decide_eq_true_iff]
theorem isL_iff {c : Nat} : isL c = true ↔ 97 ≤ c ∧ c ≤ 122 := by unfold isL; rw [Bool.and_eq_true, decide_eq_true_iff, decide_eq_true_iff]
theorem isL_not_F {c : Nat} (h : isL c = true) : isF c = false := by
  have := isL_iff.mp h
  cases e : isF c with
  | false => rfl
  | true => have := isF_iff.mp e; omega
def run (f : Nat → Bool) : Nat → List Nat → Nat
  | n + 1, c :: l => if f c = true then run f n l + 1 else 0
  | _, _ => 0
theorem run_nil (f : Nat → Bool) (n : Nat) : run f n [] = 0 := by cases n <;> rfl
theorem run_zero (f : Nat → Bool) (l : List Nat) : run f 0 l = 0 := by cases l <;> rfl
theorem run_t {f : Nat → Bool} {c : Nat} (h : f c = true) (n : Nat) (l : List Nat) : run f (n + 1) (c :: l) = run f n l + 1 := if_pos h
theorem run_f {f : Nat → Bool} {c : Nat} (h : f c = false) (n : Nat) (l : List Nat) : run f n (c :: l) = 0 := by
  cases n with
  | zero => rfl
  | succ n => exact if_neg (by rw [h]; exact Bool.false_ne_true)
theorem run_le (f : Nat → Bool) : ∀ (n : Nat) (l : List Nat), run f n l ≤ n ∧ run f n l ≤ l.length
  | 0, l => by rw [run_zero]; omega
  | n + 1, [] => by rw [run_nil]; omega
  | n + 1, c :: l => by
    cases h : f c with
    | true => have := run_le f n l; rw [run_t h, List.length_cons]; omega
    | false => rw [run_f h]; omega
theorem run_all (f : Nat → Bool) : ∀ (n : Nat) (l : List Nat), ∀ c ∈ l.take (run f n l), f c = true
  | 0, l, c, m => by rw [run_zero, List.take_zero] at m; cases m
  | n + 1, [], c, m => by rw [List.take_nil] at m; cases m
  | n + 1, d :: l, c, m => by
    cases h : f d with
    | true =>
      rw [run_t h, List.take_succ_cons] at m
      rcases List.mem_cons.mp m with rfl | m
      · exact h
      · exact run_all f n l c m
    | false => rw [run_f h, List.take_zero] at m; cases m
theorem run_app (f : Nat → Bool) : ∀ (n : Nat) (w r : List Nat), (∀ c ∈ w, f c = true) → w.length ≤ n → (w.length = n ∨ ∀ c l, r = c :: l → f c = false) → run f n (w ++ r) = w.length
  | n, [], r, _, _, h => by
    rw [List.nil_append]
    rcases h with h | h
    · rw [← h]; exact run_zero f r
    · cases r with
      | nil => exact run_nil f n
      | cons c l => exact run_f (h c l rfl) n l
  | 0, c :: w, r, _, hl, _ => by rw [List.length_cons] at hl; omega
  | n + 1, c :: w, r, ha, hl, h => by
    rw [List.cons_append, run_t (ha c List.mem_cons_self), run_app f n w r (fun d m => ha d (List.mem_cons_of_mem _ m)) (by rw [List.length_cons] at hl; omega) (h.imp (fun h => by rw [List.length_cons] at h; omega) id), List.length_cons]
def num (ds : List Nat) : Int := ((NumText.digitsVal ds : Nat) : Int)
theorem int_num {ds : List Nat} (h : ∀ c ∈ ds, isF c = true) (h1 : ds ≠ []) (h2 : ds.length ≤ 600) : PySem.intText? (txt ds) = some (num ds) := by
  have := intText_digits (x := txt ds) (by rw [txt_list]; exact fun c m => isF_iff.mp (h c m)) (by rw [txt_list]; exact h1) (by rw [txt_len]; omega)
  rw [txt_list] at this
  exact this
theorem int_neg {ds : List Nat} (h : ∀ c ∈ ds, isF c = true) (h1 : ds ≠ []) (h2 : ds.length ≤ 600) : PySem.intText? (txt (45 :: ds)) = some (-num ds) :=
  intText_neg (x := txt (45 :: ds)) (cs := ds) (txt_list _) (fun c m => isF_iff.mp (h c m)) h1 (by rw [txt_len, List.length_cons]; omega)
end W3
namespace W3
open PySem PySem.Spec PyProof.Rows L2 M3
inductive RT
  | ok (p : P) (k : Nat)
  | bad (k : Nat)
def RT.up (j : Nat) : RT → RT
  | .ok p k => .ok p (j + k)
  | .bad k => .bad (j + k)
def YESZ : Str := "yes"
def NOZ : Str := "no"
def yesL : List Nat := YESZ.cps.toList
def noL : List Nat := NOZ.cps.toList
def word (w : List Nat) : P := if w = yesL then .bl true else if w = noL then .bl false else .str (txt w)
def minus (l : List Nat) : RT := if run isF 20 l = 0 ∨ l.head? = some 48 then .ok .non 1 else .ok (.int (-num (l.take (run isF 20 l)))) (1 + run isF 20 l)
/-- an item that is no tuple -/
def item (l : List Nat) : RT := match l with
  | [] => .bad 0
  | c :: r => if c = 45 then minus r else if c = 48 then .ok (.int 0) 1 else if 0 < run isF 20 l then .ok (.int (num (l.take (run isF 20 l)))) (run isF 20 l) else if run isL 20 l = 0 then .bad 0 else .ok (word (l.take (run isL 20 l))) (run isL 20 l)
def tl (f : List Nat → RT) : Nat → List Nat → List P → RT
  | 0, _, _ => .bad 0
  | n + 1, l, acc => match f l with
    | .bad k => .bad k
    | .ok p k => match l.drop k with
      | [] => .bad k
      | c :: r => if c = 44 then (tl f n r (acc ++ [p])).up (k + 1) else if c = 41 then .ok (.tup (acc ++ [p])) (k + 1) else .bad k
def parts (f : List Nat → RT) (l : List Nat) : RT := match l with
  | [] => tl f 1 [] []
  | c :: r => if c = 41 then .ok (.tup []) 1 else tl f (r.length + 2) (c :: r) []
def rd1 (z : Bool) (f : List Nat → RT) (l : List Nat) : RT := match l with
  | [] => .bad 0
  | c :: r => if c = 40 ∧ z = true then (parts f r).up 1 else item l
def rdT : Nat → List Nat → RT
  | 0 => rd1 false fun _ => .bad 0
  | d + 1 => rd1 true (rdT d)
def RT.Fine (n : Nat) : RT → Prop
  | .ok _ k => 1 ≤ k ∧ k ≤ n
  | .bad k => k ≤ n
theorem item_fine (l : List Nat) : (item l).Fine l.length := by
  unfold item
  cases l with
  | nil => exact Nat.le_refl _
  | cons c r =>
    simp only
    have h1 := run_le isF 20 (c :: r)
    have h2 := run_le isL 20 (c :: r)
    have h3 := run_le isF 20 r
    have hl : (c :: r).length = r.length + 1 := rfl
    split
    · unfold minus
      split
      · exact ⟨Nat.le_refl _, by omega⟩
      · exact ⟨by omega, by omega⟩
    · split
      · exact ⟨Nat.le_refl _, by omega⟩
      · split
        · rename_i q; exact ⟨q, h1.2⟩
        · split
          · exact Nat.zero_le _
          · rename_i q; exact ⟨Nat.pos_of_ne_zero q, h2.2⟩
theorem Fine.up {j n : Nat} {r : RT} (h : r.Fine n) : (r.up j).Fine (j + n) := by
  cases r with
  | ok p k => exact ⟨by have := h.1; omega, by have := h.2; omega⟩
  | bad k => exact Nat.add_le_add_left h j
theorem Fine.le {m n : Nat} {r : RT} (h : r.Fine m) (e : m ≤ n) : r.Fine n := by
  cases r with
  | ok p k => exact ⟨h.1, Nat.le_trans h.2 e⟩
  | bad k => exact Nat.le_trans h e
theorem tl_fine {f : List Nat → RT} (hf : ∀ l, (f l).Fine l.length) : ∀ (n : Nat) (l : List Nat) (acc : List P), (tl f n l acc).Fine l.length
  | 0, l, acc => Nat.zero_le _
  | n + 1, l, acc => by
    unfold tl
    have h := hf l
    cases e : f l with
    | bad k => rw [e] at h; exact h
    | ok p k =>
      rw [e] at h
      obtain ⟨h1, h2⟩ := h
      simp only
      cases e2 : l.drop k with
      | nil => exact h2
      | cons c r =>
        have hl := congrArg List.length e2
        rw [List.length_drop, List.length_cons] at hl
        simp only
        split
        · exact Fine.le (Fine.up (j := k + 1) (tl_fine hf n r (acc ++ [p]))) (by omega)
        · split
          · exact ⟨by omega, by omega⟩
          · exact h2
theorem parts_fine {f : List Nat → RT} (hf : ∀ l, (f l).Fine l.length) (l : List Nat) : (parts f l).Fine l.length := by
  unfold parts
  cases l with
  | nil => exact tl_fine hf 1 [] []
  | cons c r =>
    simp only
    split
    · exact ⟨Nat.le_refl _, by rw [List.length_cons]; omega⟩
    · exact tl_fine hf _ _ _
theorem rd1_fine {z : Bool} {f : List Nat → RT} (hf : ∀ l, (f l).Fine l.length) (l : List Nat) : (rd1 z f l).Fine l.length := by
  unfold rd1
  cases l with
  | nil => exact Nat.le_refl _
  | cons c r =>
    simp only
    split
    · exact Fine.le (Fine.up (j := 1) (parts_fine hf r)) (by rw [List.length_cons]; omega)
    · exact item_fine _
theorem rdT_fine : ∀ (d : Nat) (l : List Nat), (rdT d l).Fine l.length
  | 0, l => rd1_fine (fun _ => Nat.zero_le _) l
  | d + 1, l => rd1_fine (rdT_fine d) l
inductive Due
  | item
  | first
  | done
  deriving DecidableEq
/-- what the whole reading tells: the thing, or the place -/
inductive Ans
  | let_ (p : P)
  | bad (k : Nat)
def mach : List Nat → List P → List (List P) → Due → Nat → Nat → Ans
  | [], top, st, due, a, _ => if due = .done ∧ st = [] then .let_ (top.headD .non) else .bad a
  | c :: r, top, st, due, a, s + 1 => mach r top st due (a + 1) s
  | c :: r, top, st, due, a, 0 =>
    if c = 41 ∧ st ≠ [] ∧ due ≠ .item then (match st with
      | [] => .bad a
      | u :: st' => mach r (u ++ [.tup top]) st' .done (a + 1) 0)
    else if c = 44 ∧ st ≠ [] ∧ due = .done then mach r top st .item (a + 1) 0
    else if c = 40 ∧ due ≠ .done ∧ st.length < 20 then mach r [] (top :: st) .first (a + 1) 0
    else if due = .done then .bad a
    else match item (c :: r) with
      | .bad _ => .bad a
      | .ok p k => mach r (top ++ [p]) st .done (a + 1) (k - 1)
theorem mach_s (c : Nat) (r : List Nat) (top : List P) (st : List (List P)) (due : Due) (a s : Nat) : mach (c :: r) top st due a (s + 1) = mach r top st due (a + 1) s := by rw [mach]
theorem mach_skip : ∀ (k : Nat) {l : List Nat} {top : List P} {st : List (List P)} {due : Due} {a : Nat}, k ≤ l.length → mach l top st due a k = mach (l.drop k) top st due (a + k) 0
  | 0, _, _, _, _, _, _ => rfl
  | k + 1, [], _, _, _, _, h => by rw [List.length_nil] at h; omega
  | k + 1, c :: r, top, st, due, a, h => by
    rw [List.drop_succ_cons, show a + (k + 1) = (a + 1) + k by omega, ← mach_skip k (by rw [List.length_cons] at h; omega), mach_s]
/-- one item: what the machine makes of it -/
def Big (r : RT) (l : List Nat) (top : List P) (st : List (List P)) (due : Due) (a : Nat) : Prop := match r with
  | .ok p k => mach l top st due a 0 = mach (l.drop k) (top ++ [p]) st .done (a + k) 0
  | .bad k => mach l top st due a 0 = .bad (a + k)
theorem item_41 (r : List Nat) : item (41 :: r) = .bad 0 := by
  unfold item
  simp only
  rw [if_neg (by decide), if_neg (by decide), run_f (by decide), if_neg (by decide), run_f (by decide), if_pos rfl]
theorem big_item {l : List Nat} {top : List P} {st : List (List P)} {due : Due} {a : Nat} (h1 : due ≠ .done) (h2 : due = .first → l.head? ≠ some 41) (h3 : l.head? = some 40 → ¬ st.length < 20) : Big (item l) l top st due a := by
  cases l with
  | nil => show mach [] top st due a 0 = .bad (a + 0); unfold mach; rw [if_neg (fun q => h1 q.1)]; rfl
  | cons c r =>
    have f := item_fine (c :: r)
    have e : mach (c :: r) top st due a 0 = (match item (c :: r) with
      | .bad _ => .bad a
      | .ok p k => mach r (top ++ [p]) st .done (a + 1) (k - 1)) := by
      by_cases d41 : c = 41 ∧ st ≠ [] ∧ due ≠ .item
      · obtain ⟨rfl, _, d⟩ := d41
        cases due with
        | item => exact (d rfl).elim
        | first => exact (h2 rfl rfl).elim
        | done => exact (h1 rfl).elim
      · conv => lhs; unfold mach
        rw [if_neg d41, if_neg (fun q => h1 q.2.2), if_neg (fun q => h3 (by rw [q.1]; rfl) q.2.2), if_neg h1]
    unfold Big
    cases q : item (c :: r) with
    | bad k =>
      simp only [q] at e ⊢
      rw [e]
      have : k = 0 := by
        unfold item at q
        simp only at q
        split at q
        · unfold minus at q; split at q <;> cases q
        · split at q
          · cases q
          · split at q
            · cases q
            · split at q
              · cases q; rfl
              · cases q
      rw [this]; rfl
    | ok p k =>
      rw [q] at f
      obtain ⟨f1, f2⟩ := f
      simp only [q] at e ⊢
      rw [e, mach_skip (k - 1) (by rw [List.length_cons] at f2; omega)]
      obtain ⟨k, rfl⟩ : ∃ j, k = j + 1 := ⟨k - 1, by omega⟩
      rw [List.drop_succ_cons, Nat.add_sub_cancel, show a + 1 + k = a + (k + 1) by omega]
theorem big_tl {f : List Nat → RT} (hf : ∀ l, (f l).Fine l.length) {st : List (List P)} {u : List P} (hb : ∀ l top due a, due ≠ .done → (due = .first → l.head? ≠ some 41) → Big (f l) l top (u :: st) due a) : ∀ (n : Nat) (l : List Nat) (acc : List P) (due : Due) (a : Nat), l.length < n → due ≠ .done → (due = .first → l.head? ≠ some 41) →
    (match tl f n l acc with
    | .ok p k => mach l acc (u :: st) due a 0 = mach (l.drop k) (u ++ [p]) st .done (a + k) 0
    | .bad k => mach l acc (u :: st) due a 0 = .bad (a + k))
  | 0, l, acc, due, a, hn, _, _ => by omega
  | n + 1, l, acc, due, a, hn, h1, h2 => by
    have b := hb l acc due a h1 h2
    have fn := hf l
    unfold tl
    unfold Big at b
    cases e : f l with
    | bad k => rw [e] at b; exact b
    | ok p k =>
      rw [e] at b fn
      simp only at b ⊢
      obtain ⟨f1, f2⟩ := fn
      rw [b]
      cases e2 : l.drop k with
      | nil =>
        simp only
        unfold mach
        rw [if_neg (fun q => nomatch q.2)]
      | cons c r =>
        have hl := congrArg List.length e2
        rw [List.length_drop, List.length_cons] at hl
        have e3 : l.drop (k + 1) = r := by rw [← List.drop_drop, e2]; rfl
        simp only
        by_cases c1 : c = 44
        · subst c1
          rw [if_pos rfl]
          have m : mach (44 :: r) (acc ++ [p]) (u :: st) .done (a + k) 0 = mach r (acc ++ [p]) (u :: st) .item (a + k + 1) 0 := by
            conv => lhs; unfold mach
            rw [if_neg (fun q => absurd q.1 (by decide)), if_pos ⟨rfl, by simp, rfl⟩]
          rw [m]
          have ih := big_tl hf hb n r (acc ++ [p]) .item (a + k + 1) (by omega) (by decide) (fun q => nomatch q)
          cases e4 : tl f n r (acc ++ [p]) with
          | bad j =>
            rw [e4] at ih
            simp only [RT.up] at ih ⊢
            rw [ih]; congr 1; omega
          | ok q j =>
            rw [e4] at ih
            simp only [RT.up] at ih ⊢
            rw [ih, show k + 1 + j = (k + 1) + j from rfl, ← List.drop_drop, e3]; congr 1; omega
        · rw [if_neg c1]
          by_cases c2 : c = 41
          · subst c2
            rw [if_pos rfl]
            simp only
            conv => lhs; unfold mach
            rw [if_pos ⟨rfl, by simp, by decide⟩, e3]
            rfl
          · rw [if_neg c2]
            simp only
            conv => lhs; unfold mach
            rw [if_neg (fun q => c2 q.1), if_neg (fun q => c1 q.1), if_neg (fun q => q.2.1 rfl), if_pos rfl]
theorem big_rd1 {z : Bool} {f : List Nat → RT} (hf : ∀ l, (f l).Fine l.length) {st : List (List P)} (hz : z = decide (st.length < 20)) (hb : z = true → ∀ u l top due a, due ≠ .done → (due = .first → l.head? ≠ some 41) → Big (f l) l top (u :: st) due a)
    {l : List Nat} {top : List P} {due : Due} {a : Nat} (h1 : due ≠ .done) (h2 : due = .first → l.head? ≠ some 41) : Big (rd1 z f l) l top st due a := by
  cases l with
  | nil => show mach [] top st due a 0 = .bad (a + 0); unfold mach; rw [if_neg (fun q => h1 q.1)]; rfl
  | cons c r =>
    by_cases c1 : c = 40 ∧ z = true
    · have hz' : st.length < 20 := by rw [c1.2] at hz; exact of_decide_eq_true hz.symm
      have e : rd1 z f (c :: r) = (parts f r).up 1 := by unfold rd1; simp only; rw [if_pos c1]
      obtain ⟨rfl, cz⟩ := c1
      have m : mach (40 :: r) top st due a 0 = mach r [] (top :: st) .first (a + 1) 0 := by
        conv => lhs; unfold mach
        rw [if_neg (by simp), if_neg (by simp), if_pos ⟨rfl, h1, hz'⟩]
      have g := fun l top' due a => hb cz top l top' due a
      have key : ∀ n, r.length < n → r.head? ≠ some 41 → Big ((tl f n r []).up 1) (40 :: r) top st due a := fun n hn h41 => by
        have t := big_tl hf (st := st) (u := top) g n r [] .first (a + 1) hn (by decide) (fun _ => h41)
        unfold Big
        cases e4 : tl f n r [] with
        | bad j =>
          rw [e4] at t
          simp only [RT.up] at t ⊢
          rw [m, t]; congr 1; omega
        | ok q j =>
          rw [e4] at t
          simp only [RT.up] at t ⊢
          rw [m, t, Nat.add_comm 1 j, List.drop_succ_cons]; congr 1; omega
      rw [e]
      cases r with
      | nil => exact key 1 (by simp) (by simp)
      | cons d r' =>
        by_cases c2 : d = 41
        · subst c2
          have e5 : parts f (41 :: r') = .ok (.tup []) 1 := rfl
          rw [e5]
          show mach (40 :: 41 :: r') top st due a 0 = mach ((40 :: 41 :: r').drop (1 + 1)) (top ++ [.tup []]) st .done (a + (1 + 1)) 0
          rw [m]
          conv => lhs; unfold mach
          rw [if_pos ⟨rfl, by simp, by decide⟩]
          rfl
        · have e5 : parts f (d :: r') = tl f (r'.length + 2) (d :: r') [] := by unfold parts; simp only; rw [if_neg c2]
          rw [e5]
          exact key _ (by rw [List.length_cons]; omega) (by simpa using c2)
    · have e : rd1 z f (c :: r) = item (c :: r) := by unfold rd1; simp only; rw [if_neg c1]
      rw [e]
      refine big_item h1 h2 fun q => ?_
      have q : c = 40 := by simpa using q
      intro lt
      rw [decide_eq_true lt] at hz
      exact c1 ⟨q, hz⟩
theorem big_rdT : ∀ (d : Nat) {st : List (List P)} {l : List Nat} {top : List P} {due : Due} {a : Nat}, st.length + d = 20 → due ≠ .done → (due = .first → l.head? ≠ some 41) → Big (rdT d l) l top st due a
  | 0, st, l, top, due, a, h, h1, h2 => big_rd1 (z := false) (f := fun _ => .bad 0) (st := st) (fun _ => Nat.zero_le _) (by rw [decide_eq_false (by omega)]) (fun q => nomatch q) h1 h2
  | d + 1, st, l, top, due, a, h, h1, h2 => big_rd1 (z := true) (f := rdT d) (st := st) (rdT_fine d) (by rw [decide_eq_true (by omega)]) (fun _ u l top due a h1 h2 => big_rdT d (by rw [List.length_cons]; omega) h1 h2) h1 h2
/-- the whole reading -/
def readT (l : List Nat) : Ans := match rdT 20 l with
  | .bad k => .bad k
  | .ok p k => if k < l.length then .bad k else .let_ p
theorem mach_read (l : List Nat) : mach l [] [] .item 0 0 = readT l := by
  have b := big_rdT 20 (st := []) (l := l) (top := []) (due := .item) (a := 0) rfl (by decide) (fun q => nomatch q)
  have f := rdT_fine 20 l
  unfold readT
  unfold Big at b
  cases e : rdT 20 l with
  | bad k => rw [e] at b; simp only [Nat.zero_add] at b ⊢; exact b
  | ok p k =>
    rw [e] at b f
    obtain ⟨f1, f2⟩ := f
    simp only [Nat.zero_add, List.nil_append] at b ⊢
    rw [b]
    cases e2 : l.drop k with
    | nil =>
      have hl := congrArg List.length e2
      rw [List.length_drop, List.length_nil] at hl
      rw [if_neg (by omega)]
      unfold mach
      rw [if_pos ⟨rfl, rfl⟩]
      rfl
    | cons c r =>
      have hl := congrArg List.length e2
      rw [List.length_drop, List.length_cons] at hl
      rw [if_pos (by omega)]
      conv => lhs; unfold mach
      rw [if_neg (by simp), if_neg (by simp), if_neg (by simp), if_pos rfl]
end W3
namespace W3
open PySem PySem.Spec PyProof.Rows L2 M3
def digs (n : Nat) : List Nat := (Nat.toDigits 10 n).map Char.toNat
def digI (i : Int) : List Nat := if 0 ≤ i then digs i.toNat else 45 :: digs (-i).toNat
theorem strI_eq (i : Int) : strI i = txt (digI i) := by
  rw [← txt_cps (strI i)]
  congr 1
  unfold digI
  by_cases h : 0 ≤ i
  · rw [if_pos h]
    obtain ⟨m, rfl⟩ := Int.eq_ofNat_of_zero_le h
    have e : (strI (m : Int)).cps.toList = (Nat.toDigits 10 m).map Char.toNat := by
      show (PySem.Str.ofString (toString ((m : Nat) : Int))).cps.toList = _
      rw [signs_ofString]
      show (Nat.repr m).toList.map Char.toNat = _
      rw [Nat.toList_repr]
    rw [e]; rfl
  · rw [if_neg h]
    obtain ⟨m, rfl⟩ : ∃ m : Nat, i = Int.negSucc m := ⟨(-i - 1).toNat, by omega⟩
    have e : (strI (Int.negSucc m)).cps.toList = 45 :: (Nat.toDigits 10 (m + 1)).map Char.toNat := by
      show (PySem.Str.ofString ("-" ++ Nat.repr (m + 1))).cps.toList = _
      rw [signs_ofString, String.toList_append, List.map_append, Nat.toList_repr]
      rfl
    rw [e, show (-(Int.negSucc m)).toNat = m + 1 by omega]; rfl
theorem digs_F {n : Nat} : ∀ c ∈ digs n, isF c = true := by
  intro c hc
  obtain ⟨ch, hch, e⟩ := List.mem_map.mp hc
  have r := digit_range (Nat.isDigit_of_mem_toDigits (by decide) (by decide) hch)
  rw [← e]
  exact isF_iff.mpr r
theorem digs_len {n : Nat} (h : n < 10 ^ 20) : 1 ≤ (digs n).length ∧ (digs n).length ≤ 20 := by
  unfold digs
  rw [List.length_map]
  refine ⟨toDigits_len_ge 10 n, ?_⟩
  have e := (Nat.length_repr_le_iff (n := n) (by decide : 0 < 20)).mpr h
  rwa [← String.length_toList, Nat.toList_repr] at e
theorem val_back' (m : Nat) : NumText.digitsVal ((Nat.toDigits 10 m).map Char.toNat) = m := by
  induction m using Nat.strongRecOn with
  | _ m ih =>
    have dg : ∀ d : Nat, d < 10 → (Nat.digitChar d).toNat - 48 = d := by decide
    by_cases h : m < 10
    · rw [Nat.toDigits_of_lt_base h]
      have e := dg m h
      show 0 * 10 + ((Nat.digitChar m).toNat - 48) = m
      omega
    · have hm : m % 10 < 10 := Nat.mod_lt m (by decide)
      have t : Nat.toDigits 10 (m / 10) ++ Nat.toDigits 10 (m % 10) = Nat.toDigits 10 (10 * (m / 10) + m % 10) := Nat.toDigits_append_toDigits (by decide) (by omega) hm
      rw [Nat.div_add_mod] at t
      rw [← t, List.map_append, Nat.toDigits_of_lt_base hm]
      have sn : ∀ (cs : List Nat) (c : Nat), NumText.digitsVal (cs ++ [c]) = NumText.digitsVal cs * 10 + (c - 48) := fun cs c => by
        unfold NumText.digitsVal
        rw [List.foldl_append]; rfl
      show NumText.digitsVal ((Nat.toDigits 10 (m / 10)).map Char.toNat ++ [(Nat.digitChar (m % 10)).toNat]) = m
      rw [sn, ih (m / 10) (by omega), dg (m % 10) hm]
      omega
theorem digs_num (n : Nat) : num (digs n) = (n : Int) := by
  unfold num digs
  rw [show NumText.digitsVal ((Nat.toDigits 10 n).map Char.toNat) = n from val_back' n]
theorem digs_head (n : Nat) : 1 ≤ n → ∃ c r, digs n = c :: r ∧ 49 ≤ c ∧ c ≤ 57 := by
  induction n using Nat.strongRecOn with
  | _ n ih =>
    intro h1
    by_cases h : n < 10
    · have dg : ∀ d : Nat, d < 10 → 1 ≤ d → 49 ≤ (Nat.digitChar d).toNat ∧ (Nat.digitChar d).toNat ≤ 57 := by decide
      refine ⟨(Nat.digitChar n).toNat, [], ?_, dg n h h1⟩
      unfold digs
      rw [Nat.toDigits_of_lt_base h]; rfl
    · have hm : n % 10 < 10 := Nat.mod_lt n (by decide)
      have t : Nat.toDigits 10 (n / 10) ++ Nat.toDigits 10 (n % 10) = Nat.toDigits 10 (10 * (n / 10) + n % 10) := Nat.toDigits_append_toDigits (by decide) (by omega) hm
      rw [Nat.div_add_mod] at t
      obtain ⟨c, r, e, hc⟩ := ih (n / 10) (by omega) (by omega)
      refine ⟨c, r ++ (Nat.toDigits 10 (n % 10)).map Char.toNat, ?_, hc⟩
      unfold digs at e ⊢
      rw [← t, List.map_append, e]; rfl
def glue : List (List Nat) → List Nat
  | [] => []
  | [x] => x
  | x :: y :: r => x ++ 44 :: glue (y :: r)
def wr : Nat → P → List Nat
  | _, .non => [45]
  | _, .bl b => if b = true then yesL else noL
  | _, .int i => digI i
  | _, .str z => z.cps.toList
  | n + 1, .tup l => 40 :: (glue (l.map (wr n)) ++ [41])
  | _, _ => []
/-- what can be written, nested at most so deep -/
inductive Wn : Nat → P → Prop
  | non {n : Nat} : Wn n .non
  | bl {n : Nat} {b : Bool} : Wn n (.bl b)
  | int {n : Nat} {i : Int} (h : i.natAbs < 10 ^ 20) : Wn n (.int i)
  | str {n : Nat} {z : Str} (h : 1 ≤ z.length ∧ z.length ≤ 20) (hs : ∀ c ∈ z.cps.toList, isL c = true) (h1 : z ≠ YESZ) (h2 : z ≠ NOZ) : Wn n (.str z)
  | tup {n : Nat} {l : List P} (hl : l.length ≤ 1000) (h : ∀ p ∈ l, Wn n p) : Wn (n + 1) (.tup l)
def Stop (r : List Nat) : Prop := ∀ c l, r = c :: l → c = 44 ∨ c = 41
theorem stop_nil : Stop [] := fun _ _ e => nomatch e
theorem stop_44 (r : List Nat) : Stop (44 :: r) := fun c l e => .inl (List.cons.inj e).1.symm
theorem stop_41 (r : List Nat) : Stop (41 :: r) := fun c l e => .inr (List.cons.inj e).1.symm
theorem Stop.F {r : List Nat} (h : Stop r) : ∀ c l, r = c :: l → isF c = false := fun c l e => by rcases h c l e with rfl | rfl <;> rfl
theorem Stop.L {r : List Nat} (h : Stop r) : ∀ c l, r = c :: l → isL c = false := fun c l e => by rcases h c l e with rfl | rfl <;> rfl
theorem run_stopF {r : List Nat} (h : Stop r) : run isF 20 r = 0 := by
  cases r with
  | nil => rfl
  | cons c l => exact run_f (h.F c l rfl) 20 l
theorem rd1_item {z : Bool} {f : List Nat → RT} {c : Nat} {r : List Nat} (h : c ≠ 40) : rd1 z f (c :: r) = item (c :: r) := if_neg fun q => h q.1
theorem rdT_item {d c : Nat} {r : List Nat} (h : c ≠ 40) : rdT d (c :: r) = item (c :: r) := by cases d <;> exact rd1_item h
theorem rdT_nil {d : Nat} : rdT d [] = .bad 0 := by cases d <;> rfl
theorem item_word {w r : List Nat} (h : 1 ≤ w.length ∧ w.length ≤ 20) (hs : ∀ c ∈ w, isL c = true) (sr : Stop r) : item (w ++ r) = .ok (word w) w.length ∧ ∀ d, rdT d (w ++ r) = .ok (word w) w.length := by
  obtain ⟨c, w', rfl⟩ : ∃ c w', w = c :: w' := by cases w with
    | nil => simp at h
    | cons c w' => exact ⟨c, w', rfl⟩
  have hc := isL_iff.mp (hs c List.mem_cons_self)
  have e : run isL 20 (c :: w' ++ r) = (c :: w').length := run_app isL 20 _ r hs h.2 (.inr sr.L)
  have k : item (c :: w' ++ r) = .ok (word (c :: w')) (c :: w').length := by
    unfold item
    rw [List.cons_append] at e ⊢
    simp only
    rw [if_neg (by omega), if_neg (by omega), run_f (isL_not_F (hs c List.mem_cons_self)), if_neg (by omega), e, if_neg (by rw [List.length_cons]; omega), ← List.cons_append, List.take_left]
  exact ⟨k, fun d => by rw [← k, List.cons_append]; exact rdT_item (by omega)⟩
theorem item_digs {n : Nat} (h : n < 10 ^ 20) {r : List Nat} (sr : Stop r) (d : Nat) : rdT d (digs n ++ r) = .ok (.int (n : Int)) (digs n).length := by
  have hl := digs_len h
  by_cases h0 : n = 0
  · subst h0
    show rdT d (48 :: r) = _
    rw [rdT_item (by decide)]; rfl
  · obtain ⟨c, w, e, h1, h2⟩ := digs_head n (by omega)
    have er : run isF 20 (digs n ++ r) = (digs n).length := run_app isF 20 _ r digs_F hl.2 (.inr sr.F)
    have en := digs_num n
    rw [e] at er en hl ⊢
    rw [List.cons_append, rdT_item (by omega)]
    unfold item
    rw [List.cons_append] at er
    simp only
    rw [if_neg (by omega), if_neg (by omega), er, if_pos (by omega), ← List.cons_append, List.take_left, en]
theorem item_neg {n : Nat} (h0 : 1 ≤ n) (h : n < 10 ^ 20) {r : List Nat} (sr : Stop r) (d : Nat) : rdT d (45 :: digs n ++ r) = .ok (.int (-(n : Int))) (45 :: digs n).length := by
  have hl := digs_len h
  obtain ⟨c, w, e, h1, h2⟩ := digs_head n h0
  have er : run isF 20 (digs n ++ r) = (digs n).length := run_app isF 20 _ r digs_F hl.2 (.inr sr.F)
  have en := digs_num n
  rw [List.cons_append, rdT_item (by decide)]
  show minus (digs n ++ r) = _
  unfold minus
  rw [er, if_neg, List.take_left, en, List.length_cons, Nat.add_comm 1]
  rintro (q | q)
  · omega
  · rw [e, List.cons_append, List.head?_cons] at q
    have := Option.some.inj q
    omega
theorem glue_tl {f : List Nat → RT} {n : Nat} {w : P → List Nat} : ∀ {l : List P}, l ≠ [] → (∀ p ∈ l, ∀ r, Stop r → f (w p ++ r) = .ok p (w p).length) → ∀ (r : List Nat) (acc : List P) (n : Nat), l.length ≤ n → tl f n (glue (l.map w) ++ 41 :: r) acc = .ok (.tup (acc ++ l)) ((glue (l.map w)).length + 1)
  | [], h, _, _, _, _, _ => absurd rfl h
  | [p], _, h, r, acc, n, hn => by
    obtain ⟨n, rfl⟩ : ∃ m, n = m + 1 := ⟨n - 1, by simp at hn; omega⟩
    show tl f (n + 1) (w p ++ 41 :: r) acc = _
    unfold tl
    rw [h p List.mem_cons_self _ (stop_41 r)]
    simp only
    rw [List.drop_left]
    rfl
  | p :: q :: l, _, h, r, acc, n, hn => by
    obtain ⟨n, rfl⟩ : ∃ m, n = m + 1 := ⟨n - 1, by simp at hn; omega⟩
    have ih := glue_tl (f := f) (n := 0) (w := w) (l := q :: l) (by simp) (fun p m => h p (List.mem_cons_of_mem _ m)) r (acc ++ [p]) n (by simp at hn ⊢; omega)
    show tl f (n + 1) ((w p ++ 44 :: glue ((q :: l).map w)) ++ 41 :: r) acc = .ok (.tup (acc ++ p :: q :: l)) ((w p ++ 44 :: glue ((q :: l).map w)).length + 1)
    rw [List.append_assoc, List.cons_append]
    unfold tl
    rw [h p List.mem_cons_self _ (stop_44 _)]
    simp only
    rw [List.drop_left]
    simp only [if_pos]
    rw [ih]
    simp only [RT.up]
    rw [List.append_assoc, List.length_append, List.length_cons]
    congr 1
    omega
theorem rdT_wr : ∀ (n : Nat) {p : P}, Wn n p → ∀ {r : List Nat}, Stop r → rdT n (wr n p ++ r) = .ok p (wr n p).length := by
  intro n
  induction n with
  | zero =>
    intro p h r sr
    cases h with
    | non => exact rdT_nonW sr
    | bl => exact rdT_blW sr
    | int h => exact rdT_intW h sr
    | str h hs h1 h2 => exact rdT_strW h hs h1 h2 sr
  | succ n ih =>
    intro p h r sr
    cases h with
    | non => exact rdT_nonW sr
    | bl => exact rdT_blW sr
    | int h => exact rdT_intW h sr
    | str h hs h1 h2 => exact rdT_strW h hs h1 h2 sr
    | @tup _ l hl h =>
      show rdT (n + 1) (40 :: (glue (l.map (wr n)) ++ [41]) ++ r) = .ok (.tup l) (40 :: (glue (l.map (wr n)) ++ [41])).length
      have e : ∀ x, rdT (n + 1) (40 :: x) = (parts (rdT n) x).up 1 := fun x => by
        rw [show rdT (n + 1) = rd1 true (rdT n) from rfl]
        unfold rd1
        dsimp only
        rw [if_pos (And.intro rfl rfl)]
      rw [List.cons_append, List.append_assoc, e]
      show (parts (rdT n) (glue (l.map (wr n)) ++ 41 :: r)).up 1 = _
      cases l with
      | nil => rfl
      | cons p l =>
        have t := glue_tl (f := rdT n) (n := 0) (w := wr n) (l := p :: l) (by simp) (fun p m r sr => ih (h p m) sr) r []
        have hp : ∃ r', Stop r' ∧ glue ((p :: l).map (wr n)) ++ 41 :: r = wr n p ++ r' := by
          cases l with
          | nil => exact ⟨41 :: r, stop_41 r, rfl⟩
          | cons q l => exact ⟨44 :: (glue ((q :: l).map (wr n)) ++ 41 :: r), stop_44 _, by show (wr n p ++ 44 :: glue ((q :: l).map (wr n))) ++ 41 :: r = _; rw [List.append_assoc, List.cons_append]⟩
        obtain ⟨r', sr', e2⟩ := hp
        have e3 := ih (h p List.mem_cons_self) sr'
        rw [← e2] at e3
        have big : (p :: l).length ≤ (glue ((p :: l).map (wr n)) ++ 41 :: r).length + 1 := glue_big (p :: l)
        cases e4 : glue ((p :: l).map (wr n)) ++ 41 :: r with
        | nil => rw [e4, rdT_nil] at e3; cases e3
        | cons c x =>
          rw [e4] at e3
          have c41 : c ≠ 41 := by
            rintro rfl
            rw [rdT_item (by decide), item_41] at e3
            cases e3
          rw [e4] at big
          have t := t (x.length + 2) (by rw [List.length_cons (a := c)] at big; omega)
          rw [e4] at t
          have pe : parts (rdT n) (c :: x) = tl (rdT n) (x.length + 2) (c :: x) [] := if_neg c41
          rw [pe, t, List.nil_append]
          simp only [RT.up]
          rw [List.length_cons, List.length_append, List.length_singleton]
          congr 1
          omega
  where
    rdT_nonW {n : Nat} {r : List Nat} (sr : Stop r) : rdT n (wr n .non ++ r) = .ok .non (wr n .non).length := by
      have e : wr n .non = [45] := by cases n <;> rfl
      rw [e, List.singleton_append, rdT_item (by decide)]
      show minus r = _
      unfold minus
      rw [run_stopF sr, if_pos (.inl rfl)]; rfl
    rdT_blW {n : Nat} {b : Bool} {r : List Nat} (sr : Stop r) : rdT n (wr n (.bl b) ++ r) = .ok (.bl b) (wr n (.bl b)).length := by
      have e : wr n (.bl b) = if b = true then yesL else noL := by cases n <;> rfl
      rw [e]
      cases b with
      | true => exact (item_word (w := yesL) (by decide +kernel) (by decide +kernel) sr).2 n
      | false => exact (item_word (w := noL) (by decide +kernel) (by decide +kernel) sr).2 n
    rdT_intW {n : Nat} {i : Int} (h : i.natAbs < 10 ^ 20) {r : List Nat} (sr : Stop r) : rdT n (wr n (.int i) ++ r) = .ok (.int i) (wr n (.int i)).length := by
      have e : wr n (.int i) = digI i := by cases n <;> rfl
      rw [e]
      unfold digI
      by_cases c : 0 ≤ i
      · rw [if_pos c, item_digs (n := i.toNat) (by omega) sr, Int.toNat_of_nonneg c]
      · rw [if_neg c, item_neg (n := (-i).toNat) (by omega) (by omega) sr, show -(((-i).toNat : Nat) : Int) = i by omega]
    rdT_strW {n : Nat} {z : Str} (h : 1 ≤ z.length ∧ z.length ≤ 20) (hs : ∀ c ∈ z.cps.toList, isL c = true) (h1 : z ≠ YESZ) (h2 : z ≠ NOZ) {r : List Nat} (sr : Stop r) : rdT n (wr n (.str z) ++ r) = .ok (.str z) (wr n (.str z)).length := by
      have e : wr n (.str z) = z.cps.toList := by cases n <;> rfl
      rw [e, (item_word (w := z.cps.toList) h hs sr).2 n]
      have w : word z.cps.toList = .str z := by
        unfold word
        rw [if_neg (fun q => h1 (by rw [← txt_cps z, q]; exact txt_cps _)), if_neg (fun q => h2 (by rw [← txt_cps z, q]; exact txt_cps _)), txt_cps]
      rw [w]
    glue_big {w : P → List Nat} {x : List Nat} : ∀ l : List P, l.length ≤ (glue (l.map w) ++ x).length + 1
      | [] => Nat.zero_le _
      | [_] => by simp
      | p :: q :: l => by
        have := glue_big (w := w) (x := x) (q :: l)
        show l.length + 1 + 1 ≤ ((w p ++ 44 :: glue ((q :: l).map w)) ++ x).length + 1
        simp only [List.length_append, List.length_cons] at this ⊢
        omega
theorem read_wr {p : P} (h : Wn 20 p) : readT (wr 20 p) = .let_ p := by
  have e := rdT_wr 20 h stop_nil
  rw [List.append_nil] at e
  unfold readT
  rw [e]
  exact if_neg (Nat.lt_irrefl _)
end W3
namespace W3
open PySem PySem.Spec PyProof.Rows L2 M3
theorem fin_xx {r : R Out} {C : Addr} {x : Option (Str × P)} {S : Store} (h : Ends r fun o S' => ∃ δ, o = .ex C x δ ∧ S' = S) : fin r = .exc C x S := by
  obtain ⟨o, S', rfl, δ, rfl, rfl⟩ := h
  rfl
theorem fin_rr {r : R Out} {d : D} {S : Store} (h : Ends r fun o S' => o = .rt d ∧ S' = S) : fin r = .ok d S := by
  obtain ⟨o, S', rfl, rfl, rfl⟩ := h
  rfl
abbrev tD (cs : List Nat) : D := .dat (.str (txt cs))
theorem mSl_e (a : DE) (lo hi : DO) (δ : DEnv) (S : Store) : mSl a lo hi δ S = (a δ S).bind fun x S1 => (lo δ S1).bind fun l S2 => (hi δ S2).bind fun h S3 => oR (aSl S3 x l h) S3 := rfl
theorem moN_e (δ : DEnv) (S : Store) : moN δ S = .ok none S := rfl
theorem moS_e (a : DE) (δ : DEnv) (S : Store) : moS a δ S = (a δ S).bind fun d S1 => match d with
  | .dat (.int i) => .ok (some i) S1
  | _ => .fail := rfl
theorem sl_ab {cs : List Nat} (hl : cs.length ≤ 100000) {a b : Nat} (S : Store) : aSl S (tD cs) (some (a : Int)) (some (b : Int)) = some (tD ((cs.drop a).take (b - a))) := by
  show (if (txt cs).length ≤ 100000 then some (D.dat (.str (Txt.slice (txt cs) _ _))) else none) = _
  rw [txt_len, if_pos hl, slice_ab]
theorem sl_1 {cs : List Nat} (hl : cs.length ≤ 100000) {a : Nat} (S : Store) : aSl S (tD cs) (some (a : Int)) (some ((a : Int) + 1)) = some (tD ((cs.drop a).take 1)) := by
  have := sl_ab hl (a := a) (b := a + 1) S
  rwa [Nat.add_sub_cancel_left] at this
theorem sl_to {cs : List Nat} (hl : cs.length ≤ 100000) {b : Nat} (S : Store) : aSl S (tD cs) none (some (b : Int)) = some (tD (cs.take b)) := by
  show (if (txt cs).length ≤ 100000 then some (D.dat (.str (Txt.slice (txt cs) _ _))) else none) = _
  rw [txt_len, if_pos hl, slice_to]
theorem sl_from {cs : List Nat} (hl : cs.length ≤ 100000) {a : Nat} (S : Store) : aSl S (tD cs) (some (a : Int)) none = some (tD (cs.drop a)) := by
  show (if (txt cs).length ≤ 100000 then some (D.dat (.str (Txt.slice (txt cs) _ _))) else none) = _
  rw [txt_len, if_pos hl, slice_from]
theorem ix_txt {cs : List Nat} (hl : cs.length ≤ 100000) {a c : Nat} (e : cs[a]? = some c) (S : Store) : aIx S (tD cs) (.dat (.int (a : Int))) = some (tD [c]) := by
  show (if (txt cs).length ≤ 100000 then (atI (txt cs).cps.toList (a : Int)).map fun c => D.dat (.str ⟨#[c]⟩) else none) = _
  rw [txt_len, if_pos hl, txt_list, atN e]
  rfl
theorem len_txt {cs : List Nat} (hl : cs.length ≤ 100000) (S : Store) : aLen S [tD cs] = some (.dat (.int (cs.length : Int))) := by
  show (if (txt cs).length ≤ 100000 then some (dInt ((txt cs).length : Nat)) else none) = _
  rw [txt_len, if_pos hl]; rfl
theorem add_txt {cs ds : List Nat} (hl : cs.length + ds.length ≤ 100000) (S : Store) : aAdd S (tD cs) (tD ds) = some (tD (cs ++ ds)) := by
  show (if (txt cs).length + (txt ds).length ≤ 100000 then some (D.dat (.str (txt cs ++ txt ds))) else none) = _
  rw [txt_len, txt_len, if_pos hl, txt_add]
theorem in_txt {c : Nat} {z : Str} (S : Store) : aIn S (tD [c]) (.dat (.str z)) = some (.dat (.bl (decide (c ∈ z.cps.toList)))) := rfl
theorem in_L {c : Nat} (S : Store) : aIn S (tD [c]) (.dat (.str LZ)) = some (.dat (.bl (isL c))) := by rw [in_txt, mem_L]
theorem dec_txt {sg l : List Nat} {z : Str} (hz : z.cps.toList = l) : decide (txt sg = z) = decide (sg = l) := by
  rw [Bool.eq_iff_iff, decide_eq_true_iff, decide_eq_true_iff, txt_eq, hz]
theorem d1 {l : List Nat} {k : Nat} : decide (l.take 1 = [k]) = decide (l.head? = some k) := by
  cases l with
  | nil => rfl
  | cons c l => rw [Bool.eq_iff_iff, decide_eq_true_iff, decide_eq_true_iff]; simp
theorem z40 : ("(" : Str).cps.toList = [40] := by decide +kernel
theorem z41 : (")" : Str).cps.toList = [41] := by decide +kernel
theorem z44 : ("," : Str).cps.toList = [44] := by decide +kernel
theorem z45 : ("-" : Str).cps.toList = [45] := by decide +kernel
theorem z48 : ("0" : Str).cps.toList = [48] := by decide +kernel
/-- the end of the signs of a sort -/
theorem end_of_t (g : G) {cs : List Nat} (hl : cs.length ≤ 90000) {Z : Str} {f : Nat → Bool} (hf : ∀ c, decide (c ∈ Z.cps.toList) = f c) {a : Nat} (S : Store) :
    mPure (m_end_of g) [tD cs, .dat (.int (a : Int)), .dat (.str Z)] S = .ok (.dat (.int ((a + run f 20 (cs.drop a) : Nat) : Int))) S := by
  have ln := fun S => len_txt (cs := cs) (by omega) S
  have ix : ∀ {i b : Nat}, cs[i]? = some b → ∀ S : Store, aIx S (tD cs) (.dat (.int (i : Int))) = some (tD [b]) := fun h S => ix_txt (by omega) h S
  obtain ⟨R0, hR⟩ : ∃ R0, R0 = tD cs := ⟨_, rfl⟩
  have hRp : ∃ p, R0 = .dat p := ⟨_, hR⟩
  rw [← hR] at ln ix ⊢
  refine pure_dat (ps := [.str (txt cs), .int (a : Int), .str Z]) (by rw [hR]; rfl) (S' := []) ?_
  unfold m_end_of
  rw [mBody_fin]
  refine fin_rr ?_
  dsimp! []
  refine then_ends (Q1 := fun o S' => S' = [] ∧ o = .nx [some R0, some (.dat (.int (a : Int))), some (.dat (.str Z)), some (.dat (.int ((a + run f 20 (cs.drop a) : Nat) : Int)))]) ?_ ?_
  · refine while_ends (fun q δ S' => ∃ i, i ≤ 20 ∧ q = 20 - i ∧ S' = [] ∧ i + run f (20 - i) (cs.drop (a + i)) = run f 20 (cs.drop a) ∧ δ = [some R0, some (.dat (.int (a : Int))), some (.dat (.str Z)), some (.dat (.int ((a + i : Nat) : Int)))]) (m := 20) (by decide) ⟨0, by omega, rfl, rfl, by rw [Nat.zero_add]; rfl, rfl⟩ ?_
    rintro q δ S' ⟨i, hi, rfl, rfl, e, rfl⟩
    by_cases c1 : i < 20
    · cases e2 : cs[a + i]? with
      | none =>
        have h2 := List.getElem?_eq_none_iff.mp e2
        have lt : decide (((a + i : Nat) : Int) < if (a : Int) + 20 < (cs.length : Int) then (a : Int) + 20 else (cs.length : Int)) = false := decide_eq_false (by split <;> omega)
        refine ⟨false, [], by dsimp! [ln, lt] <;> rfl, (fun z => nomatch z), fun _ => ⟨rfl, ?_⟩⟩
        rw [List.drop_eq_nil_of_le h2, run_nil] at e
        rw [← e]; rfl
      | some b =>
        have h2 := (List.getElem?_eq_some_iff.mp e2).1
        have lt : decide (((a + i : Nat) : Int) < if (a : Int) + 20 < (cs.length : Int) then (a : Int) + 20 else (cs.length : Int)) = true := decide_eq_true (by split <;> omega)
        have ed : cs.drop (a + i) = b :: cs.drop (a + i + 1) := by
          rw [List.drop_eq_getElem_cons h2]
          congr 1
          exact Option.some.inj ((List.getElem?_eq_getElem h2).symm.trans e2)
        have inn : ∀ S : Store, aIn S (tD [b]) (.dat (.str Z)) = some (.dat (.bl (f b))) := fun S => by rw [in_txt, hf]
        rw [ed, show 20 - i = (20 - (i + 1)) + 1 by omega] at e
        cases hb : f b with
        | true =>
          rw [hb] at inn
          rw [run_t hb] at e
          refine ⟨true, [], by dsimp! [ln, lt, ix e2, inn] <;> rfl, fun _ => ?_, fun z => nomatch z⟩
          unfold mAug
          have au : ∀ S : Store, aAddI S (.dat (.int ((a + i : Nat) : Int))) (.dat (.int 1)) = some (.dat (.int ((a + (i + 1) : Nat) : Int))) := fun _ => rfl
          dsimp! [au]
          exact .of ⟨20 - (i + 1), by omega, i + 1, by omega, rfl, rfl, by rw [← e]; show _ + run f _ (cs.drop (a + i + 1)) = _; omega, rfl⟩
        | false =>
          rw [hb] at inn
          rw [run_f hb] at e
          refine ⟨false, [], by dsimp! [ln, lt, ix e2, inn] <;> rfl, (fun z => nomatch z), fun _ => ⟨rfl, ?_⟩⟩
          rw [← e]; rfl
    · obtain rfl : i = 20 := by omega
      have lt : decide (((a + 20 : Nat) : Int) < if (a : Int) + 20 < (cs.length : Int) then (a : Int) + 20 else (cs.length : Int)) = false := decide_eq_false (by split <;> omega)
      refine ⟨false, [], by dsimp! [ln, lt] <;> rfl, (fun z => nomatch z), fun _ => ⟨rfl, ?_⟩⟩
      rw [Nat.sub_self, run_zero] at e
      rw [← e]
  · rintro o S' ⟨rfl, rfl⟩
    dsimp! []
    exact .of ⟨rfl, rfl⟩
end W3
namespace W3
open PySem PySem.Spec PyProof.Rows L2 M3
def rsT (C : Addr) (S : Store) : RT → R D
  | .bad k => .exc C (some ("place", .int (k : Int))) S
  | .ok p k => .ok (.dat (.tup [p, .int (k : Int)])) S
theorem intT_t {ds : List Nat} {n : Int} (h : PySem.intText? (txt ds) = some n) (hl : ds.length ≤ 600) (S : Store) : aIntT S [tD ds] = some (.dat (.int n)) := by
  show (if (txt ds).length ≤ 640 then (PySem.intText? (txt ds)).map dInt else none) = _
  rw [txt_len, if_pos (by omega), h]; rfl
theorem drop_head {cs : List Nat} {a : Nat} : (cs.drop a).head? = cs[a]? := by rw [List.head?_drop]
theorem behind_minus_t (g : G) {cs : List Nat} (hl : cs.length ≤ 90000) {a : Nat} (S : Store) :
    mPure (m_read_behind_minus g) [tD cs, .dat (.int (a + 1 : Int))] S = rsT g.BadThing S ((minus (cs.drop (a + 1))).up a) := by
  have eo := fun S => end_of_t g hl (Z := FZ) (f := isF) mem_F (a := a + 1) S
  have sl := fun {b : Nat} (S : Store) => sl_ab (cs := cs) (by omega) (a := a + 1) (b := b) S
  have ix : ∀ {i b : Nat}, cs[i]? = some b → ∀ S : Store, aIx S (tD cs) (.dat (.int (i : Int))) = some (tD [b]) := fun h S => ix_txt (by omega) h S
  have l2 : (2 : Nat) ≤ 100000 := by decide
  obtain ⟨R0, hR⟩ : ∃ R0, R0 = tD cs := ⟨_, rfl⟩
  rw [← hR] at eo sl ix ⊢
  have rl := run_le isF 20 (cs.drop (a + 1))
  have ra := run_all isF 20 (cs.drop (a + 1))
  obtain ⟨b, hb⟩ : ∃ b, run isF 20 (cs.drop (a + 1)) = b := ⟨_, rfl⟩
  unfold minus
  rw [hb] at eo rl ra ⊢
  rw [List.length_drop] at rl
  have z0 : ∀ sg, decide (txt sg = "0") = decide (sg = [48]) := fun sg => dec_txt z48
  by_cases c1 : b = 0
  · rw [if_pos (.inl c1)]
    subst c1
    have e1 : decide (((a + 1 + 0 : Nat) : Int) = (a : Int) + 1) = true := decide_eq_true (by omega)
    refine pure_dat (ps := [.str (txt cs), .int (a + 1 : Int)]) (by rw [hR]; rfl) (S' := []) ?_
    unfold m_read_behind_minus
    rw [show ((a : Int) + 1) = ((a + 1 : Nat) : Int) from rfl] at e1 ⊢
    dsimp! [show ("0123456789" : Str) = FZ from rfl, eo, e1, l2]
    all_goals rfl
  · have e1 : decide (((a + 1 + b : Nat) : Int) = (a : Int) + 1) = false := decide_eq_false (by omega)
    have hlt : a + 1 < cs.length := by omega
    have e2 : cs[a + 1]? = some cs[a + 1] := List.getElem?_eq_getElem hlt
    obtain ⟨c, hc⟩ : ∃ c, cs[a + 1] = c := ⟨_, rfl⟩
    rw [hc] at e2
    have hd : (cs.drop (a + 1)).head? = some c := by rw [drop_head, e2]
    by_cases c2 : c = 48
    · rw [if_pos (.inr (by rw [hd, c2]))]
      have e3 : decide (txt [c] = "0") = true := by rw [z0]; exact decide_eq_true (by rw [c2])
      refine pure_dat (ps := [.str (txt cs), .int (a + 1 : Int)]) (by rw [hR]; rfl) (S' := []) ?_
      unfold m_read_behind_minus
      rw [show ((a : Int) + 1) = ((a + 1 : Nat) : Int) from rfl] at e1 ⊢
      dsimp! [show ("0123456789" : Str) = FZ from rfl, eo, e1, ix e2, e3, l2]
      all_goals rfl
    · rw [if_neg (fun q => q.elim c1 fun q => c2 (Option.some.inj (hd.symm.trans q)))]
      have e3 : decide (txt [c] = "0") = false := by rw [z0]; exact decide_eq_false (by simpa using c2)
      have tl_ : ((cs.drop (a + 1)).take b).length = b := by rw [List.length_take, List.length_drop]; omega
      have it := fun S => intT_t (int_num ra (by intro q; rw [q, List.length_nil] at tl_; omega) (by rw [tl_]; omega)) (by rw [tl_]; omega) S
      have s1 := fun S => sl (b := a + 1 + b) S
      rw [Nat.add_sub_cancel_left] at s1
      refine pure_dat (ps := [.str (txt cs), .int (a + 1 : Int)]) (by rw [hR]; rfl) (S' := []) ?_
      unfold m_read_behind_minus
      rw [show ((a : Int) + 1) = ((a + 1 : Nat) : Int) from rfl] at e1 ⊢
      dsimp! [show ("0123456789" : Str) = FZ from rfl, eo, e1, ix e2, e3, l2, mSl_e, moS_e, s1, it]
      simp only [RT.up, Nat.add_assoc]
end W3
namespace W3
open PySem PySem.Spec PyProof.Rows L2 M3
def abI (x : Int) : Int := if x < 0 then -x else x
def stp (f : Nat → Bool) (x : Int) (c : Nat) : Int := if f c = true ∧ 0 ≤ x then x + 1 else -(abI x)
theorem stp_neg {f : Nat → Bool} {x : Int} (h : x < 0) (c : Nat) : stp f x c = x := by
  unfold stp abI
  rw [if_neg (by omega), if_pos h]
  omega
theorem fold_neg {f : Nat → Bool} {x : Int} (h : x < 0) : ∀ l : List Nat, l.foldl (stp f) x = x
  | [] => rfl
  | c :: l => by rw [List.foldl_cons, stp_neg h]; exact fold_neg h l
theorem fold_pos {f : Nat → Bool} : ∀ (l : List Nat) (n : Nat) {x : Int}, 1 ≤ x → l.length ≤ n → abI (l.foldl (stp f) x) = x + (run f n l : Nat)
  | [], n, x, h, _ => by rw [run_nil]; unfold abI; rw [List.foldl_nil, if_neg (by omega)]; omega
  | c :: l, 0, x, h, hn => by rw [List.length_cons] at hn; omega
  | c :: l, n + 1, x, h, hn => by
    rw [List.foldl_cons]
    cases e : f c with
    | true =>
      have : stp f x c = x + 1 := if_pos ⟨e, by omega⟩
      rw [this, fold_pos l n (by omega) (by rw [List.length_cons] at hn; omega), run_t e]
      omega
    | false =>
      have : stp f x c = -x := by
        unfold stp abI
        rw [if_neg (by rw [e]; simp), if_neg (by omega)]
      rw [this, fold_neg (by omega), run_f e]
      unfold abI
      rw [if_pos (by omega)]
      omega
theorem run_take (f : Nat → Bool) : ∀ (n : Nat) (l : List Nat), run f n (l.take n) = run f n l
  | 0, l => by rw [run_zero, run_zero]
  | n + 1, [] => by rw [List.take_nil]
  | n + 1, c :: l => by
    rw [List.take_succ_cons]
    cases e : f c with
    | true => rw [run_t e, run_t e, run_take f n l]
    | false => rw [run_f e, run_f e]
theorem fold_run {f : Nat → Bool} {c : Nat} {l : List Nat} (h : f c = true) : abI (((c :: l).take 20).foldl (stp f) 0) = (run f 20 (c :: l) : Nat) := by
  rw [List.take_succ_cons, List.foldl_cons]
  have : stp f 0 c = 1 := if_pos ⟨h, Int.le_refl 0⟩
  rw [this, fold_pos (l.take 19) 19 (by decide) (by rw [List.length_take]; omega), run_take, run_t h]
  omega
def nz (l : List Nat) : Bool := match l with
  | [] => false
  | c :: _ => decide (49 ≤ c) && decide (c ≤ 57)
def D19 : List P := [49, 50, 51, 52, 53, 54, 55, 56, 57].map fun c => P.str (txt [c])
theorem in_D19 (l : List Nat) : inP (.str (txt (l.take 1))) D19 = nz l := by
  have e : ∀ k sg, eqF (.str (txt [k])) (.str (txt sg)) = decide ([k] = sg) := fun k sg => by
    show (txt [k] == txt sg) = _
    rw [Bool.eq_iff_iff, beq_iff_eq, decide_eq_true_iff]
    exact ⟨txt_inj, fun h => by rw [h]⟩
  cases l with
  | nil =>
    rw [List.take_nil]
    simp [inP, D19, e, nz]
  | cons c r =>
    rw [List.take_succ_cons, List.take_zero]
    rw [Bool.eq_iff_iff]
    simp only [inP, D19, nz, List.map_cons, List.map_nil, List.any_cons, List.any_nil, e, Bool.or_eq_true, Bool.and_eq_true, decide_eq_true_eq, List.cons.injEq, and_true, Bool.or_false]
    omega
theorem notin_D19 (l : List Nat) (S : Store) : aNotIn S (tD (l.take 1)) (.dat (.tup D19)) = some (.dat (.bl (!nz l))) := by
  show ((if (true : Bool) = true ∧ D19.all flatP = true then some (inP (.str (txt (l.take 1))) D19) else none).map fun b => dBl (!b)) = _
  rw [if_pos ⟨rfl, rfl⟩, in_D19]
  rfl
theorem fz_t {x0 x1 x3 x4 x5 x6 : Option D} (S : Store) : mFrz (mListS (mCons (mSl (mVar 2) (moS (mC (.int 1))) moN) mNil)) [x0, x1, some (.dat (.str FZ)), x3, x4, x5, x6] S = .ok (.dat (.lst D19)) S := by
  have fz : FZ = txt [48, 49, 50, 51, 52, 53, 54, 55, 56, 57] := (txt_eq.mpr (by decide +kernel)).symm
  have sf := sl_from (cs := [48, 49, 50, 51, 52, 53, 54, 55, 56, 57]) (by decide) (a := 1) S
  rw [fz]
  unfold mListS
  dsimp! [mSl_e, moS_e, moN_e, show aSl S (.dat (.str (txt [48, 49, 50, 51, 52, 53, 54, 55, 56, 57]))) (some 1) none = _ from sf]
  have l9 : (txt (List.drop 1 [48, 49, 50, 51, 52, 53, 54, 55, 56, 57])).length ≤ 100000 := by rw [txt_len]; decide
  rw [if_pos l9, R.bind_ok]
  have sg : M3.signs (txt (List.drop 1 [48, 49, 50, 51, 52, 53, 54, 55, 56, 57])) = D19 := by unfold M3.signs; rw [txt_list]; rfl
  rw [sg, datAll_map]
/-- the loop that counts -/
theorem count_t {w : List Nat} {f : Nat → Bool} {Z : Str} {zi : Nat} (hf : ∀ c, decide (c ∈ Z.cps.toList) = f c) {x0 x1 x2 x3 x6 : Option D} (hz : (zi = 2 ∧ x2 = some (.dat (.str Z))) ∨ (zi = 3 ∧ x3 = some (.dat (.str Z)))) {wi : DI} {x5 : Option D} {S : Store}
    (hw : wi [x0, x1, x2, x3, some (.dat (.int 0)), x5, x6] S = .ok (.items (w.map fun c => tD [c])) S) :
    Ends (mFor wi (gmName 5) (mAsg (mIf (mAndT (mTst (mOp aIn (mVar 5) (mVar zi))) (mTst (mOp aGe (mVar 4) (mC (.int 0))))) (mOp aAdd (mVar 4) (mC (.int 1))) (mUn aNeg (mCall aAbs (mCons (mVar 4) mNil)))) (gmName 4)) [x0, x1, x2, x3, some (.dat (.int 0)), x5, x6] S)
      (fun o S' => S' = S ∧ ∃ x5', o = .nx [x0, x1, x2, x3, some (.dat (.int (w.foldl (stp f) 0))), x5', x6]) := by
  have ab : ∀ (x : Int) (S : Store), aAbs S [.dat (.int x)] = some (.dat (.int (abI x))) := fun _ _ => rfl
  rw [for_items hw]
  refine forL_ends (fun i δ S' => S' = S ∧ ∃ x5', δ = [x0, x1, x2, x3, some (.dat (.int ((w.take i).foldl (stp f) 0))), x5', x6]) (i := 0) ⟨rfl, x5, rfl⟩ ?_ ?_
  · rintro k d δ S' ed ⟨rfl, x5', rfl⟩
    rw [List.getElem?_map] at ed
    obtain ⟨c, ec, rfl⟩ : ∃ c, w[k]? = some c ∧ d = tD [c] := by
      cases z : w[k]? with
      | none => rw [z] at ed; cases ed
      | some q => rw [z] at ed; cases ed; exact ⟨q, rfl, rfl⟩
    rw [Nat.zero_add]
    have hk := (List.getElem?_eq_some_iff.mp ec).1
    have tk : w.take (k + 1) = w.take k ++ [c] := by rw [List.take_add_one, ec]; rfl
    rw [tk, List.foldl_append, List.foldl_cons, List.foldl_nil]
    obtain ⟨x, hx⟩ : ∃ x, (w.take k).foldl (stp f) 0 = x := ⟨_, rfl⟩
    rw [hx]
    have inn : ∀ S : Store, aIn S (tD [c]) (.dat (.str Z)) = some (.dat (.bl (f c))) := fun S => by rw [in_txt, hf]
    have zv : ∀ (y4 y5 : Option D) (S : Store), mVar zi [x0, x1, x2, x3, y4, y5, x6] S = .ok (.dat (.str Z)) S := fun y4 y5 S => by
      rcases hz with ⟨rfl, rfl⟩ | ⟨rfl, rfl⟩ <;> rfl
    have opz : ∀ (y4 : Option D) (S : Store), mOp aIn (mVar 5) (mVar zi) [x0, x1, x2, x3, y4, some (tD [c]), x6] S = .ok (.dat (.bl (f c))) S := fun y4 S => by
      show ((mVar 5 _ S).bind fun x S1 => (mVar zi [x0, x1, x2, x3, y4, some (tD [c]), x6] S1).bind fun y S2 => oR (aIn S2 x y) S2) = _
      show ((mVar zi [x0, x1, x2, x3, y4, some (tD [c]), x6] S).bind fun y S2 => oR (aIn S2 (tD [c]) y) S2) = _
      rw [zv, R.bind_ok, inn]; rfl
    have tz : ∀ (y4 : Option D) (S : Store), mTst (mOp aIn (mVar 5) (mVar zi)) [x0, x1, x2, x3, y4, some (tD [c]), x6] S = .ok (f c) S := fun y4 S => by
      unfold mTst
      rw [opz]; rfl
    have cond : mAndT (mTst (mOp aIn (mVar 5) (mVar zi))) (mTst (mOp aGe (mVar 4) (mC (.int 0)))) [x0, x1, x2, x3, some (.dat (.int x)), some (tD [c]), x6] S' = .ok (f c && decide (x ≥ 0)) S' := by
      rw [mAndT_eq, tz]
      cases f c with
      | true => dsimp! []; all_goals rfl
      | false => rfl
    have val : mIf (mAndT (mTst (mOp aIn (mVar 5) (mVar zi))) (mTst (mOp aGe (mVar 4) (mC (.int 0))))) (mOp aAdd (mVar 4) (mC (.int 1))) (mUn aNeg (mCall aAbs (mCons (mVar 4) mNil))) [x0, x1, x2, x3, some (.dat (.int x)), some (tD [c]), x6] S' = .ok (.dat (.int (stp f x c))) S' := by
      rw [mIf_eq, cond, R.bind_ok]
      unfold stp
      by_cases q : f c = true ∧ 0 ≤ x
      · rw [if_pos q, q.1, decide_eq_true (show x ≥ 0 from q.2)]
        dsimp! []
        all_goals rfl
      · rw [if_neg q]
        have : (f c && decide (x ≥ 0)) = false := by
          rw [Bool.eq_false_iff]
          intro h
          rw [Bool.and_eq_true, decide_eq_true_iff] at h
          exact q h
        rw [this]
        dsimp! [ab]
        all_goals rfl
    refine ⟨.nx [x0, x1, x2, x3, some (.dat (.int (stp f x c))), some (tD [c]), x6], S', ?_, rfl, _, rfl⟩
    show (((gmName 5 (tD [c]) [x0, x1, x2, x3, some (.dat (.int x)), x5', x6] S').st _ _)) = _
    show mAsg _ (gmName 4) [x0, x1, x2, x3, some (.dat (.int x)), some (tD [c]), x6] S' = _
    unfold mAsg
    rw [val]; rfl
  · rintro δ S' ⟨rfl, x5', rfl⟩
    rw [List.length_map, Nat.zero_add, List.take_length]
    exact ⟨rfl, x5', rfl⟩
end W3
namespace W3
open PySem PySem.Spec PyProof.Rows L2 M3
def tokN (l : List Nat) : Nat := match l with
  | [] => 0
  | c :: r => if isL c = true then run isL 20 (c :: r) else if c = 48 then 1 else if c = 45 then (if nz r = true then 1 + run isF 20 r else 1) else if nz (c :: r) = true then run isF 20 (c :: r) else 0
theorem walk_sl {cs : List Nat} (hl : cs.length ≤ 90000) {x1 x2 x3 x4 x5 x6 : Option D} {lo hi : DE} {i j : Nat} {S : Store} (h1 : lo [some (tD cs), x1, x2, x3, x4, x5, x6] S = .ok (.dat (.int (i : Int))) S) (h2 : hi [some (tD cs), x1, x2, x3, x4, x5, x6] S = .ok (.dat (.int (j : Int))) S) :
    mWalk (mSl (mVar 0) (moS lo) (moS hi)) [some (tD cs), x1, x2, x3, x4, x5, x6] S = .ok (.items (((cs.drop i).take (j - i)).map fun c => tD [c])) S := by
  have e : mSl (mVar 0) (moS lo) (moS hi) [some (tD cs), x1, x2, x3, x4, x5, x6] S = .ok (tD ((cs.drop i).take (j - i))) S := by
    rw [mSl_e]
    show ((moS lo _ S).bind fun l S2 => (moS hi [some (tD cs), x1, x2, x3, x4, x5, x6] S2).bind fun h S3 => oR (aSl S3 (tD cs) l h) S3) = _
    rw [moS_e, h1, R.bind_ok]
    show ((moS hi [some (tD cs), x1, x2, x3, x4, x5, x6] S).bind fun h S3 => oR (aSl S3 (tD cs) (some (i : Int)) h) S3) = _
    rw [moS_e, h2, R.bind_ok]
    show oR (aSl S (tD cs) (some (i : Int)) (some (j : Int))) S = _
    rw [sl_ab (by omega)]; rfl
  have wk : mWalk (mSl (mVar 0) (moS lo) (moS hi)) [some (tD cs), x1, x2, x3, x4, x5, x6] S = .ok (.items ((M3.signs (txt ((cs.drop i).take (j - i)))).map .dat)) S := by unfold mWalk; rw [e]; rfl
  rw [wk]
  unfold M3.signs
  rw [txt_list, List.map_map]
  rfl
theorem L_token_t (g : G) {cs : List Nat} (hl : cs.length ≤ 90000) {a : Nat} (ha : a < cs.length) (S : Store) : mPure (m_L_token g) [tD cs, .dat (.int (a : Int))] S = .ok (.dat (.int (tokN (cs.drop a) : Nat))) S := by
  have ab : ∀ (x : Int) (S : Store), aAbs S [.dat (.int x)] = some (.dat (.int (abI x))) := fun _ _ => rfl
  have l2 : (2 : Nat) ≤ 100000 := by decide
  have ix : ∀ {i b : Nat}, cs[i]? = some b → ∀ S : Store, aIx S (tD cs) (.dat (.int (i : Int))) = some (tD [b]) := fun h S => ix_txt (by omega) h S
  have ea : cs[a]? = some cs[a] := List.getElem?_eq_getElem ha
  have ed : cs.drop a = cs[a] :: cs.drop (a + 1) := List.drop_eq_getElem_cons ha
  obtain ⟨c, hc⟩ : ∃ c, cs[a] = c := ⟨_, rfl⟩
  rw [hc] at ea ed
  have s1 := fun {k : Nat} (S : Store) => sl_1 (cs := cs) (by omega) (a := k) S
  have wk := fun {x1 x2 x3 x4 x5 x6 : Option D} {lo hi : DE} {i j : Nat} {S : Store} h1 h2 => walk_sl hl (x1 := x1) (x2 := x2) (x3 := x3) (x4 := x4) (x5 := x5) (x6 := x6) (lo := lo) (hi := hi) (i := i) (j := j) (S := S) h1 h2
  obtain ⟨R0, hR⟩ : ∃ R0, R0 = tD cs := ⟨_, rfl⟩
  have da : datAll [R0, .dat (.int (a : Int))] = some [.str (txt cs), .int (a : Int)] := by rw [hR]; rfl
  rw [← hR] at ix s1 wk ⊢
  have e48 : decide (txt [c] = "0") = decide (c = 48) := by rw [dec_txt z48, Bool.eq_iff_iff, decide_eq_true_iff, decide_eq_true_iff]; simp
  have e45 : decide (txt [c] = "-") = decide (c = 45) := by rw [dec_txt z45, Bool.eq_iff_iff, decide_eq_true_iff, decide_eq_true_iff]; simp
  refine pure_dat (ps := [.str (txt cs), .int (a : Int)]) da (S' := []) ?_
  unfold m_L_token
  rw [mBody_fin, show ("0123456789" : Str) = FZ from rfl, show ("abcdefghijklmnopqrstuvwxyz" : Str) = LZ from rfl]
  refine fin_rr ?_
  rw [ed]
  unfold tokN
  dsimp only
  cases hL : isL c with
  | true =>
    have inl : ∀ S : Store, aIn S (tD [c]) (.dat (.str LZ)) = some (.dat (.bl true)) := fun S => by rw [in_L, hL]
    dsimp! [l2, ix ea, inl]
    refine then_ends (Q1 := fun o S' => o = .rt (.dat (.int (run isL 20 (c :: cs.drop (a + 1)) : Nat))) ∧ S' = []) ?_ (by
      rintro o S' ⟨rfl, rfl⟩
      rw [then_rt]
      exact .of ⟨rfl, rfl⟩)
    refine then_ends (count_t (w := (cs.drop a).take 20) (f := isL) (Z := LZ) (zi := 3) mem_L (.inr ⟨rfl, rfl⟩) (by
      have := wk (x1 := some (.dat (.int (a : Int)))) (x2 := some (.dat (.str FZ))) (x3 := some (.dat (.str LZ))) (x4 := some (.dat (.int 0))) (x5 := none) (x6 := none) (lo := mVar 1) (hi := mOp aAdd (mVar 1) (mC (.int 20))) (i := a) (j := a + 20) (S := []) rfl (by dsimp! [] <;> rfl)
      rw [Nat.add_sub_cancel_left] at this
      exact this)) ?_
    rintro o S' ⟨rfl, x5', rfl⟩
    dsimp! [ab]
    rw [ed, fold_run hL]
    exact .of ⟨rfl, rfl⟩
  | false =>
    have inl : ∀ S : Store, aIn S (tD [c]) (.dat (.str LZ)) = some (.dat (.bl false)) := fun S => by rw [in_L, hL]
    rw [if_neg Bool.false_ne_true]
    by_cases c48 : c = 48
    · rw [decide_eq_true c48] at e48
      rw [if_pos c48]
      dsimp! [l2, ix ea, inl, e48]
      exact .of ⟨rfl, rfl⟩
    · rw [decide_eq_false c48] at e48
      rw [if_neg c48]
      have key : ∀ (m : Nat), (decide (txt [c] = "-") = decide (m = 1)) → m ≤ 1 → Ends ((mSeq (mAsg (mCall aInt (mCons (mOp aEq (mOp aIx (mVar 0) (mVar 1)) (mC (.str "-"))) mNil)) (gmName 6)) (mSeq (mIfS (mTst (mOp aNotIn (mSl (mVar 0) (moS (mOp aAdd (mVar 1) (mVar 6))) (moS (mOp aAdd (mOp aAdd (mVar 1) (mVar 6)) (mC (.int 1))))) (mCall aTuple (mCons (mFrz (mListS (mCons (mSl (mVar 2) (moS (mC (.int 1))) moN) mNil))) mNil)))) (mRet (mVar 6)) mNext)
      (mSeq (mAsg (mC (.int 0)) (gmName 4))
      (mSeq (mFor (mWalk (mSl (mVar 0) (moS (mOp aAdd (mVar 1) (mVar 6))) (moS (mOp aAdd (mOp aAdd (mVar 1) (mVar 6)) (mC (.int 20)))))) (gmName 5) (mAsg (mIf (mAndT (mTst (mOp aIn (mVar 5) (mVar 2))) (mTst (mOp aGe (mVar 4) (mC (.int 0))))) (mOp aAdd (mVar 4) (mC (.int 1))) (mUn aNeg (mCall aAbs (mCons (mVar 4) mNil)))) (gmName 4)))
      (mRet (mOp aAdd (mVar 6) (mCall aAbs (mCons (mVar 4) mNil)))))))) [some R0, some (.dat (.int (a : Int))), some (.dat (.str FZ)), some (.dat (.str LZ)), none, none, none] []) fun o S' => o = .rt (.dat (.int ((if nz (cs.drop (a + m)) = true then m + run isF 20 (cs.drop (a + m)) else m : Nat) : Int))) ∧ S' = [] := by
        intro m hm hm1
        have im : ∀ S : Store, aInt S [.dat (.bl (decide (m = 1)))] = some (.dat (.int (m : Int))) := fun S => by
          rcases (show m = 0 ∨ m = 1 by omega) with rfl | rfl <;> rfl
        have am : ∀ S : Store, aAdd S (.dat (.int (a : Int))) (.dat (.int (m : Int))) = some (.dat (.int ((a + m : Nat) : Int))) := fun _ => rfl
        have sm := fun S => s1 (k := a + m) S
        have tt : ∀ S : Store, aTuple S [.dat (.lst D19)] = some (.dat (.tup D19)) := fun S => by
          show (listP S (.dat (.lst D19))).map (fun l => D.dat (.tup l)) = _
          rw [listP_l]; rfl
        have fz := fun {x0 x1 x3 x4 x5 x6 : Option D} (S : Store) => fz_t (x0 := x0) (x1 := x1) (x3 := x3) (x4 := x4) (x5 := x5) (x6 := x6) S
        have frz : mFrz (mListS (mCons (mSl (mVar 2) (moS (mC (.int 1))) moN) mNil)) = fun δ S => mFrz (mListS (mCons (mSl (mVar 2) (moS (mC (.int 1))) moN) mNil)) δ S := rfl
        obtain ⟨FR, hFR⟩ : ∃ FR : DE, mFrz (mListS (mCons (mSl (mVar 2) (moS (mC (.int 1))) moN) mNil)) = FR := ⟨_, rfl⟩
        rw [hFR] at fz ⊢
        rw [eq_comm] at hFR
        cases z : nz (cs.drop (a + m)) with
        | false =>
          have ni := fun S => notin_D19 (cs.drop (a + m)) S
          rw [z] at ni
          rw [if_neg Bool.false_ne_true]
          dsimp! [ix ea, hm, im, am, mSl_e, moS_e, sm, fz, tt, ni]
          exact .of ⟨rfl, rfl⟩
        | true =>
          have ni := fun S => notin_D19 (cs.drop (a + m)) S
          rw [z] at ni
          rw [if_pos rfl]
          have e2 : ∃ d r, cs.drop (a + m) = d :: r ∧ isF d = true := by
            cases q : cs.drop (a + m) with
            | nil => rw [q] at z; cases z
            | cons d r =>
              rw [q] at z
              refine ⟨d, r, rfl, ?_⟩
              simp only [nz, Bool.and_eq_true, decide_eq_true_eq] at z
              exact isF_iff.mpr (by omega)
          obtain ⟨d, r, e2, hd⟩ := e2
          obtain ⟨WI, hWI⟩ : ∃ WI : DI, mWalk (mSl (mVar 0) (moS (mOp aAdd (mVar 1) (mVar 6))) (moS (mOp aAdd (mOp aAdd (mVar 1) (mVar 6)) (mC (.int 20))))) = WI := ⟨_, rfl⟩
          have wv : WI [some R0, some (.dat (.int (a : Int))), some (.dat (.str FZ)), some (.dat (.str LZ)), some (.dat (.int 0)), none, some (.dat (.int (m : Int)))] [] = .ok (.items (((cs.drop (a + m)).take 20).map fun c => tD [c])) [] := by
            have := wk (x1 := some (.dat (.int (a : Int)))) (x2 := some (.dat (.str FZ))) (x3 := some (.dat (.str LZ))) (x4 := some (.dat (.int 0))) (x5 := none) (x6 := some (.dat (.int (m : Int)))) (lo := mOp aAdd (mVar 1) (mVar 6)) (hi := mOp aAdd (mOp aAdd (mVar 1) (mVar 6)) (mC (.int 20))) (i := a + m) (j := a + m + 20) (S := []) (by dsimp! [am] <;> rfl) (by dsimp! [am] <;> rfl)
            rw [Nat.add_sub_cancel_left, hWI] at this
            exact this
          rw [hWI]
          dsimp! [ix ea, hm, im, am, mSl_e, moS_e, sm, fz, tt, ni]
          refine then_ends (count_t (w := (cs.drop (a + m)).take 20) (f := isF) (Z := FZ) (zi := 2) mem_F (.inl ⟨rfl, rfl⟩) wv) ?_
          rintro o S' ⟨rfl, x5', rfl⟩
          dsimp! [ab]
          rw [e2, fold_run hd]
          refine .of ⟨?_, rfl⟩
          rfl
      obtain ⟨RS, hRS⟩ : ∃ RS : DS, mSeq (mAsg (mCall aInt (mCons (mOp aEq (mOp aIx (mVar 0) (mVar 1)) (mC (.str "-"))) mNil)) (gmName 6)) (mSeq (mIfS (mTst (mOp aNotIn (mSl (mVar 0) (moS (mOp aAdd (mVar 1) (mVar 6))) (moS (mOp aAdd (mOp aAdd (mVar 1) (mVar 6)) (mC (.int 1))))) (mCall aTuple (mCons (mFrz (mListS (mCons (mSl (mVar 2) (moS (mC (.int 1))) moN) mNil))) mNil)))) (mRet (mVar 6)) mNext)
      (mSeq (mAsg (mC (.int 0)) (gmName 4))
      (mSeq (mFor (mWalk (mSl (mVar 0) (moS (mOp aAdd (mVar 1) (mVar 6))) (moS (mOp aAdd (mOp aAdd (mVar 1) (mVar 6)) (mC (.int 20)))))) (gmName 5) (mAsg (mIf (mAndT (mTst (mOp aIn (mVar 5) (mVar 2))) (mTst (mOp aGe (mVar 4) (mC (.int 0))))) (mOp aAdd (mVar 4) (mC (.int 1))) (mUn aNeg (mCall aAbs (mCons (mVar 4) mNil)))) (gmName 4)))
      (mRet (mOp aAdd (mVar 6) (mCall aAbs (mCons (mVar 4) mNil))))))) = RS := ⟨_, rfl⟩
      rw [hRS] at key ⊢
      dsimp! [l2, ix ea, inl, e48]
      by_cases c45 : c = 45
      · have := key 1 (by rw [e45, decide_eq_true c45]; rfl) (Nat.le_refl _)
        rw [if_pos c45]
        exact this
      · have := key 0 (by rw [e45, decide_eq_false c45]; rfl) (Nat.zero_le _)
        rw [if_neg c45]
        rw [Nat.add_zero, ed] at this
        simp only [Nat.zero_add] at this
        exact this
end W3
namespace W3
open PySem PySem.Spec PyProof.Rows L2 M3
theorem nz_iff {l : List Nat} : nz l = true ↔ ∃ c r, l = c :: r ∧ 49 ≤ c ∧ c ≤ 57 := by
  cases l with
  | nil => exact Iff.intro (fun h => nomatch h) (fun h => by obtain ⟨_, _, h, _⟩ := h; cases h)
  | cons c r =>
    simp only [nz, Bool.and_eq_true, decide_eq_true_eq]
    exact ⟨fun h => ⟨c, r, rfl, h⟩, fun ⟨_, _, e, h⟩ => by cases e; exact h⟩
theorem run_pos {f : Nat → Bool} {n : Nat} {l : List Nat} (h : 0 < run f n l) : ∃ c r, l = c :: r ∧ f c = true := by
  cases l with
  | nil => rw [run_nil] at h; omega
  | cons c r =>
    refine ⟨c, r, rfl, ?_⟩
    cases e : f c with
    | true => rfl
    | false => rw [run_f e] at h; omega
theorem minus_nz (r : List Nat) : minus r = if nz r = true then .ok (.int (-num (r.take (run isF 20 r)))) (1 + run isF 20 r) else .ok .non 1 := by
  unfold minus
  by_cases h : nz r = true
  · obtain ⟨c, l, rfl, h1, h2⟩ := nz_iff.mp h
    rw [if_pos h, if_neg]
    rintro (q | q)
    · rw [run_t (isF_iff.mpr (by omega))] at q; omega
    · rw [List.head?_cons] at q
      have := Option.some.inj q
      omega
  · rw [if_neg h, if_pos]
    by_cases q : 0 < run isF 20 r
    · obtain ⟨c, l, rfl, hc⟩ := run_pos q
      have hc := isF_iff.mp hc
      right
      rw [List.head?_cons]
      have : ¬ (49 ≤ c ∧ c ≤ 57) := fun z => h (nz_iff.mpr ⟨c, l, rfl, z⟩)
      congr 1
      omega
    · exact .inl (by omega)
/-- what an item is -/
inductive Itm : List Nat → P → Prop
  | minus : Itm [45] .non
  | zero : Itm [48] (.int 0)
  | fig {w : List Nat} (h : ∀ c ∈ w, isF c = true) (hl : 1 ≤ w.length ∧ w.length ≤ 20) : Itm w (.int (num w))
  | neg {w : List Nat} (h : ∀ c ∈ w, isF c = true) (hl : 1 ≤ w.length ∧ w.length ≤ 20) : Itm (45 :: w) (.int (-num w))
  | word {w : List Nat} (h : ∀ c ∈ w, isL c = true) (hl : 1 ≤ w.length ∧ w.length ≤ 20) : Itm w (word w)
theorem tok_item (c : Nat) (r : List Nat) : match item (c :: r) with
    | .ok p k => tokN (c :: r) = k ∧ Itm ((c :: r).take k) p
    | .bad k => tokN (c :: r) = 0 := by
  have b1 := run_le isF 20 r
  have b2 := run_le isF 20 (c :: r)
  have b3 := run_le isL 20 (c :: r)
  by_cases h45 : c = 45
  · subst h45
    have e : item (45 :: r) = minus r := rfl
    have t : tokN (45 :: r) = if nz r = true then 1 + run isF 20 r else 1 := rfl
    rw [e, minus_nz, t]
    cases z : nz r with
    | true =>
      rw [if_pos rfl, if_pos rfl]
      obtain ⟨d, l, e2, h1, h2⟩ := nz_iff.mp z
      have rp : 1 ≤ run isF 20 r := by rw [e2, run_t (isF_iff.mpr (by omega))]; omega
      refine ⟨rfl, ?_⟩
      rw [Nat.add_comm 1, List.take_succ_cons]
      exact .neg (run_all isF 20 r) ⟨by rw [List.length_take]; omega, by rw [List.length_take]; omega⟩
    | false =>
      rw [if_neg Bool.false_ne_true, if_neg Bool.false_ne_true]
      exact ⟨rfl, .minus⟩
  · by_cases h48 : c = 48
    · subst h48
      exact ⟨rfl, .zero⟩
    · have e : item (c :: r) = if 0 < run isF 20 (c :: r) then .ok (.int (num ((c :: r).take (run isF 20 (c :: r))))) (run isF 20 (c :: r)) else if run isL 20 (c :: r) = 0 then .bad 0 else .ok (word ((c :: r).take (run isL 20 (c :: r)))) (run isL 20 (c :: r)) := by
        unfold item
        dsimp only
        rw [if_neg h45, if_neg h48]
      have t : tokN (c :: r) = if isL c = true then run isL 20 (c :: r) else if nz (c :: r) = true then run isF 20 (c :: r) else 0 := by
        unfold tokN
        dsimp only
        rw [if_neg h48, if_neg h45]
      rw [e, t]
      by_cases h1 : 0 < run isF 20 (c :: r)
      · rw [if_pos h1]
        obtain ⟨d, l, e2, hd⟩ := run_pos h1
        cases e2
        have hL : ¬ isL c = true := fun q => by rw [isL_not_F q] at hd; cases hd
        have hz : nz (c :: r) = true := nz_iff.mpr ⟨c, r, rfl, by have := isF_iff.mp hd; omega⟩
        rw [if_neg hL, if_pos hz]
        exact ⟨rfl, .fig (run_all isF 20 (c :: r)) ⟨by rw [List.length_take]; omega, by rw [List.length_take]; omega⟩⟩
      · rw [if_neg h1]
        have hF : isF c = false := by
          cases q : isF c with
          | false => rfl
          | true => rw [run_t q] at h1; omega
        have hz : ¬ nz (c :: r) = true := fun q => by
          obtain ⟨d, l, e2, h⟩ := nz_iff.mp q
          cases e2
          rw [isF_iff.mpr (by omega)] at hF
          cases hF
        by_cases h2 : run isL 20 (c :: r) = 0
        · rw [if_pos h2]
          have hL : ¬ isL c = true := fun q => by rw [run_t q] at h2; omega
          dsimp only
          rw [if_neg hL, if_neg hz]
        · rw [if_neg h2]
          obtain ⟨d, l, e2, hd⟩ := run_pos (f := isL) (n := 20) (l := c :: r) (by omega)
          cases e2
          rw [if_pos hd]
          exact ⟨rfl, .word (run_all isL 20 (c :: r)) ⟨by rw [List.length_take]; omega, by rw [List.length_take]; omega⟩⟩
theorem in3 {w : List Nat} (S : Store) : aIn S (tD w) (.dat (.tup [.str "-", .str "yes", .str "no"])) = some (.dat (.bl (decide (w = [45]) || (decide (w = yesL) || decide (w = noL))))) := by
  have e : ∀ (z : Str), eqF (.str z) (.str (txt w)) = decide (w = z.cps.toList) := fun z => by
    show (z == txt w) = _
    rw [Bool.eq_iff_iff, beq_iff_eq, decide_eq_true_iff, eq_comm]
    exact txt_eq
  show ((if (true : Bool) = true ∧ (true : Bool) = true then some (inP (.str (txt w)) [.str "-", .str "yes", .str "no"]) else none).map dBl) = _
  rw [if_pos ⟨rfl, rfl⟩]
  show some (D.dat (.bl (eqF (.str "-") (.str (txt w)) || (eqF (.str "yes") (.str (txt w)) || (eqF (.str "no") (.str (txt w)) || false))))) = _
  rw [e, e, e, z45, Bool.or_false]
  rfl
def FMZ : Str := "-0123456789"
theorem FM_eq : FMZ.cps.toList = 45 :: (List.range 58).filter isF := by decide +kernel
theorem in_FM {c : Nat} (S : Store) : aIn S (tD [c]) (.dat (.str "-0123456789")) = some (.dat (.bl (decide (c = 45) || isF c))) := by
  have e : decide (c ∈ FMZ.cps.toList) = (decide (c = 45) || isF c) := by
    rw [FM_eq, ← FZ_eq, ← mem_F, Bool.eq_iff_iff, decide_eq_true_iff, List.mem_cons, Bool.or_eq_true, decide_eq_true_iff, decide_eq_true_iff]
  rw [← e]
  exact in_txt S
theorem disp_t {w : List Nat} {p : P} (h : (w = [45] ∧ p = .non) ∨ (w = yesL ∧ p = .bl true) ∨ (w = noL ∧ p = .bl false)) :
    ∃ S', mDGet (mDisp (((mC (.str "-")), (mC .non)) :: (((mC (.str "yes")), (mC (.bl true))) :: (((mC (.str "no")), (mC (.bl false))) :: [])))) (mVar 0) [some (tD w)] ([] : Store) = .ok (.dat p) S' := by
  rcases h with ⟨rfl, rfl⟩ | ⟨rfl, rfl⟩ | ⟨rfl, rfl⟩
  · rw [show tD [45] = .dat (.str "-") from congrArg (fun z => D.dat (.str z)) (txt_eq.mpr z45.symm)]; exact ⟨_, rfl⟩
  · rw [show tD yesL = .dat (.str "yes") from congrArg (fun z => D.dat (.str z)) (txt_cps _)]; exact ⟨_, rfl⟩
  · rw [show tD noL = .dat (.str "no") from congrArg (fun z => D.dat (.str z)) (txt_cps _)]; exact ⟨_, rfl⟩
end W3
namespace W3
open PySem PySem.Spec PyProof.Rows L2 M3
theorem L_item_t (g : G) {w : List Nat} {p : P} (h : Itm w p) (S : Store) : mPure (m_L_item g) [tD w] S = .ok (.dat p) S := by
  have l3 : (3 : Nat) ≤ 100000 := by decide
  -- the table
  have A : ∀ {w : List Nat} {p : P}, (w = [45] ∧ p = .non) ∨ (w = yesL ∧ p = .bl true) ∨ (w = noL ∧ p = .bl false) → mPure (m_L_item g) [tD w] S = .ok (.dat p) S := fun {w p} h => by
    obtain ⟨S', e⟩ := disp_t h
    have i3 : ∀ S : Store, aIn S (tD w) (.dat (.tup [.str "-", .str "yes", .str "no"])) = some (.dat (.bl true)) := fun S => by
      rw [in3]
      rcases h with ⟨q, _⟩ | ⟨q, _⟩ | ⟨q, _⟩
      · rw [decide_eq_true q]; rfl
      · rw [decide_eq_true q, Bool.true_or, Bool.or_true]
      · rw [decide_eq_true q, Bool.or_true, Bool.or_true]
    refine pure_dat rfl (S' := S') ?_
    unfold m_L_item
    rw [mBody_fin]
    refine fin_rr ?_
    obtain ⟨M, hM⟩ : ∃ M : DE, mDGet (mDisp (((mC (.str "-")), (mC .non)) :: (((mC (.str "yes")), (mC (.bl true))) :: (((mC (.str "no")), (mC (.bl false))) :: [])))) (mVar 0) = M := ⟨_, rfl⟩
    rw [hM] at e ⊢
    dsimp! [l3, i3, e]
    exact .of ⟨rfl, rfl⟩
  -- a text that is no word of the table
  have N : ∀ {c : Nat} {r : List Nat} {b : Bool}, c :: r ≠ [45] → c :: r ≠ yesL → c :: r ≠ noL → (c :: r).length ≤ 21 → (decide (c = 45) || isF c) = b → (b = true → ∀ S, aIntT S [tD (c :: r)] = some (.dat p)) → (b = false → p = .str (txt (c :: r))) → mPure (m_L_item g) [tD (c :: r)] S = .ok (.dat p) S := fun {c r b} n1 n2 n3 hl hb h1 h2 => by
    have i3 : ∀ S : Store, aIn S (tD (c :: r)) (.dat (.tup [.str "-", .str "yes", .str "no"])) = some (.dat (.bl false)) := fun S => by
      rw [in3, decide_eq_false n1, decide_eq_false n2, decide_eq_false n3]; rfl
    have ix : ∀ S : Store, aIx S (tD (c :: r)) (.dat (.int 0)) = some (tD [c]) := fun S => ix_txt (cs := c :: r) (a := 0) (by omega) rfl S
    have fm : ∀ S : Store, aIn S (tD [c]) (.dat (.str "-0123456789")) = some (.dat (.bl b)) := fun S => by rw [in_FM, hb]
    cases b with
    | true =>
      have iv := h1 rfl
      refine pure_dat rfl (S' := []) ?_
      unfold m_L_item
      dsimp! [l3, i3, ix, fm, iv]
      all_goals rfl
    | false =>
      rw [h2 rfl]
      refine pure_dat rfl (S' := []) ?_
      unfold m_L_item
      dsimp! [l3, i3, ix, fm]
      all_goals rfl
  have y : 121 ∈ yesL := by decide +kernel
  have n : 110 ∈ noL := by decide +kernel
  cases h with
  | minus => exact A (.inl ⟨rfl, rfl⟩)
  | zero =>
    refine N (b := true) (by decide) (by decide +kernel) (by decide +kernel) (by decide) rfl (fun _ S => ?_) (fun q => nomatch q)
    exact intT_t (int_num (ds := [48]) (fun c m => by rw [List.mem_singleton.mp m]; rfl) (by simp) (by decide)) (by decide) S
  | fig h hl =>
    cases w with
    | nil => simp at hl
    | cons c r =>
      have hc := h c List.mem_cons_self
      refine N (b := true) (fun q => ?_) (fun q => ?_) (fun q => ?_) (by omega) (by rw [hc, Bool.or_true]) (fun _ S => intT_t (int_num h (by simp) (by omega)) (by omega) S) (fun q => nomatch q)
      · cases q; cases hc
      · rw [q] at h; have := h 121 y; cases this
      · rw [q] at h; have := h 110 n; cases this
  | @neg w h hl =>
    refine N (b := true) (fun q => ?_) (fun q => ?_) (fun q => ?_) (by rw [List.length_cons]; omega) rfl (fun _ S => intT_t (int_neg h (by intro q; rw [q] at hl; simp at hl) (by omega)) (by rw [List.length_cons]; omega) S) (fun q => nomatch q)
    · cases q; simp at hl
    · have : (45 : Nat) ∈ yesL := by rw [← q]; exact List.mem_cons_self
      revert this; decide +kernel
    · have : (45 : Nat) ∈ noL := by rw [← q]; exact List.mem_cons_self
      revert this; decide +kernel
  | word h hl =>
    by_cases h1 : w = yesL
    · rw [show word w = .bl true by unfold word; rw [if_pos h1]]
      exact A (.inr (.inl ⟨h1, rfl⟩))
    · by_cases h2 : w = noL
      · rw [show word w = .bl false by unfold word; rw [if_neg h1, if_pos h2]]
        exact A (.inr (.inr ⟨h2, rfl⟩))
      · have e : word w = .str (txt w) := by unfold word; rw [if_neg h1, if_neg h2]
        cases w with
        | nil => simp at hl
        | cons c r =>
          have hc := h c List.mem_cons_self
          have hc2 := isL_iff.mp hc
          refine N (b := false) (fun q => ?_) h1 h2 (by omega) (by rw [isL_not_F hc, Bool.or_false]; exact decide_eq_false (by omega)) (fun q => nomatch q) (fun _ => e)
          cases q; omega
end W3
namespace W3
open PySem PySem.Spec PyProof.Rows L2 M3
theorem up_up (r : RT) (i j : Nat) : (r.up i).up j = r.up (j + i) := by
  cases r with
  | ok p k => simp only [RT.up, Nat.add_assoc]
  | bad k => simp only [RT.up, Nat.add_assoc]
theorem read_parts_t (g : G) {cs : List Nat} (hl : cs.length ≤ 90000) {d : Nat} {left : Int} {f : List Nat → RT} (hf : ∀ a, a ≤ cs.length + 1 → ∀ S, mPure (m_read_thing_at g d) [tD cs, .dat (.int (a : Int)), .dat (.int left)] S = rsT g.BadThing S ((f (cs.drop a)).up a)) (fine : ∀ l, (f l).Fine l.length) {a : Nat} (ha : a ≤ cs.length + 1) (S : Store) :
    mPure (m_read_parts g (m_read_thing_at g d)) [tD cs, .dat (.int (a : Int)), .dat (.int left)] S = rsT g.BadThing S ((parts f (cs.drop a)).up a) := by
  have sl := fun {b : Nat} (S : Store) => sl_1 (cs := cs) (by omega) (a := b) S
  have l2 : (2 : Nat) ≤ 100000 := by decide
  have l0 : (0 : Nat) ≤ 100000 := by decide
  have y41 : ∀ sg, decide (txt sg = ")") = decide (sg = [41]) := fun sg => dec_txt z41
  have y44 : ∀ sg, decide (txt sg = ",") = decide (sg = [44]) := fun sg => dec_txt z44
  have dd : ∀ k j, (cs.drop k).drop j = cs.drop (k + j) := fun k j => List.drop_drop
  obtain ⟨R0, hR⟩ : ∃ R0, R0 = tD cs := ⟨_, rfl⟩
  rw [← hR] at sl hf ⊢
  obtain ⟨l, hL⟩ : ∃ l, cs.drop a = l := ⟨_, rfl⟩
  rw [hL]
  by_cases c41 : l.head? = some 41
  · have e : parts f l = .ok (.tup []) 1 := by
      cases l with
      | nil => cases c41
      | cons c r =>
        have : c = 41 := Option.some.inj c41
        subst this; rfl
    rw [e]
    have t : decide (txt (l.take 1) = ")") = true := by rw [y41, d1]; exact decide_eq_true c41
    have s1 := fun S => sl (b := a) S
    rw [hL] at s1
    refine pure_dat (ps := [.str (txt cs), .int (a : Int), .int left]) (by rw [hR]; rfl) (S' := []) ?_
    unfold m_read_parts
    dsimp! [mSl_e, moS_e, s1, t, l2, l0]
    all_goals rfl
  · have e : parts f l = tl f (l.length + 1) l [] := by
      cases l with
      | nil => rfl
      | cons c r => exact if_neg fun q => c41 (by rw [q]; rfl)
    rw [e]
    have t : decide (txt (l.take 1) = ")") = false := by rw [y41, d1]; exact decide_eq_false c41
    have s1 := fun S => sl (b := a) S
    rw [hL] at s1
    obtain ⟨V, hV⟩ : ∃ V, (tl f (l.length + 1) l []).up a = V := ⟨_, rfl⟩
    rw [hV]
    have wl : Ends (mWhile (mTst (mOp aEq (mVar 4) (mC (.str ",")))) (mSeq (mAsg (mDef 3 (mPure (m_read_thing_at g d)) (mCons (mVar 0) (mCons (mVar 1) (mCons (mVar 2) mNil)))) (gmTup 2 (gmCons (gmName 5) (gmCons (gmName 6) gmNil))))
      (mSeq (mDrop (mBM "list" (updL fAppend) (mVar 3) (mCons (mVar 5) mNil)))
      (mSeq (mAsg (mSl (mVar 0) (moS (mVar 6)) (moS (mOp aAdd (mVar 6) (mC (.int 1))))) (gmName 4))
      (mAsg (mOp aAdd (mVar 6) (mC (.int 1))) (gmName 1))))) [some R0, some (.dat (.int (a : Int))), some (.dat (.int left)), some (.obj 0), some (tD [44]), none, none] [.lst []])
      (fun o S' => (∃ (k : Nat) (δ : DEnv), V = .bad k ∧ o = .ex g.BadThing (some ("place", .int (k : Int))) δ) ∨ ∃ (acc : List P) (k : Nat) (sg : List Nat) (x5 x6 : Option D), ((sg = [41] ∧ V = .ok (.tup acc) (k + 1)) ∨ (sg ≠ [41] ∧ V = .bad k)) ∧ S' = [.lst (acc.map .dat)] ∧ o = .nx [some R0, some (.dat (.int ((k + 1 : Nat) : Int))), some (.dat (.int left)), some (.obj 0), some (tD sg), x5, x6]) := by
      refine while_ends (fun q δ S' => ∃ (k : Nat) (acc : List P) (sg : List Nat) (x5 x6 : Option D), k ≤ cs.length + 1 ∧ acc.length ≤ k ∧ S' = [.lst (acc.map .dat)] ∧ δ = [some R0, some (.dat (.int (k : Int))), some (.dat (.int left)), some (.obj 0), some (tD sg), x5, x6] ∧
        ((sg = [44] ∧ q = (cs.drop k).length + 1 ∧ ∃ n, (cs.drop k).length < n ∧ (tl f n (cs.drop k) acc).up k = V) ∨ (sg ≠ [44] ∧ q = 0 ∧ ∃ j, k = j + 1 ∧ ((sg = [41] ∧ V = .ok (.tup acc) (j + 1)) ∨ (sg ≠ [41] ∧ V = .bad j))))) (m := l.length + 1) (by have := congrArg List.length hL; rw [List.length_drop] at this; omega) ⟨a, [], [44], none, none, ha, Nat.zero_le _, rfl, rfl, .inl ⟨rfl, by rw [hL], l.length + 1, by rw [hL]; omega, by rw [hL]; exact hV⟩⟩ ?_
      rintro q δ S' ⟨k, acc, sg, x5, x6, hk, hacc, rfl, rfl, ⟨rfl, rfl, n, hn, hv⟩ | ⟨h44, rfl, j, rfl, h⟩⟩
      · have t1 : decide (txt [44] = ",") = true := by rw [y44]; rfl
        refine ⟨true, _, by dsimp! [t1] <;> rfl, fun _ => ?_, fun z => nomatch z⟩
        have hk2 := fun S => hf k hk S
        have fk := fine (cs.drop k)
        obtain ⟨n, rfl⟩ : ∃ m, n = m + 1 := ⟨n - 1, by omega⟩
        unfold tl at hv
        cases e : f (cs.drop k) with
        | bad j =>
          rw [e] at hv hk2
          simp only [rsT, RT.up] at hv hk2
          dsimp! [hk2]
          exact .of (.inl ⟨k + j, _, hv.symm, rfl⟩)
        | ok p j =>
          rw [e] at hv hk2 fk
          obtain ⟨f1, f2⟩ := fk
          rw [List.length_drop] at f2
          simp only [rsT, RT.up] at hk2
          simp only at hv
          have ki : isKind "list" [O.lst (acc.map D.dat)] (.obj 0) = true := kind_o (S := [O.lst (acc.map D.dat)]) rfl
          have ap : updL fAppend (.obj 0) [.dat p] [O.lst (acc.map D.dat)] = .ok (.dat .non) [O.lst ((acc ++ [p]).map .dat)] := by
            rw [app_o (S := [O.lst (acc.map D.dat)]) (l := acc.map .dat) rfl (by rw [List.length_map]; omega), List.map_append]
            rfl
          have s2 := fun S => sl (b := k + j) S
          unfold mBM
          dsimp! [hk2, ki, ap, mSl_e, moS_e, s2]
          rw [dd] at hv
          refine .of ?_
          cases e2 : cs.drop (k + j) with
          | nil =>
            rw [e2] at hv
            simp only [RT.up] at hv
            exact ⟨0, Nat.zero_lt_succ _, k + j + 1, acc ++ [p], [], _, _, by omega, by rw [List.length_append, List.length_singleton]; omega, rfl, rfl, .inr ⟨by simp, rfl, k + j, rfl, .inr ⟨by simp, hv.symm⟩⟩⟩
          | cons c r =>
            have hl2 := congrArg List.length e2
            rw [List.length_drop, List.length_cons] at hl2
            have e3 : cs.drop (k + j + 1) = r := by rw [← dd (k + j) 1, e2]; rfl
            rw [e2] at hv
            simp only at hv
            by_cases c1 : c = 44
            · subst c1
              rw [if_pos rfl, up_up] at hv
              exact ⟨r.length + 1, by rw [List.length_drop]; omega, k + j + 1, acc ++ [p], [44], _, _, by omega, by rw [List.length_append, List.length_singleton]; omega, rfl, rfl, .inl ⟨rfl, by rw [e3], n, by rw [e3]; rw [List.length_drop] at hn; omega, by rw [e3]; exact hv⟩⟩
            · rw [if_neg c1] at hv
              by_cases c2 : c = 41
              · subst c2
                rw [if_pos rfl] at hv
                simp only [RT.up] at hv
                exact ⟨0, Nat.zero_lt_succ _, k + j + 1, acc ++ [p], [41], _, _, by omega, by rw [List.length_append, List.length_singleton]; omega, rfl, rfl, .inr ⟨by simp, rfl, k + j, rfl, .inl ⟨rfl, hv.symm⟩⟩⟩
              · rw [if_neg c2] at hv
                simp only [RT.up] at hv
                exact ⟨0, Nat.zero_lt_succ _, k + j + 1, acc ++ [p], [c], _, _, by omega, by rw [List.length_append, List.length_singleton]; omega, rfl, rfl, .inr ⟨by simpa using c1, rfl, k + j, rfl, .inr ⟨by simpa using c2, hv.symm⟩⟩⟩
      · have t1 : decide (txt sg = ",") = false := by rw [y44]; exact decide_eq_false h44
        exact ⟨false, _, by dsimp! [t1] <;> rfl, (fun z => nomatch z), fun _ => .inr ⟨acc, j, sg, x5, x6, h, rfl, rfl⟩⟩
    have tx : txt [44] = "," := txt_eq.mpr z44.symm
    unfold tD at wl
    rw [tx] at wl
    obtain ⟨o, S', eo, ⟨k, δ, er, rfl⟩ | ⟨acc, k, sg, x5, x6, h, rfl, rfl⟩⟩ := wl
    · rw [er]
      refine pure_exc (ps := [.str (txt cs), .int (a : Int), .int left]) (by rw [hR]; rfl) (S' := S') ?_
      unfold m_read_parts
      rw [mBody_fin]
      refine fin_xx ?_
      dsimp! [mSl_e, moS_e, s1, t]
      rw [eo, then_ex]
      exact .of ⟨_, rfl, rfl⟩
    · rcases h with ⟨rfl, hv⟩ | ⟨h41, hv⟩
      · rw [hv]
        have t2 : decide (txt [41] = ")") = true := by rw [y41]; rfl
        have tu : aTuple [O.lst (acc.map D.dat)] [.obj 0] = some (.dat (.tup acc)) := tuple_o (S := [O.lst (acc.map D.dat)]) rfl
        refine pure_dat (ps := [.str (txt cs), .int (a : Int), .int left]) (by rw [hR]; rfl) (S' := [.lst (acc.map .dat)]) ?_
        unfold m_read_parts
        rw [mBody_fin]
        refine fin_rr ?_
        dsimp! [mSl_e, moS_e, s1, t]
        rw [eo]
        dsimp! [t2, tu, l2]
        exact .of ⟨rfl, rfl⟩
      · rw [hv]
        have t2 : decide (txt sg = ")") = false := by rw [y41]; exact decide_eq_false h41
        have sb : ∀ S : Store, aSub S (.dat (.int ((k + 1 : Nat) : Int))) (.dat (.int 1)) = some (.dat (.int (k : Int))) := fun _ => by
          show some (D.dat (.int (((k + 1 : Nat) : Int) - 1))) = _
          rw [show ((k + 1 : Nat) : Int) - 1 = (k : Int) by omega]
        refine pure_exc (ps := [.str (txt cs), .int (a : Int), .int left]) (by rw [hR]; rfl) (S' := [.lst (acc.map .dat)]) ?_
        unfold m_read_parts
        rw [mBody_fin]
        refine fin_xx ?_
        dsimp! [mSl_e, moS_e, s1, t]
        rw [eo]
        dsimp! [t2, sb]
        exact .of ⟨_, rfl, rfl⟩
end W3
namespace W3
open PySem PySem.Spec PyProof.Rows L2 M3
theorem flags_t {w : List Nat} {a b : DE} {δ : DEnv} {S : Store} (ha : a δ S = .ok (tD w) S) (hb : b δ S = .ok (tD w) S) : mGetT2 tab_FLAGS a b δ S = .ok (.dat (word w)) S := by
  unfold mGetT2
  rw [ha, R.bind_ok, hb, R.bind_ok]
  unfold tab_FLAGS word
  by_cases h1 : w = yesL
  · rw [if_pos h1]
    have : txt w = ("yes" : Str) := txt_eq.mpr h1
    simp only [lookPf, this, if_pos]
  · rw [if_neg h1]
    have n1 : ¬ txt w = ("yes" : Str) := fun q => h1 (txt_eq.mp q)
    by_cases h2 : w = noL
    · rw [if_pos h2]
      have : txt w = ("no" : Str) := txt_eq.mpr h2
      simp only [lookPf, if_neg n1]
      rw [if_pos this]
    · rw [if_neg h2]
      have n2 : ¬ txt w = ("no" : Str) := fun q => h2 (txt_eq.mp q)
      simp only [lookPf, if_neg n1, if_neg n2]
theorem thing_at_step (g : G) {cs : List Nat} (hl : cs.length ≤ 90000) {d : Nat} {z : Bool} {left : Int} {f : List Nat → RT} (hz : z = decide (left > 0))
    (hp : z = true → ∀ a, a ≤ cs.length + 1 → ∀ S, mPure (m_read_parts g (m_read_thing_at g d)) [tD cs, .dat (.int (a : Int)), .dat (.int (left - 1))] S = rsT g.BadThing S ((parts f (cs.drop a)).up a)) {a : Nat} (S : Store) :
    mPure (m_read_thing_at g (d + 1)) [tD cs, .dat (.int (a : Int)), .dat (.int left)] S = rsT g.BadThing S ((rd1 z f (cs.drop a)).up a) := by
  have sl := fun {b : Nat} (S : Store) => sl_1 (cs := cs) (by omega) (a := b) S
  have slb := fun {b : Nat} (S : Store) => sl_ab (cs := cs) (by omega) (a := a) (b := b) S
  have eoF := fun S => end_of_t g hl (Z := FZ) (f := isF) mem_F (a := a) S
  have eoL := fun S => end_of_t g hl (Z := LZ) (f := isL) mem_L (a := a) S
  have bm := fun S => behind_minus_t g hl (a := a) S
  have l2 : (2 : Nat) ≤ 100000 := by decide
  have y40 : ∀ sg, decide (txt sg = "(") = decide (sg = [40]) := fun sg => dec_txt z40
  have y45 : ∀ sg, decide (txt sg = "-") = decide (sg = [45]) := fun sg => dec_txt z45
  have y48 : ∀ sg, decide (txt sg = "0") = decide (sg = [48]) := fun sg => dec_txt z48
  have dd : cs.drop (a + 1) = (cs.drop a).drop 1 := by rw [List.drop_drop]
  obtain ⟨R0, hR⟩ : ∃ R0, R0 = tD cs := ⟨_, rfl⟩
  have da : datAll [R0, .dat (.int (a : Int)), .dat (.int left)] = some [.str (txt cs), .int (a : Int), .int left] := by rw [hR]; rfl
  rw [← hR] at sl slb eoF eoL bm hp ⊢
  have hl2 : (cs.drop a).length ≤ 90000 := by rw [List.length_drop]; omega
  have hlt : (cs.drop a) ≠ [] → a < cs.length := fun h => by
    rcases Nat.lt_or_ge a cs.length with q | q
    · exact q
    · exact (h (List.drop_eq_nil_of_le q)).elim
  obtain ⟨l, hL⟩ : ∃ l, cs.drop a = l := ⟨_, rfl⟩
  rw [hL] at eoF eoL hl2 hlt dd slb ⊢
  have s1 := fun S => sl (b := a) S
  rw [hL] at s1
  have rF := run_le isF 20 l
  have rL := run_le isL 20 l
  have aF := run_all isF 20 l
  cases l with
  | nil =>
    have t1 : decide (txt (([] : List Nat).take 1) = "(") = false := by rw [y40]; rfl
    have t2 : decide (txt (([] : List Nat).take 1) = "-") = false := by rw [y45]; rfl
    have t3 : decide (txt (([] : List Nat).take 1) = "0") = false := by rw [y48]; rfl
    rw [run_nil, Nat.add_zero] at eoF eoL
    have g1 : decide ((a : Int) > (a : Int)) = false := decide_eq_false (by omega)
    have g2 : decide ((a : Int) = (a : Int)) = true := decide_eq_true rfl
    refine pure_exc (ps := [.str (txt cs), .int (a : Int), .int left]) da (S' := []) ?_
    unfold m_read_thing_at
    dsimp! [mSl_e, moS_e, s1, t1, t2, t3, show ("0123456789" : Str) = FZ from rfl, show ("abcdefghijklmnopqrstuvwxyz" : Str) = LZ from rfl, eoF, eoL, g1, g2]
    all_goals rfl
  | cons c r =>
    have hlt := hlt (by simp)
    have dr : cs.drop (a + 1) = r := dd
    rw [dr] at bm
    have tk : (c :: r).take 1 = [c] := by rw [List.take_succ_cons, List.take_zero]
    rw [tk] at s1
    have e40 : decide (txt [c] = "(") = decide (c = 40) := by rw [y40, Bool.eq_iff_iff, decide_eq_true_iff, decide_eq_true_iff]; simp
    have e45 : decide (txt [c] = "-") = decide (c = 45) := by rw [y45, Bool.eq_iff_iff, decide_eq_true_iff, decide_eq_true_iff]; simp
    have e48 : decide (txt [c] = "0") = decide (c = 48) := by rw [y48, Bool.eq_iff_iff, decide_eq_true_iff, decide_eq_true_iff]; simp
    by_cases c1 : c = 40 ∧ z = true
    · have t1 : decide (txt [c] = "(") = true := by rw [e40]; exact decide_eq_true c1.1
      have gt : decide (left > 0) = true := hz.symm.trans c1.2
      have hp := hp c1.2 (a + 1) (by omega)
      rw [dr] at hp
      have hp : ∀ S, mPure (m_read_parts g (m_read_thing_at g d)) [R0, .dat (.int ((a : Int) + 1)), .dat (.int (left - 1))] S = rsT g.BadThing S ((parts f r).up (a + 1)) := hp
      have er : rd1 z f (c :: r) = (parts f r).up 1 := if_pos c1
      rw [er, up_up]
      cases e : parts f r with
      | bad k =>
        rw [e] at hp
        simp only [rsT, RT.up] at hp
        refine pure_exc (ps := [.str (txt cs), .int (a : Int), .int left]) da (S' := []) ?_
        unfold m_read_thing_at
        dsimp! [mSl_e, moS_e, s1, t1, gt, hp]
        all_goals rfl
      | ok p k =>
        rw [e] at hp
        simp only [rsT, RT.up] at hp
        refine pure_dat (ps := [.str (txt cs), .int (a : Int), .int left]) da (S' := []) ?_
        unfold m_read_thing_at
        dsimp! [mSl_e, moS_e, s1, t1, gt, hp]
        all_goals rfl
    · have er : rd1 z f (c :: r) = item (c :: r) := if_neg c1
      rw [er]
      have t1 : decide (txt [c] = "(") = false ∨ (decide (txt [c] = "(") = true ∧ decide (left > 0) = false) := by
        by_cases q : c = 40
        · refine .inr ⟨by rw [e40]; exact decide_eq_true q, ?_⟩
          rw [← hz]
          cases z with
          | true => exact (c1 ⟨q, rfl⟩).elim
          | false => rfl
        · exact .inl (by rw [e40]; exact decide_eq_false q)
      have go : ∀ {r0 : R D}, (decide (txt [c] = "(") = false → mPure (m_read_thing_at g (d + 1)) [R0, .dat (.int (a : Int)), .dat (.int left)] S = r0) → (decide (txt [c] = "(") = true → decide (left > 0) = false → mPure (m_read_thing_at g (d + 1)) [R0, .dat (.int (a : Int)), .dat (.int left)] S = r0) → mPure (m_read_thing_at g (d + 1)) [R0, .dat (.int (a : Int)), .dat (.int left)] S = r0 := fun h1 h2 => t1.elim h1 fun q => h2 q.1 q.2
      unfold item
      simp only
      by_cases c2 : c = 45
      · have t2 : decide (txt [c] = "-") = true := by rw [e45]; exact decide_eq_true c2
        rw [if_pos c2]
        cases e : minus r with
        | bad k =>
          rw [e] at bm
          simp only [rsT, RT.up] at bm
          refine go (fun t1 => ?_) (fun t1 gt => ?_)
          · refine pure_exc (ps := [.str (txt cs), .int (a : Int), .int left]) da (S' := []) ?_
            unfold m_read_thing_at
            dsimp! [mSl_e, moS_e, s1, t1, t2, bm]
            all_goals rfl
          · refine pure_exc (ps := [.str (txt cs), .int (a : Int), .int left]) da (S' := []) ?_
            unfold m_read_thing_at
            dsimp! [mSl_e, moS_e, s1, t1, gt, t2, bm]
            all_goals rfl
        | ok p k =>
          rw [e] at bm
          simp only [rsT, RT.up] at bm
          refine go (fun t1 => ?_) (fun t1 gt => ?_)
          · refine pure_dat (ps := [.str (txt cs), .int (a : Int), .int left]) da (S' := []) ?_
            unfold m_read_thing_at
            dsimp! [mSl_e, moS_e, s1, t1, t2, bm]
            all_goals rfl
          · refine pure_dat (ps := [.str (txt cs), .int (a : Int), .int left]) da (S' := []) ?_
            unfold m_read_thing_at
            dsimp! [mSl_e, moS_e, s1, t1, gt, t2, bm]
            all_goals rfl
      · have t2 : decide (txt [c] = "-") = false := by rw [e45]; exact decide_eq_false c2
        rw [if_neg c2]
        by_cases c3 : c = 48
        · have t3 : decide (txt [c] = "0") = true := by rw [e48]; exact decide_eq_true c3
          rw [if_pos c3]
          refine go (fun t1 => ?_) (fun t1 gt => ?_)
          · refine pure_dat (ps := [.str (txt cs), .int (a : Int), .int left]) da (S' := []) ?_
            unfold m_read_thing_at
            dsimp! [mSl_e, moS_e, s1, t1, t2, t3, l2]
            all_goals rfl
          · refine pure_dat (ps := [.str (txt cs), .int (a : Int), .int left]) da (S' := []) ?_
            unfold m_read_thing_at
            dsimp! [mSl_e, moS_e, s1, t1, gt, t2, t3, l2]
            all_goals rfl
        · have t3 : decide (txt [c] = "0") = false := by rw [e48]; exact decide_eq_false c3
          rw [if_neg c3]
          obtain ⟨b, hb⟩ : ∃ b, run isF 20 (c :: r) = b := ⟨_, rfl⟩
          rw [hb] at eoF aF rF ⊢
          by_cases c4 : 0 < b
          · rw [if_pos c4]
            have g1 : decide (((a + b : Nat) : Int) > (a : Int)) = true := decide_eq_true (by omega)
            have tl_ : ((c :: r).take b).length = b := by rw [List.length_take]; omega
            have it := fun S => intT_t (int_num aF (by intro q; rw [q, List.length_nil] at tl_; omega) (by rw [tl_]; omega)) (by rw [tl_]; omega) S
            have s2 := fun S => slb (b := a + b) S
            rw [Nat.add_sub_cancel_left] at s2
            refine go (fun t1 => ?_) (fun t1 gt => ?_)
            · refine pure_dat (ps := [.str (txt cs), .int (a : Int), .int left]) da (S' := []) ?_
              unfold m_read_thing_at
              dsimp! [mSl_e, moS_e, s1, t1, t2, t3, show ("0123456789" : Str) = FZ from rfl, eoF, g1, s2, it, l2]
              all_goals rfl
            · refine pure_dat (ps := [.str (txt cs), .int (a : Int), .int left]) da (S' := []) ?_
              unfold m_read_thing_at
              dsimp! [mSl_e, moS_e, s1, t1, gt, t2, t3, show ("0123456789" : Str) = FZ from rfl, eoF, g1, s2, it, l2]
              all_goals rfl
          · rw [if_neg c4]
            obtain rfl : b = 0 := by omega
            have g1 : decide (((a + 0 : Nat) : Int) > (a : Int)) = false := decide_eq_false (by omega)
            obtain ⟨k, hk⟩ : ∃ k, run isL 20 (c :: r) = k := ⟨_, rfl⟩
            rw [hk] at eoL rL ⊢
            by_cases c5 : k = 0
            · rw [if_pos c5]
              subst c5
              have g2 : decide (((a + 0 : Nat) : Int) = (a : Int)) = true := decide_eq_true (by omega)
              refine go (fun t1 => ?_) (fun t1 gt => ?_)
              · refine pure_exc (ps := [.str (txt cs), .int (a : Int), .int left]) da (S' := []) ?_
                unfold m_read_thing_at
                dsimp! [mSl_e, moS_e, s1, t1, t2, t3, show ("0123456789" : Str) = FZ from rfl, show ("abcdefghijklmnopqrstuvwxyz" : Str) = LZ from rfl, eoF, eoL, g1, g2]
                all_goals rfl
              · refine pure_exc (ps := [.str (txt cs), .int (a : Int), .int left]) da (S' := []) ?_
                unfold m_read_thing_at
                dsimp! [mSl_e, moS_e, s1, t1, gt, t2, t3, show ("0123456789" : Str) = FZ from rfl, show ("abcdefghijklmnopqrstuvwxyz" : Str) = LZ from rfl, eoF, eoL, g1, g2]
                all_goals rfl
            · rw [if_neg c5]
              have g2 : decide (((a + k : Nat) : Int) = (a : Int)) = false := decide_eq_false (by omega)
              have s2 := fun S => slb (b := a + k) S
              rw [Nat.add_sub_cancel_left] at s2
              have fl := fun (x0 x1 x2 x3 x4 : Option D) (S : Store) => flags_t (w := (c :: r).take k) (a := mVar 5) (b := mVar 5) (δ := [x0, x1, x2, x3, x4, some (tD ((c :: r).take k))]) (S := S) rfl rfl
              refine go (fun t1 => ?_) (fun t1 gt => ?_)
              · refine pure_dat (ps := [.str (txt cs), .int (a : Int), .int left]) da (S' := []) ?_
                unfold m_read_thing_at
                dsimp! [mSl_e, moS_e, s1, t1, t2, t3, show ("0123456789" : Str) = FZ from rfl, show ("abcdefghijklmnopqrstuvwxyz" : Str) = LZ from rfl, eoF, eoL, g1, g2, s2, fl, l2]
                all_goals rfl
              · refine pure_dat (ps := [.str (txt cs), .int (a : Int), .int left]) da (S' := []) ?_
                unfold m_read_thing_at
                dsimp! [mSl_e, moS_e, s1, t1, gt, t2, t3, show ("0123456789" : Str) = FZ from rfl, show ("abcdefghijklmnopqrstuvwxyz" : Str) = LZ from rfl, eoF, eoL, g1, g2, s2, fl, l2]
                all_goals rfl
theorem thing_at_t (g : G) {cs : List Nat} (hl : cs.length ≤ 90000) : ∀ (n : Nat) {d : Nat}, n < d → ∀ {a : Nat} S, mPure (m_read_thing_at g d) [tD cs, .dat (.int (a : Int)), .dat (.int (n : Int))] S = rsT g.BadThing S ((rdT n (cs.drop a)).up a) := by
  intro n
  induction n with
  | zero =>
    intro d hd a S
    obtain ⟨d, rfl⟩ : ∃ e, d = e + 1 := ⟨d - 1, by omega⟩
    exact thing_at_step g hl (z := false) (left := ((0 : Nat) : Int)) (f := fun _ => .bad 0) rfl (fun q => nomatch q) S
  | succ n ih =>
    intro d hd a S
    obtain ⟨d, rfl⟩ : ∃ e, d = e + 1 := ⟨d - 1, by omega⟩
    refine thing_at_step g hl (z := true) (left := ((n + 1 : Nat) : Int)) (f := rdT n) (decide_eq_true (by omega)).symm (fun _ a ha S => ?_) S
    rw [show ((n + 1 : Nat) : Int) - 1 = (n : Int) by omega]
    exact read_parts_t g hl (f := rdT n) (fun a _ S => ih (by omega) S) (rdT_fine n) ha S
def ansR (C : Addr) (S : Store) : Ans → R D
  | .bad k => .exc C (some ("place", .int (k : Int))) S
  | .let_ p => .ok (.dat p) S
theorem read_thing_t (g : G) {cs : List Nat} (hl : cs.length ≤ 90000) (S : Store) : mPure (m_read_thing g) [tD cs] S = ansR g.BadThing S (readT cs) := by
  have h := fun S => thing_at_t g hl 20 (d := 21) (by decide) (a := 0) S
  have ln := fun S => len_txt (cs := cs) (by omega) S
  have is : ∀ S : Store, aIsi g.K g.CS S [tD cs, .dat (.con (.ty "str"))] = some (.dat (.bl true)) := fun S => by dsimp! []
  obtain ⟨R0, hR⟩ : ∃ R0, R0 = tD cs := ⟨_, rfl⟩
  have da : datAll [R0] = some [.str (txt cs)] := by rw [hR]; rfl
  rw [← hR] at h ln is ⊢
  rw [List.drop_zero] at h
  unfold readT
  cases e : rdT 20 cs with
  | bad k =>
    rw [e] at h
    simp only [rsT, RT.up, Nat.zero_add] at h
    refine pure_exc (ps := [.str (txt cs)]) da (S' := []) ?_
    unfold m_read_thing
    dsimp! [is, show ∀ S, mPure (m_read_thing_at g 21) [R0, .dat (.int 0), .dat (.int 20)] S = _ from h]
    all_goals rfl
  | ok p k =>
    rw [e] at h
    simp only [rsT, RT.up, Nat.zero_add] at h
    simp only
    by_cases c : k < cs.length
    · have lt : decide ((k : Int) < (cs.length : Int)) = true := decide_eq_true (by omega)
      rw [if_pos c]
      refine pure_exc (ps := [.str (txt cs)]) da (S' := []) ?_
      unfold m_read_thing
      dsimp! [is, show ∀ S, mPure (m_read_thing_at g 21) [R0, .dat (.int 0), .dat (.int 20)] S = _ from h, ln, lt]
      all_goals rfl
    · have lt : decide ((k : Int) < (cs.length : Int)) = false := decide_eq_false (by omega)
      rw [if_neg c]
      refine pure_dat (ps := [.str (txt cs)]) da (S' := []) ?_
      unfold m_read_thing
      dsimp! [is, show ∀ S, mPure (m_read_thing_at g 21) [R0, .dat (.int 0), .dat (.int 20)] S = _ from h, ln, lt]
      all_goals rfl
end W3
namespace W3
open PySem PySem.Spec PyProof.Rows L2 M3
theorem try_nx {K : PySem.W.Frag} {c : Value} {C0 : Addr} {u1 u2 : Value} {i j : Nat} {mA : Option (Str × P) → Option P} {b : DS} {δ δ1 : DEnv} {S S1 : Store} (h : b δ S = .ok (.nx δ1) S1) : mTryIs K c C0 u1 u2 i j mA b δ S = .ok (.nx δ1) S1 := by
  unfold mTryIs
  rw [h]
theorem try_ex {K : PySem.W.Frag} {c : Value} {C0 : Addr} {u1 u2 : Value} {i j : Nat} {mA : Option (Str × P) → Option P} {b : DS} {δ δ1 : DEnv} {S S1 : Store} {x : Option (Str × P)} {p : P} (h : b δ S = .ok (.ex C0 x δ1) S1) (hx : PySem.W.exmOne K (.ref C0) c = some true) (ha : mA x = some p)
    (hc : i < δ1.length ∧ j < δ1.length ∧ i ≠ j ∧ PySem.W.kitOne K (.ref C0) u1 = some true ∧ PySem.W.kitOne K (.ref C0) u2 = some true) : mTryIs K c C0 u1 u2 i j mA b δ S = .ok (.nx ((δ1.set j (some (.dat p))).set i none)) S1 := by
  unfold mTryIs
  rw [h]
  dsimp only
  rw [hx]
  dsimp only
  rw [ha]
  dsimp only
  rw [if_pos ⟨rfl, hc⟩]
def toldP : Ans → P
  | .let_ p => .tup [.str "let", p]
  | .bad k => .tup [.str "bad", .int (k : Int)]
theorem told_t (g : G) (X : Gx g) {cs : List Nat} (hl : cs.length ≤ 90000) (S : Store) : mPure (m_L_told g) [tD cs] S = .ok (.dat (toldP (readT cs))) S := by
  have h := fun S => read_thing_t g hl S
  have l2 : (2 : Nat) ≤ 100000 := by decide
  obtain ⟨R0, hR⟩ : ∃ R0, R0 = tD cs := ⟨_, rfl⟩
  have da : datAll [R0] = some [.str (txt cs)] := by rw [hR]; rfl
  rw [← hR] at h ⊢
  refine pure_dat (ps := [.str (txt cs)]) da (S' := []) ?_
  unfold m_L_told
  rw [mBody_fin]
  refine fin_rr ?_
  dsimp! [l2]
  cases e : readT cs with
  | bad k =>
    rw [e] at h
    simp only [ansR] at h
    rw [try_ex (C0 := g.BadThing) (x := some ("place", .int (k : Int))) (p := toldP (.bad k)) (by dsimp! [h] <;> rfl) X.x_BadThing_BadThing rfl ⟨Nat.lt_succ_self 2, Nat.lt_succ_of_lt (Nat.lt_succ_self 1), by decide, X.ke_BadThing_ForestError, X.ke_BadThing_ValueError⟩]
    dsimp! []
    exact .of ⟨rfl, rfl⟩
  | let_ p =>
    rw [e] at h
    simp only [ansR] at h
    rw [try_nx (by dsimp! [h, l2] <;> rfl)]
    dsimp! []
    exact .of ⟨rfl, rfl⟩
/-- of what is no text -/
theorem told_no (g : G) (X : Gx g) {p : P} (hp : ∀ S : Store, aIsi g.K g.CS S [.dat p, .dat (.con (.ty "str"))] = some (.dat (.bl false))) (S : Store) : mPure (m_L_told g) [.dat p] S = .ok (.dat (.tup [.str "bad", .int (-1)])) S := by
  have l2 : (2 : Nat) ≤ 100000 := by decide
  have ng : ∀ S : Store, aNeg S (.dat (.int 1)) = some (.dat (.int (-1))) := fun _ => rfl
  have h : ∀ S, mPure (m_read_thing g) [.dat p] S = .exc g.BadThing (some ("place", .int (-1))) S := fun S => by
    refine pure_exc (ps := [p]) rfl (S' := []) ?_
    unfold m_read_thing
    dsimp! [hp, ng]
    all_goals rfl
  refine pure_dat (ps := [p]) rfl (S' := []) ?_
  unfold m_L_told
  rw [mBody_fin]
  refine fin_rr ?_
  dsimp! [l2]
  rw [try_ex (C0 := g.BadThing) (x := some ("place", .int (-1))) (p := .tup [.str "bad", .int (-1)]) (by dsimp! [h] <;> rfl) X.x_BadThing_BadThing rfl ⟨Nat.lt_succ_self 2, Nat.lt_succ_of_lt (Nat.lt_succ_self 1), by decide, X.ke_BadThing_ForestError, X.ke_BadThing_ValueError⟩]
  dsimp! []
  exact .of ⟨rfl, rfl⟩
end W3
namespace W3
open PySem PySem.Spec PyProof.Rows L2 M3
structure Stk (S : Store) (rs : List Nat) (ls : List (List P)) : Prop where
  at_ : S[1]? = some (.lst (rs.reverse.map D.obj))
  len : rs.length = ls.length
  lv : ∀ (k r : Nat) (l : List P), rs[k]? = some r → ls[k]? = some l → S[r]? = some (.lst (l.map .dat))
  nd : rs.Nodup
  ne : 1 ∉ rs
theorem Stk.lt {S : Store} {rs : List Nat} {ls : List (List P)} (K : Stk S rs ls) {r : Nat} (h : r ∈ rs) : r < S.length := by
  obtain ⟨k, hk⟩ := List.getElem?_of_mem h
  have hlt := (List.getElem?_eq_some_iff.mp hk).1
  have hlt2 : k < ls.length := by rw [← K.len]; exact hlt
  have := K.lv k r ls[k] hk (List.getElem?_eq_getElem hlt2)
  exact (List.getElem?_eq_some_iff.mp this).1
theorem Stk.app {S : Store} {r : Nat} {rs : List Nat} {l : List P} {ls : List (List P)} (K : Stk S (r :: rs) (l :: ls)) (p : P) : Stk (S.set r (.lst ((l ++ [p]).map .dat))) (r :: rs) ((l ++ [p]) :: ls) := by
  have hr := K.lt List.mem_cons_self
  refine ⟨?_, K.len, fun k r' l' e1 e2 => ?_, K.nd, K.ne⟩
  · rw [List.getElem?_set_ne (fun q => K.ne (by rw [q]; exact List.mem_cons_self))]
    exact K.at_
  · cases k with
    | zero =>
      cases e1; cases e2
      rw [List.getElem?_set_self hr]
    | succ k =>
      have m : r' ∈ rs := List.mem_of_getElem? (by simpa using e1)
      have ne : r ≠ r' := fun q => (List.nodup_cons.mp K.nd).1 (q ▸ m)
      rw [List.getElem?_set_ne ne]
      exact K.lv (k + 1) r' l' e1 (by simpa using e2)
theorem Stk.pop {S : Store} {r : Nat} {rs : List Nat} {l : List P} {ls : List (List P)} (K : Stk S (r :: rs) (l :: ls)) : Stk (S.set 1 (.lst (rs.reverse.map D.obj))) rs ls := by
  have h1 := (List.getElem?_eq_some_iff.mp K.at_).1
  refine ⟨by rw [List.getElem?_set_self h1], by have := K.len; simpa using this, fun k r' l' e1 e2 => ?_, (List.nodup_cons.mp K.nd).2, fun m => K.ne (List.mem_cons_of_mem _ m)⟩
  rw [List.getElem?_set_ne (fun q => K.ne (by rw [q]; exact List.mem_cons_of_mem _ (List.mem_of_getElem? e1)))]
  exact K.lv (k + 1) r' l' (by simpa using e1) (by simpa using e2)
theorem Stk.push {S : Store} {rs : List Nat} {ls : List (List P)} (K : Stk S rs ls) : Stk ((S ++ [O.lst []]).set 1 (.lst (rs.reverse.map D.obj ++ [.obj S.length]))) (S.length :: rs) ([] :: ls) := by
  have h1 := (List.getElem?_eq_some_iff.mp K.at_).1
  refine ⟨?_, by rw [List.length_cons, List.length_cons, K.len], fun k r' l' e1 e2 => ?_, List.nodup_cons.mpr ⟨fun m => Nat.lt_irrefl _ (K.lt m), K.nd⟩, fun m => ?_⟩
  · rw [List.getElem?_set_self (by rw [List.length_append]; omega), List.reverse_cons, List.map_append]; rfl
  · cases k with
    | zero =>
      cases e1; cases e2
      rw [List.getElem?_set_ne (by omega), List.getElem?_append_right (Nat.le_refl _), Nat.sub_self]; rfl
    | succ k =>
      have m : r' ∈ rs := List.mem_of_getElem? (by simpa using e1)
      rw [List.getElem?_set_ne (fun q => K.ne (by rw [q]; exact m)), List.getElem?_append_left (K.lt m)]
      exact K.lv k r' l' (by simpa using e1) (by simpa using e2)
  · rcases List.mem_cons.mp m with q | m
    · omega
    · exact K.ne m
theorem last_at {α : Type} (l : List α) (x : α) : atI (l ++ [x]) (-1) = some x := atI_last (by simp)
theorem Stk.top {S : Store} {r : Nat} {rs : List Nat} {ls : List (List P)} (K : Stk S (r :: rs) ls) : aIx S (.obj 1) (.dat (.int (-1))) = some (.obj r) := by
  refine ix_o K.at_ ?_
  rw [List.reverse_cons, List.map_append]
  exact last_at _ _
theorem Stk.popd {S : Store} {r : Nat} {rs : List Nat} {ls : List (List P)} (K : Stk S (r :: rs) ls) : updL fPop (.obj 1) [] S = .ok (.obj r) (S.set 1 (.lst (rs.reverse.map D.obj))) := by
  have e : (r :: rs).reverse.map D.obj = rs.reverse.map D.obj ++ [.obj r] := by rw [List.reverse_cons, List.map_append]; rfl
  have q : fPop ((r :: rs).reverse.map D.obj) [] = some (.obj r, rs.reverse.map D.obj) := by
    rw [e]
    unfold fPop
    dsimp only
    rw [List.length_append, List.length_singleton, Nat.add_sub_cancel, List.getElem?_append_right (Nat.le_refl _), Nat.sub_self, List.dropLast_concat]
    rfl
  unfold updL
  simp only [K.at_, q]
theorem Stk.cnt {S : Store} {rs : List Nat} {ls : List (List P)} (K : Stk S rs ls) : aLen S [.obj 1] = some (.dat (.int (ls.length : Int))) := by
  rw [len_o K.at_, List.length_map, List.length_reverse, K.len]
theorem and3 {t1 t2 t3 : DT} {b1 b2 b3 : Bool} {δ : DEnv} {S : Store} (h1 : t1 δ S = .ok b1 S) (h2 : t2 δ S = .ok b2 S) (h3 : t3 δ S = .ok b3 S) : mAndT t1 (mAndT t2 t3) δ S = .ok (b1 && (b2 && b3)) S := by
  rw [mAndT_eq, h1]
  cases b1 with
  | false => rfl
  | true =>
    show mAndT t2 t3 δ S = _
    rw [mAndT_eq, h2]
    cases b2 with
    | false => rfl
    | true => exact h3
theorem ifT {c : DT} {a b : DS} {δ : DEnv} {S S1 : Store} (h : c δ S = .ok true S1) : mIfS c a b δ S = a δ S1 := by
  unfold mIfS; rw [h]; rfl
theorem ifF {c : DT} {a b : DS} {δ : DEnv} {S S1 : Store} (h : c δ S = .ok false S1) : mIfS c a b δ S = b δ S1 := by
  unfold mIfS; rw [h]; rfl
theorem seqN {a b : DS} {δ δ1 : DEnv} {S S1 : Store} (h : a δ S = .ok (.nx δ1) S1) : mSeq a b δ S = b δ1 S1 := by
  unfold mSeq; rw [h]
def dueZ : Due → Str
  | .item => "item"
  | .first => "first"
  | .done => "done"
theorem ne_item (d : Due) : decide (dueZ d = ("item" : Str)) = decide (d = .item) := by cases d <;> decide +kernel
theorem ne_done (d : Due) : decide (dueZ d = ("done" : Str)) = decide (d = .done) := by cases d <;> decide +kernel
end W3
namespace W3
open PySem PySem.Spec PyProof.Rows L2 M3
def B1 : DS := mSeq (mAsg (mCall aTuple (mCons (mBM "list" (updL fPop) (mVar 2) mNil) mNil)) (gmName 7)) (mSeq (mDrop (mBM "list" (updL fAppend) (mOp aIx (mVar 2) (mUn aNeg (mC (.int 1)))) (mCons (mVar 7) mNil))) (mPar 1 3 (mCons (mOp aAdd (mVar 1) (mC (.int 1))) (mCons (mC (.str "done")) mNil))))
def B2 : DS := mPar 1 3 (mCons (mOp aAdd (mVar 1) (mC (.int 1))) (mCons (mC (.str "item")) mNil))
def B3 : DS := mSeq (mDrop (mBM "list" (updL fAppend) (mVar 2) (mCons (mTrk (mLst mNil)) mNil))) (mPar 1 3 (mCons (mOp aAdd (mVar 1) (mC (.int 1))) (mCons (mC (.str "first")) mNil)))
def B4 (g : G) : DS := mSeq (mAsg (mIf (mTst (mOp aNe (mVar 3) (mC (.str "done")))) (mDef 2 (mPure (m_L_token g)) (mCons (mVar 0) (mCons (mVar 1) mNil))) (mC (.int 0))) (gmName 8))
      (mSeq (mIfS (mTst (mOp aEq (mVar 8) (mC (.int 0)))) (mRet (mTup (mCons (mC (.str "bad")) (mCons (mVar 1) mNil)))) mNext)
      (mSeq (mDrop (mBM "list" (updL fAppend) (mOp aIx (mVar 2) (mUn aNeg (mC (.int 1)))) (mCons (mDef 1 (mPure (m_L_item g)) (mCons (mSl (mVar 0) (moS (mVar 1)) (moS (mOp aAdd (mVar 1) (mVar 8)))) mNil)) mNil)))
      (mPar 1 3 (mCons (mOp aAdd (mVar 1) (mVar 8)) (mCons (mC (.str "done")) mNil)))))
abbrev E9 (R0 : D) (a : Nat) (due : Due) (x4 x5 x6 x7 x8 : Option D) : DEnv := [some R0, some (.dat (.int (a : Int))), some (.obj 1), some (.dat (.str (dueZ due))), x4, x5, x6, x7, x8]
theorem ng1 (S : Store) : aNeg S (.dat (.int 1)) = some (.dat (.int (-1))) := rfl
theorem B1_t {R0 : D} {a : Nat} {due : Due} {x4 x5 x6 x7 x8 : Option D} {S : Store} {r1 r2 : Nat} {rs : List Nat} {top u : List P} {st : List (List P)} (K : Stk S (r1 :: r2 :: rs) (top :: u :: st)) (hu : u.length < 100000) :
    ∃ S' y7, B1 (E9 R0 a due x4 x5 x6 x7 x8) S = .ok (.nx (E9 R0 (a + 1) .done x4 x5 x6 y7 x8)) S' ∧ Stk S' (r2 :: rs) ((u ++ [.tup top]) :: st) := by
  have ki : isKind "list" S (.obj 1) = true := kind_o K.at_
  have pp := K.popd
  have K2 := K.pop
  obtain ⟨S1, hS1⟩ : ∃ S1, S.set 1 (.lst ((r2 :: rs).reverse.map D.obj)) = S1 := ⟨_, rfl⟩
  rw [hS1] at pp K2
  have n1 : (1 : Nat) ≠ r1 := fun q => K.ne (q ▸ List.mem_cons_self)
  have tu : aTuple S1 [.obj r1] = some (.dat (.tup top)) := tuple_o (by
    rw [← hS1, List.getElem?_set_ne n1]
    exact K.lv 0 r1 top rfl rfl)
  have tp := K2.top
  have k2 : isKind "list" S1 (.obj r2) = true := kind_o (K2.lv 0 r2 u rfl rfl)
  have ap : updL fAppend (.obj r2) [.dat (.tup top)] S1 = .ok (.dat .non) (S1.set r2 (.lst ((u ++ [P.tup top]).map .dat))) := by
    rw [app_o (K2.lv 0 r2 u rfl rfl) (by rw [List.length_map]; exact hu), List.map_append]
    rfl
  refine ⟨_, some (.dat (.tup top)), ?_, K2.app (P.tup top)⟩
  unfold B1 mBM
  dsimp! [ki, pp, tu, ng1, tp, k2, ap]
  all_goals rfl
theorem B2_t {R0 : D} {a : Nat} {due : Due} {x4 x5 x6 x7 x8 : Option D} {S : Store} : B2 (E9 R0 a due x4 x5 x6 x7 x8) S = .ok (.nx (E9 R0 (a + 1) .item x4 x5 x6 x7 x8)) S := by
  unfold B2
  dsimp! []
  all_goals rfl
theorem B3_t {R0 : D} {a : Nat} {due : Due} {x4 x5 x6 x7 x8 : Option D} {S : Store} {rs : List Nat} {ls : List (List P)} (K : Stk S rs ls) (hl : ls.length ≤ 1000) :
    ∃ S', B3 (E9 R0 a due x4 x5 x6 x7 x8) S = .ok (.nx (E9 R0 (a + 1) .first x4 x5 x6 x7 x8)) S' ∧ Stk S' (S.length :: rs) ([] :: ls) := by
  have ki : isKind "list" S (.obj 1) = true := kind_o K.at_
  have l0 : (0 : Nat) ≤ 100000 := by decide
  have h1 := (List.getElem?_eq_some_iff.mp K.at_).1
  have ap : updL fAppend (.obj 1) [.obj S.length] (S ++ [O.lst []]) = .ok (.dat .non) ((S ++ [O.lst []]).set 1 (.lst (rs.reverse.map D.obj ++ [.obj S.length]))) :=
    app_o (by rw [List.getElem?_append_left h1]; exact K.at_) (by rw [List.length_map, List.length_reverse, K.len]; omega)
  refine ⟨_, ?_, K.push⟩
  unfold B3 mBM
  dsimp! [ki, l0, ap]
  all_goals rfl
theorem B4_done (g : G) {R0 : D} {a : Nat} {x4 x5 x6 x7 x8 : Option D} {S : Store} : Ends (B4 g (E9 R0 a .done x4 x5 x6 x7 x8) S) fun o S' => o = .rt (.dat (.tup [.str "bad", .int (a : Int)])) := by
  have l2 : (2 : Nat) ≤ 100000 := by decide
  have d : decide (dueZ .done = ("done" : Str)) = true := by rw [ne_done]; rfl
  unfold B4
  dsimp! [d, l2]
  exact .of rfl
theorem B4_bad (g : G) {cs : List Nat} {a : Nat} (hl : cs.length ≤ 90000) (ha : a < cs.length) {due : Due} (hd : due ≠ .done) (ht : tokN (cs.drop a) = 0) {x4 x5 x6 x7 x8 : Option D} {S : Store} : Ends (B4 g (E9 (tD cs) a due x4 x5 x6 x7 x8) S) fun o S' => o = .rt (.dat (.tup [.str "bad", .int (a : Int)])) := by
  have l2 : (2 : Nat) ≤ 100000 := by decide
  have d : decide (dueZ due = ("done" : Str)) = false := by rw [ne_done]; exact decide_eq_false hd
  have tk := fun S => L_token_t g hl ha S
  rw [ht] at tk
  obtain ⟨R0, hR⟩ : ∃ R0, R0 = tD cs := ⟨_, rfl⟩
  rw [← hR] at tk ⊢
  have z : decide (((0 : Nat) : Int) = 0) = true := rfl
  unfold B4
  dsimp! [d, l2, tk, z]
  exact .of rfl
theorem B4_t (g : G) {cs : List Nat} {a k : Nat} {p : P} (hl : cs.length ≤ 90000) (ha : a < cs.length) {due : Due} (hd : due ≠ .done) (ht : tokN (cs.drop a) = k) (hk : 1 ≤ k) (hi : Itm ((cs.drop a).take k) p) {x4 x5 x6 x7 x8 : Option D} {S : Store} {r : Nat} {rs : List Nat} {top : List P} {st : List (List P)} (K : Stk S (r :: rs) (top :: st)) (hu : top.length < 100000) :
    ∃ S' y8, B4 g (E9 (tD cs) a due x4 x5 x6 x7 x8) S = .ok (.nx (E9 (tD cs) (a + k) .done x4 x5 x6 x7 y8)) S' ∧ Stk S' (r :: rs) ((top ++ [p]) :: st) := by
  have d : decide (dueZ due = ("done" : Str)) = false := by rw [ne_done]; exact decide_eq_false hd
  have tk := fun S => L_token_t g hl ha S
  have it := fun S => L_item_t g hi S
  have sl := fun S => sl_ab (cs := cs) (by omega) (a := a) (b := a + k) S
  rw [Nat.add_sub_cancel_left] at sl
  rw [ht] at tk
  obtain ⟨R0, hR⟩ : ∃ R0, R0 = tD cs := ⟨_, rfl⟩
  rw [← hR] at tk sl ⊢
  have z : decide ((k : Int) = 0) = false := decide_eq_false (by omega)
  have ak : ∀ S : Store, aAdd S (.dat (.int (a : Int))) (.dat (.int (k : Int))) = some (.dat (.int ((a + k : Nat) : Int))) := fun _ => rfl
  have tp := K.top
  have k2 : isKind "list" S (.obj r) = true := kind_o (K.lv 0 r top rfl rfl)
  have ap : updL fAppend (.obj r) [.dat p] S = .ok (.dat .non) (S.set r (.lst ((top ++ [p]).map .dat))) := by
    rw [app_o (K.lv 0 r top rfl rfl) (by rw [List.length_map]; exact hu), List.map_append]
    rfl
  refine ⟨_, some (.dat (.int (k : Int))), ?_, K.app p⟩
  unfold B4 mBM
  dsimp! [d, tk, z, ng1, tp, k2, mSl_e, moS_e, ak, sl, it, ap]
  all_goals rfl
end W3
namespace W3
open PySem PySem.Spec PyProof.Rows L2 M3
theorem tst_e {a b : DE} {f : Store → D → D → Option D} {δ : DEnv} {S : Store} {b0 : Bool} {x y : D} (ha : a δ S = .ok x S) (hb : b δ S = .ok y S) (h : f S x y = some (.dat (.bl b0))) : mTst (mOp f a b) δ S = .ok b0 S := by
  unfold mTst mOp
  rw [ha, R.bind_ok, hb, R.bind_ok, h]
  rfl
theorem L_read_t (g : G) {cs : List Nat} (hl : cs.length ≤ 90000) (S : Store) : mPure (m_L_read g) [tD cs] S = .ok (.dat (toldP (readT cs))) S := by
  have ln := fun S => len_txt (cs := cs) (by omega) S
  have ix : ∀ {i b : Nat}, cs[i]? = some b → ∀ S : Store, aIx S (tD cs) (.dat (.int (i : Int))) = some (tD [b]) := fun h S => ix_txt (by omega) h S
  have is : ∀ S : Store, aIsi g.K g.CS S [tD cs, .dat (.con (.ty "str"))] = some (.dat (.bl true)) := fun S => by dsimp! []
  have b4b := fun {a due} h1 h2 h3 {x4 x5 x6 x7 x8 S} => B4_bad g (cs := cs) (a := a) hl h1 (due := due) h2 h3 (x4 := x4) (x5 := x5) (x6 := x6) (x7 := x7) (x8 := x8) (S := S)
  have b4t := fun {a k p} h1 {due} h2 h3 h4 h5 {x4 x5 x6 x7 x8 S r rs top st} K hu => B4_t g (cs := cs) (a := a) (k := k) (p := p) hl h1 (due := due) h2 h3 h4 h5 (x4 := x4) (x5 := x5) (x6 := x6) (x7 := x7) (x8 := x8) (S := S) (r := r) (rs := rs) (top := top) (st := st) K hu
  obtain ⟨R0, hR⟩ : ∃ R0, R0 = tD cs := ⟨_, rfl⟩
  have da : datAll [R0] = some [.str (txt cs)] := by rw [hR]; rfl
  rw [← hR] at ln ix is b4b b4t ⊢
  have l2 : (2 : Nat) ≤ 100000 := by decide
  have l1 : (1 : Nat) ≤ 100000 := by decide
  have l0 : (0 : Nat) ≤ 100000 := by decide
  obtain ⟨V, hV⟩ : ∃ V, readT cs = V := ⟨_, rfl⟩
  rw [hV]
  suffices z : ∃ d S', m_L_read g [R0] [] = .ok d S' ∧ d = .dat (toldP V) by
    obtain ⟨d, S', e, rfl⟩ := z
    exact pure_dat (ps := [.str (txt cs)]) da e
  unfold m_L_read
  rw [mBody_fin]
  refine fin_ends ?_
  have init : ∀ δ : DEnv, mPar3 1 2 3 (mCons (mC (.int 0)) (mCons (mTrk (mLst (mCons (mTrk (mLst mNil)) mNil))) (mCons (mC (.str "item")) mNil))) [some R0, none, none, none, none, none, none, none, none] [] = .ok (.nx (E9 R0 0 .item none none none none none)) [O.lst [], O.lst [.obj 0]] := fun _ => by
    unfold mPar3
    dsimp! [l1, l0]
    all_goals rfl
  dsimp! [is]
  rw [init []]
  dsimp! []
  rw [for_items (rng0_ok (n := cs.length) (by dsimp! [ln] <;> rfl) (by omega))]
  refine then_ends (Q1 := fun o S' => o = .rt (.dat (toldP V)) ∨ ∃ (rs : List Nat) (top : List P) (st : List (List P)) (due : Due) (x4 x5 x6 x7 x8 : Option D), Stk S' rs (top :: st) ∧ (due = .done → top ≠ []) ∧ mach [] top st due cs.length 0 = V ∧ o = .nx (E9 R0 cs.length due x4 x5 x6 x7 x8)) ?_ ?_
  · refine forL_ends (fun i δ S' => ∃ (a : Nat) (rs : List Nat) (top : List P) (st : List (List P)) (due : Due) (x4 x5 x6 x7 x8 : Option D), a ≤ cs.length ∧ min i cs.length ≤ a ∧ Stk S' rs (top :: st) ∧ st.length ≤ 20 ∧ (∀ l ∈ top :: st, l.length ≤ a) ∧ (due = .done → top ≠ []) ∧ mach (cs.drop a) top st due a 0 = V ∧ δ = E9 R0 a due x4 x5 x6 x7 x8) (i := 0) ?_ ?_ ?_
    · refine ⟨0, [0], [], [], .item, none, none, none, none, none, Nat.zero_le _, by omega, ⟨rfl, rfl, fun k r l e1 e2 => ?_, by simp, by simp⟩, by decide, fun l m => by simp at m; rw [m]; exact Nat.le_refl _, (fun q => nomatch q), by rw [List.drop_zero, mach_read, hV], rfl⟩
      cases k with
      | zero => cases e1; cases e2; rfl
      | succ k => simp at e1
    · rintro i d δ S' ed ⟨a, rs, top, st, due, x4, x5, x6, x7, x8, ha, hia, K, hst, hll, htop, hm, rfl⟩
      rw [Nat.zero_add] at hia ⊢
      rw [List.getElem?_map] at ed
      have hi : i < cs.length := by
        rcases Nat.lt_or_ge i cs.length with q | q
        · exact q
        · rw [List.getElem?_eq_none (by rw [List.length_range]; exact q)] at ed; cases ed
      have g4 : gmName 4 d (E9 R0 a due x4 x5 x6 x7 x8) S' = .ok (E9 R0 a due (some d) x5 x6 x7 x8) S' := rfl
      rw [g4, R.st_ok]
      have v0 : ∀ (x4 x5 x6 x7 x8 : Option D) (due : Due) (S : Store), mCall aLen (mCons (mVar 0) mNil) (E9 R0 a due x4 x5 x6 x7 x8) S = .ok (.dat (.int (cs.length : Int))) S := fun x4 x5 x6 x7 x8 due S => by dsimp! [ln]; all_goals rfl
      by_cases hlt : a < cs.length
      · have tl_ : mTst (mOp aLt (mVar 1) (mCall aLen (mCons (mVar 0) mNil))) (E9 R0 a due (some d) x5 x6 x7 x8) S' = .ok true S' := tst_e (x := .dat (.int (a : Int))) rfl (v0 _ _ _ _ _ _ _) (by rw [lt_ii, decide_eq_true (show (a : Int) < (cs.length : Int) by omega)])
        rw [ifT tl_]
        have ea : cs[a]? = some cs[a] := List.getElem?_eq_getElem hlt
        have ed2 : cs.drop a = cs[a] :: cs.drop (a + 1) := List.drop_eq_getElem_cons hlt
        obtain ⟨c, hc⟩ : ∃ c, cs[a] = c := ⟨_, rfl⟩
        rw [hc] at ea ed2
        have dr : ∀ k, (cs.drop (a + 1)).drop k = cs.drop (a + 1 + k) := fun k => List.drop_drop
        obtain ⟨r, hr⟩ : ∃ r, cs.drop (a + 1) = r := ⟨_, rfl⟩
        rw [hr] at ed2 dr
        have cn := fun (b : Int) => K.cnt
        have pr : mPar 5 6 (mCons (mOp aIx (mVar 0) (mVar 1)) (mCons (mOp aGt (mCall aLen (mCons (mVar 2) mNil)) (mC (.int 1))) mNil)) (E9 R0 a due (some d) x5 x6 x7 x8) S' = .ok (.nx (E9 R0 a due (some d) (some (tD [c])) (some (.dat (.bl (decide (st ≠ []))))) x7 x8)) S' := by
          have gt : decide ((1 : Int) < ((st.length + 1 : Nat) : Int)) = decide (st ≠ []) := by
            rw [Bool.eq_iff_iff, decide_eq_true_iff, decide_eq_true_iff]
            cases st with
            | nil => simp
            | cons => simp; omega
          have kc := K.cnt
          rw [List.length_cons] at kc
          have gg : ∀ (j : Int), decide (j > 1) = decide (1 < j) := fun _ => rfl
          dsimp! [ix ea, kc, gg, gt]
          all_goals rfl
        rw [seqN pr]
        -- the tests
        have t41 : mTst (mOp aEq (mVar 5) (mC (.str ")"))) (E9 R0 a due (some d) (some (tD [c])) (some (.dat (.bl (decide (st ≠ []))))) x7 x8) S' = .ok (decide (c = 41)) S' := tst_e (x := tD [c]) rfl rfl (by rw [eq_ss, dec_txt z41, show decide ([c] = [41]) = decide (c = 41) by rw [Bool.eq_iff_iff, decide_eq_true_iff, decide_eq_true_iff]; simp])
        have t44 : mTst (mOp aEq (mVar 5) (mC (.str ","))) (E9 R0 a due (some d) (some (tD [c])) (some (.dat (.bl (decide (st ≠ []))))) x7 x8) S' = .ok (decide (c = 44)) S' := tst_e (x := tD [c]) rfl rfl (by rw [eq_ss, dec_txt z44, show decide ([c] = [44]) = decide (c = 44) by rw [Bool.eq_iff_iff, decide_eq_true_iff, decide_eq_true_iff]; simp])
        have t40 : mTst (mOp aEq (mVar 5) (mC (.str "("))) (E9 R0 a due (some d) (some (tD [c])) (some (.dat (.bl (decide (st ≠ []))))) x7 x8) S' = .ok (decide (c = 40)) S' := tst_e (x := tD [c]) rfl rfl (by rw [eq_ss, dec_txt z40, show decide ([c] = [40]) = decide (c = 40) by rw [Bool.eq_iff_iff, decide_eq_true_iff, decide_eq_true_iff]; simp])
        have ti : mTst (mVar 6) (E9 R0 a due (some d) (some (tD [c])) (some (.dat (.bl (decide (st ≠ []))))) x7 x8) S' = .ok (decide (st ≠ [])) S' := rfl
        have tni : mTst (mOp aNe (mVar 3) (mC (.str "item"))) (E9 R0 a due (some d) (some (tD [c])) (some (.dat (.bl (decide (st ≠ []))))) x7 x8) S' = .ok (decide (due ≠ .item)) S' := tst_e (x := .dat (.str (dueZ due))) rfl rfl (by rw [ne_ss, ne_item, decide_not])
        have tnd : mTst (mOp aNe (mVar 3) (mC (.str "done"))) (E9 R0 a due (some d) (some (tD [c])) (some (.dat (.bl (decide (st ≠ []))))) x7 x8) S' = .ok (decide (due ≠ .done)) S' := tst_e (x := .dat (.str (dueZ due))) rfl rfl (by rw [ne_ss, ne_done, decide_not])
        have ted : mTst (mOp aEq (mVar 3) (mC (.str "done"))) (E9 R0 a due (some d) (some (tD [c])) (some (.dat (.bl (decide (st ≠ []))))) x7 x8) S' = .ok (decide (due = .done)) S' := tst_e (x := .dat (.str (dueZ due))) rfl rfl (by rw [eq_ss, ne_done])
        have tle : mTst (mOp aLe (mCall aLen (mCons (mVar 2) mNil)) (mC (.int 20))) (E9 R0 a due (some d) (some (tD [c])) (some (.dat (.bl (decide (st ≠ []))))) x7 x8) S' = .ok (decide (st.length < 20)) S' := tst_e (x := .dat (.int ((top :: st).length : Int))) (by have kc := K.cnt; dsimp! [kc]; all_goals rfl) rfl (by
          rw [le_ii, show decide (((top :: st).length : Int) ≤ 20) = decide (st.length < 20) by rw [Bool.eq_iff_iff, decide_eq_true_iff, decide_eq_true_iff, List.length_cons]; omega])
        have c1 := and3 t41 ti tni
        have c2 := and3 t44 ti ted
        have c3 := and3 t40 tnd tle
        have AN : ∀ {A B C : Prop} [Decidable A] [Decidable B] [Decidable C], (decide A && (decide B && decide C)) = decide (A ∧ B ∧ C) := by
          intro A B C _ _ _
          by_cases hA : A <;> by_cases hB : B <;> by_cases hC : C <;> simp [hA, hB, hC]
        rw [AN] at c1 c2 c3
        rw [ed2] at hm
        have hl1 : ∀ {l : List P}, l ∈ top :: st → l.length < 100000 := fun m => by have := hll _ m; omega
        have hi1 : min (i + 1) cs.length ≤ a + 1 := by omega
        by_cases d1 : c = 41 ∧ st ≠ [] ∧ due ≠ .item
        · rw [decide_eq_true d1] at c1
          rw [ifT c1]
          unfold mach at hm
          rw [if_pos d1] at hm
          cases st with
          | nil => exact (d1.2.1 rfl).elim
          | cons u st' =>
            simp only at hm
            obtain ⟨r1, r2, rs', rfl⟩ : ∃ r1 r2 rs', rs = r1 :: r2 :: rs' := by
              have hlen := K.len
              match rs, hlen with
              | [], h => simp at h
              | [_], h => simp at h
              | r1 :: r2 :: rs', _ => exact ⟨r1, r2, rs', rfl⟩
            obtain ⟨S2, y7, e1, K2⟩ := B1_t (R0 := R0) (a := a) (due := due) (x4 := some d) (x5 := some (tD [c])) (x6 := some (.dat (.bl (decide (u :: st' ≠ []))))) (x7 := x7) (x8 := x8) K (hl1 (List.mem_cons_of_mem _ List.mem_cons_self))
            refine ⟨_, _, e1, a + 1, _, _, _, .done, _, _, _, _, _, by omega, hi1, K2, by rw [List.length_cons] at hst; omega, fun l m => ?_, fun _ q => by simp at q, by rw [hr]; exact hm, rfl⟩
            rcases List.mem_cons.mp m with rfl | m
            · have := hll u (List.mem_cons_of_mem _ List.mem_cons_self)
              rw [List.length_append, List.length_singleton]; omega
            · have := hll l (List.mem_cons_of_mem _ (List.mem_cons_of_mem _ m)); omega
        · rw [decide_eq_false d1] at c1
          rw [ifF c1]
          unfold mach at hm
          rw [if_neg d1] at hm
          by_cases d2 : c = 44 ∧ st ≠ [] ∧ due = .done
          · rw [decide_eq_true d2] at c2
            rw [ifT c2]
            rw [if_pos d2] at hm
            refine ⟨_, _, B2_t, a + 1, _, _, _, .item, _, _, _, _, _, by omega, hi1, K, hst, fun l m => by have := hll l m; omega, (fun q => nomatch q), by rw [hr]; exact hm, rfl⟩
          · rw [decide_eq_false d2] at c2
            rw [ifF c2]
            rw [if_neg d2] at hm
            by_cases d3 : c = 40 ∧ due ≠ .done ∧ st.length < 20
            · rw [decide_eq_true d3] at c3
              rw [ifT c3]
              rw [if_pos d3] at hm
              obtain ⟨S2, e1, K2⟩ := B3_t (R0 := R0) (a := a) (due := due) (x4 := some d) (x5 := some (tD [c])) (x6 := some (.dat (.bl (decide (st ≠ []))))) (x7 := x7) (x8 := x8) K (by rw [List.length_cons]; omega)
              refine ⟨_, _, e1, a + 1, _, _, _, .first, _, _, _, _, _, by omega, hi1, K2, by rw [List.length_cons]; omega, fun l m => ?_, (fun q => nomatch q), by rw [hr]; exact hm, rfl⟩
              rcases List.mem_cons.mp m with rfl | m
              · exact Nat.zero_le _
              · have := hll l m; omega
            · rw [decide_eq_false d3] at c3
              rw [ifF c3]
              rw [if_neg d3] at hm
              by_cases d4 : due = .done
              · rw [if_pos d4] at hm
                subst d4
                obtain ⟨o, S2, e1, rfl⟩ := B4_done g (R0 := R0) (a := a) (x4 := some d) (x5 := some (tD [c])) (x6 := some (.dat (.bl (decide (st ≠ []))))) (x7 := x7) (x8 := x8) (S := S')
                exact ⟨_, _, e1, .inl (by rw [← hm]; rfl)⟩
              · rw [if_neg d4] at hm
                have ti := tok_item c r
                rw [← ed2] at ti hm
                cases e5 : item (cs.drop a) with
                | bad k =>
                  rw [e5] at ti hm
                  simp only at ti hm
                  obtain ⟨o, S2, e1, rfl⟩ := b4b hlt d4 ti (x4 := some d) (x5 := some (tD [c])) (x6 := some (.dat (.bl (decide (st ≠ []))))) (x7 := x7) (x8 := x8) (S := S')
                  exact ⟨_, _, e1, .inl (by rw [← hm]; rfl)⟩
                | ok p k =>
                  have fi := item_fine (cs.drop a)
                  rw [e5] at ti hm fi
                  obtain ⟨f1, f2⟩ := fi
                  rw [List.length_drop] at f2
                  simp only at ti hm
                  obtain ⟨r1, rs', rfl⟩ : ∃ r1 rs', rs = r1 :: rs' := by
                    have hlen := K.len
                    match rs, hlen with
                    | [], h => simp at h
                    | r1 :: rs', _ => exact ⟨r1, rs', rfl⟩
                  obtain ⟨S2, y8, e1, K2⟩ := b4t hlt d4 ti.1 f1 ti.2 (x4 := some d) (x5 := some (tD [c])) (x6 := some (.dat (.bl (decide (st ≠ []))))) (x7 := x7) (x8 := x8) K (hl1 List.mem_cons_self)
                  refine ⟨_, _, e1, a + k, _, _, _, .done, _, _, _, _, _, by omega, by omega, K2, hst, fun l m => ?_, fun _ q => by simp at q, ?_, rfl⟩
                  · rcases List.mem_cons.mp m with rfl | m
                    · have := hll top List.mem_cons_self
                      rw [List.length_append, List.length_singleton]; omega
                    · have := hll l (List.mem_cons_of_mem _ m); omega
                  · have hrl : r.length = cs.length - (a + 1) := by rw [← hr, List.length_drop]
                    rw [← hm, mach_skip (k - 1) (by omega), dr, show a + 1 + (k - 1) = a + k by omega]
      · have tl_ : mTst (mOp aLt (mVar 1) (mCall aLen (mCons (mVar 0) mNil))) (E9 R0 a due (some d) x5 x6 x7 x8) S' = .ok false S' := tst_e (x := .dat (.int (a : Int))) rfl (v0 _ _ _ _ _ _ _) (by rw [lt_ii, decide_eq_false (show ¬ (a : Int) < (cs.length : Int) by omega)])
        rw [ifF tl_]
        exact ⟨_, _, rfl, a, rs, top, st, due, _, _, _, _, _, ha, by omega, K, hst, hll, htop, hm, rfl⟩
    · rintro δ S' ⟨a, rs, top, st, due, x4, x5, x6, x7, x8, ha, hia, K, hst, hll, htop, hm, rfl⟩
      rw [List.length_map, List.length_range, Nat.zero_add, Nat.min_self] at hia
      obtain rfl : a = cs.length := by omega
      rw [List.drop_length] at hm
      exact .inr ⟨rs, top, st, due, _, _, _, _, _, K, htop, hm, rfl⟩
  · rintro o S' (rfl | ⟨rs, top, st, due, x4, x5, x6, x7, x8, K, htop, hm, rfl⟩)
    · rw [then_rt]
      exact .of ⟨_, rfl, rfl⟩
    · have kc := K.cnt
      unfold mach at hm
      have td : decide (dueZ due = ("done" : Str)) = decide (due = .done) := ne_done due
      by_cases c1 : due = .done
      · rw [decide_eq_true c1] at td
        by_cases c2 : st = []
        · subst c2
          rw [if_pos ⟨c1, rfl⟩] at hm
          have e1 : decide ((1 : Int) = 1) = true := rfl
          have kc1 : aLen S' [.obj 1] = some (.dat (.int 1)) := K.cnt
          obtain ⟨p, l, rfl⟩ : ∃ p l, top = p :: l := by
            cases top with
            | nil => exact (htop c1 rfl).elim
            | cons p l => exact ⟨p, l, rfl⟩
          obtain ⟨r1, rfl⟩ : ∃ r1, rs = [r1] := by
            have hlen := K.len
            match rs, hlen with
            | [], h => simp at h
            | [r1], _ => exact ⟨r1, rfl⟩
            | _ :: _ :: _, h => simp at h
          have i1 : aIx S' (.obj 1) (.dat (.int 0)) = some (.obj r1) := ix_o K.at_ rfl
          have i2 : aIx S' (.obj r1) (.dat (.int 0)) = some (.dat p) := ix_o (K.lv 0 r1 (p :: l) rfl rfl) (atN (k := 0) rfl)
          dsimp! [td, kc1, e1, i1, i2, l2]
          refine ⟨_, _, rfl, _, rfl, ?_⟩
          rw [← hm]
          all_goals rfl
        · rw [if_neg (fun q => c2 q.2)] at hm
          have e1 : decide (((st.length + 1 : Nat) : Int) = 1) = false := decide_eq_false (by
            cases st with
            | nil => exact (c2 rfl).elim
            | cons => simp; omega)
          rw [List.length_cons] at kc
          dsimp! [td, kc, e1, ln, l2]
          refine ⟨_, _, rfl, _, rfl, ?_⟩
          rw [← hm]
          all_goals rfl
      · rw [decide_eq_false c1] at td
        rw [if_neg (fun q => c1 q.1)] at hm
        dsimp! [td, ln, l2]
        refine ⟨_, _, rfl, _, rfl, ?_⟩
        rw [← hm]
        all_goals rfl
end W3
namespace W3
open PySem PySem.Spec PyProof.Rows L2 M3
theorem isiT_of {K : PySem.W.Frag} {CS : List Addr} {S : Store} {x : D} {t : Value} {a b : Bool} (ht : tyD CS S x = some t) (h1 : PySem.W.kitOne K t (.type "tuple") = some a) (h2 : PySem.W.kitOne K t (.type "list") = some b) :
    aIsiT K CS S [x, .dat (.tup [.con (.ty "tuple"), .con (.ty "list")])] = some (.dat (.bl (a || b))) := by
  show (match tyD CS S x, clssD [.con (.ty "tuple"), .con (.ty "list")] with | some t, some us => (PySem.W.kitAny K t us).map dBl | _, _ => none) = _
  rw [ht]
  show (PySem.W.kitAny K t [.type "tuple", .type "list"]).map dBl = _
  unfold PySem.W.kitAny
  rw [h1]
  cases a with
  | true => rfl
  | false =>
    unfold PySem.W.kitAny
    simp only [h2]
    cases b <;> rfl
section
variable {K : PySem.W.Frag} {CS : List Addr} {S : Store}
theorem isiT_non : aIsiT K CS S [.dat .non, .dat (.tup [.con (.ty "tuple"), .con (.ty "list")])] = some (.dat (.bl false)) := isiT_of rfl (kit_ty (r := false) (by decide +kernel)) (kit_ty (r := false) (by decide +kernel))
theorem isiT_int {i : Int} : aIsiT K CS S [.dat (.int i), .dat (.tup [.con (.ty "tuple"), .con (.ty "list")])] = some (.dat (.bl false)) := isiT_of rfl (kit_ty (r := false) (by decide +kernel)) (kit_ty (r := false) (by decide +kernel))
theorem isiT_bl {i : Bool} : aIsiT K CS S [.dat (.bl i), .dat (.tup [.con (.ty "tuple"), .con (.ty "list")])] = some (.dat (.bl false)) := isiT_of rfl (kit_ty (r := false) (by decide +kernel)) (kit_ty (r := false) (by decide +kernel))
theorem isiT_str {i : Str} : aIsiT K CS S [.dat (.str i), .dat (.tup [.con (.ty "tuple"), .con (.ty "list")])] = some (.dat (.bl false)) := isiT_of rfl (kit_ty (r := false) (by decide +kernel)) (kit_ty (r := false) (by decide +kernel))
theorem isiT_tup {i : List P} : aIsiT K CS S [.dat (.tup i), .dat (.tup [.con (.ty "tuple"), .con (.ty "list")])] = some (.dat (.bl true)) := isiT_of rfl (kit_ty (r := true) (by decide +kernel)) (kit_ty (r := false) (by decide +kernel))
theorem eq_non {S : Store} : aEq S (.dat .non) (.dat .non) = some (.dat (.bl true)) := rfl
end
inductive OkI : Nat → P → Prop
  | non {d : Nat} : OkI (d + 1) .non
  | int {d : Nat} {i : Int} : OkI (d + 1) (.int i)
  | bl {d : Nat} {b : Bool} : OkI (d + 1) (.bl b)
  | str {d : Nat} {z : Str} : OkI (d + 1) (.str z)
  | tup {d : Nat} {l : List P} : l.length ≤ 100000 → (∀ p ∈ l, OkI d p) → OkI (d + 1) (.tup l)
theorem is_t (g : G) : ∀ (d : Nat) (p : P) (S : Store), OkI d p → mPure (m_L_is g d) [.dat p, .dat p] S = .ok (.dat (.bl true)) S := by
  intro d
  induction d with
  | zero => intro p S h; cases h
  | succ d ih =>
    intro p S h
    refine pure_dat rfl (S' := []) ?_
    have o2 : (2 : Nat) ≤ 100000 := by decide
    have dt : ∀ b : Bool, decide (b = b) = true := fun b => decide_eq_true rfl
    unfold m_L_is
    cases h with
    | non => dsimp! [o2, isiT_non, dt, eq_non]
    | @int _ i =>
      have ei : decide (i = i) = true := decide_eq_true rfl
      dsimp! [o2, isiT_int, dt, ei]
    | @bl _ b => dsimp! [o2, isiT_bl, dt]
    | @str _ z =>
      have ez : decide (z = z) = true := decide_eq_true rfl
      dsimp! [o2, isiT_str, dt, ez]
    | @tup _ l hl ho =>
      have lc : mLc (mRng1 (mCons (mCall aLen (mCons (mVar 1) mNil)) mNil)) (gmName 2) mYes (mDef 2 (mPure (m_L_is g d)) (mCons (mOp aIx (mVar 0) (mVar 2)) (mCons (mOp aIx (mVar 1) (mVar 2)) mNil))) [2] [some (.dat (.tup l)), some (.dat (.tup l)), none, none] [] = .ok (((List.range l.length).map fun _ => P.bl true).map .dat) [] :=
        lc_all (xs := List.range l.length) (fun z => .dat (nv z)) (fun _ => .bl true) (rng0_ok (n := l.length) (by dsimp! [len_t] <;> rfl) (by omega)) (by rw [List.length_range]; omega) fun z m => ⟨_, rfl, rfl, by
          have hz := List.mem_range.mp m
          have e := List.getElem?_eq_getElem hz
          have i1 : aIx ([] : Store) (.dat (.tup l)) (.dat (nv z)) = some (.dat l[z]) := ix_t (atN e)
          dsimp! [i1, ih l[z] [] (ho _ (List.getElem_mem hz))]⟩
      have aw : aAll ([] : Store) [.dat (.lst ((List.range l.length).map fun _ => P.bl true))] = some (.dat (.bl true)) := by
        rw [show (List.range l.length).map (fun _ => P.bl true) = ((List.range l.length).map fun _ => true).map .bl by rw [List.map_map]; rfl, all_lst]; simp
      have el : decide ((l.length : Int) = (l.length : Int)) = true := decide_eq_true rfl
      dsimp! [o2, isiT_tup, dt, lc, aw, el]
end W3
namespace W3
open PySem PySem.Spec PyProof.Rows L2 M3
theorem OkI.mono {m : Nat} {p : P} (h : OkI m p) : ∀ {n : Nat}, m ≤ n → OkI n p := by
  induction h with
  | non => intro n hn; obtain ⟨n, rfl⟩ : ∃ k, n = k + 1 := ⟨n - 1, by omega⟩; exact .non
  | int => intro n hn; obtain ⟨n, rfl⟩ : ∃ k, n = k + 1 := ⟨n - 1, by omega⟩; exact .int
  | bl => intro n hn; obtain ⟨n, rfl⟩ : ∃ k, n = k + 1 := ⟨n - 1, by omega⟩; exact .bl
  | str => intro n hn; obtain ⟨n, rfl⟩ : ∃ k, n = k + 1 := ⟨n - 1, by omega⟩; exact .str
  | tup hl h ih => intro n hn; obtain ⟨n, rfl⟩ : ∃ k, n = k + 1 := ⟨n - 1, by omega⟩; exact .tup hl fun p m => ih p m (by omega)
theorem itm_oki {w : List Nat} {p : P} {m : Nat} (h : Itm w p) : OkI (m + 1) p := by
  cases h with
  | minus => exact .non
  | zero => exact .int
  | fig => exact .int
  | neg => exact .int
  | word =>
    unfold word
    split
    · exact .bl
    · split
      · exact .bl
      · exact .str
theorem oki_item {l : List Nat} {p : P} {k m : Nat} (h : item l = .ok p k) : OkI (m + 1) p := by
  cases l with
  | nil => cases h
  | cons c r =>
    have := tok_item c r
    rw [h] at this
    exact itm_oki this.2
theorem tl_oki {f : List Nat → RT} (fine : ∀ l, (f l).Fine l.length) {m : Nat} (hf : ∀ l p k, l.length ≤ 90000 → f l = .ok p k → OkI m p) : ∀ (n : Nat) (l : List Nat) (acc : List P) (p : P) (k : Nat), l.length ≤ 90000 → acc.length + l.length ≤ 90000 → (∀ q ∈ acc, OkI m q) → tl f n l acc = .ok p k → OkI (m + 1) p
  | 0, l, acc, p, k, _, _, _, h => by cases h
  | n + 1, l, acc, p, k, hl, ha, hq, h => by
    unfold tl at h
    have fl := fine l
    cases e : f l with
    | bad j => rw [e] at h; cases h
    | ok q j =>
      rw [e] at h fl
      obtain ⟨f1, f2⟩ := fl
      simp only at h
      have hq2 : ∀ x ∈ acc ++ [q], OkI m x := fun x mx => by
        rcases List.mem_append.mp mx with mx | mx
        · exact hq x mx
        · rw [List.mem_singleton.mp mx]; exact hf l q j hl e
      cases e2 : l.drop j with
      | nil => rw [e2] at h; cases h
      | cons c r =>
        have hl2 := congrArg List.length e2
        rw [List.length_drop, List.length_cons] at hl2
        rw [e2] at h
        simp only at h
        split at h
        · cases e4 : tl f n r (acc ++ [q]) with
          | bad i => rw [e4] at h; cases h
          | ok x i =>
            rw [e4] at h
            have h : (RT.ok x (j + 1 + i)) = .ok p k := h
            cases h
            exact tl_oki fine hf n r (acc ++ [q]) _ i (by omega) (by rw [List.length_append, List.length_singleton]; omega) hq2 e4
        · split at h
          · cases h
            exact .tup (by rw [List.length_append, List.length_singleton]; omega) hq2
          · cases h
theorem rd1_oki {z : Bool} {f : List Nat → RT} (fine : ∀ l, (f l).Fine l.length) {m : Nat} (hf : ∀ l p k, l.length ≤ 90000 → f l = .ok p k → OkI m p) {l : List Nat} {p : P} {k : Nat} (hl : l.length ≤ 90000) (h : rd1 z f l = .ok p k) : OkI (m + 1) p := by
  unfold rd1 at h
  cases l with
  | nil => cases h
  | cons c r =>
    simp only at h
    split at h
    · cases e : parts f r with
      | bad j => rw [e] at h; cases h
      | ok q j =>
        rw [e] at h
        have h : (RT.ok q (1 + j)) = .ok p k := h
        cases h
        rw [List.length_cons] at hl
        unfold parts at e
        cases r with
        | nil => exact tl_oki fine hf _ _ _ _ _ (by simp) (by simp) (fun q m => by cases m) e
        | cons d r' =>
          simp only at e
          split at e
          · cases e; exact .tup (by simp) fun q m => by cases m
          · exact tl_oki fine hf _ _ _ _ _ (by omega) (by simp at hl ⊢; omega) (fun q m => by cases m) e
    · exact oki_item h
theorem rdT_oki : ∀ (n : Nat) {l : List Nat} {p : P} {k : Nat}, l.length ≤ 90000 → rdT n l = .ok p k → OkI (n + 1) p
  | 0, l, p, k, hl, h => rd1_oki (m := 0) (fun _ => Nat.zero_le _) (fun _ _ _ _ q => by cases q) hl h
  | n + 1, l, p, k, hl, h => rd1_oki (m := n + 1) (rdT_fine n) (fun l p k hl q => rdT_oki n hl q) hl h
theorem told_oki {cs : List Nat} (hl : cs.length ≤ 90000) : OkI 60 (toldP (readT cs)) := by
  unfold readT
  cases e : rdT 20 cs with
  | bad k =>
    exact .tup (by simp) fun q m => by
      simp only [List.mem_cons, List.not_mem_nil, or_false] at m
      rcases m with rfl | rfl
      · exact .str
      · exact .int
  | ok p k =>
    have o := rdT_oki 20 hl e
    dsimp only
    split
    · exact .tup (by simp) fun q m => by
        simp only [List.mem_cons, List.not_mem_nil, or_false] at m
        rcases m with rfl | rfl
        · exact .str
        · exact .int
    · exact .tup (by simp) fun q m => by
        simp only [List.mem_cons, List.not_mem_nil, or_false] at m
        rcases m with rfl | rfl
        · exact .str
        · exact o.mono (by decide)
theorem same_read (g : G) (X : Gx g) {cs : List Nat} (hl : cs.length ≤ 90000) (S : Store) : mPure (m_L_is g 60) [.dat (toldP (readT cs)), .dat (toldP (readT cs))] S = .ok (.dat (.bl true)) S := is_t g 60 _ S (told_oki hl)
end W3
namespace W3
open PySem PySem.Spec PyProof.Rows L2 M3
theorem walk_str {z : Str} {a : DE} {δ : DEnv} {S S1 : Store} (h : a δ S = .ok (.dat (.str z)) S1) : mWalk a δ S = .ok (.items ((M3.signs z).map .dat)) S1 := by unfold mWalk; rw [h]; rfl
def wordB (z : Str) : Bool := (decide (1 ≤ z.length) && decide (z.length ≤ 20)) && z.cps.toList.all isL
def canF : Nat → P → Bool
  | _, .non => true
  | _, .bl _ => true
  | _, .int _ => true
  | _, .str z => wordB z && !(decide (z = YESZ) || decide (z = NOZ))
  | n + 1, .tup l => l.all (canF n)
  | _, _ => false
/-- things of sorts that are drawn -/
inductive Thg (g : G) : P → Prop
  | non : Thg g .non
  | bl {b : Bool} : Thg g (.bl b)
  | int {i : Int} (h : i.natAbs < 10 ^ 20) : Thg g (.int i)
  | str {z : Str} (h : z.length ≤ 1000) : Thg g (.str z)
  | tup {l : List P} (hl : l.length ≤ 1000) (h : ∀ p ∈ l, Thg g p) : Thg g (.tup l)
  | lst {l : List P} : Thg g (.lst l)
  | dic {l : List (P × P)} : Thg g (.dic l)
  | ins {l : List (Str × P)} : Thg g (.ins g.Forest l)
theorem isi_ins {g : G} (X : Gx g) {l : List (Str × P)} {t : String} {S : Store} (h : PySem.W.kitOne g.K (.ref g.Forest) (.type t) = some false) : aIsi g.K g.CS S [.dat (.ins g.Forest l), .dat (.con (.ty t))] = some (.dat (.bl false)) := by
  show (match (if g.Forest ∈ g.CS then some (Value.ref g.Forest) else none), clsD (.dat (.con (.ty t))) with
    | some t, some u => (PySem.W.kitOne g.K t u).map dBl
    | _, _ => none) = _
  rw [if_pos (by rw [X.CS]; exact List.mem_singleton.mpr rfl)]
  show (PySem.W.kitOne g.K (.ref g.Forest) (.type t)).map dBl = _
  rw [h]; rfl
theorem word_lc (z : Str) (hz : z.length ≤ 1000) {i n : Nat} {δ : DEnv} {a : DE} {S : Store} (ha : a δ S = .ok (.dat (.str z)) S) (hi : n ≤ δ.length) (hn : i < δ.length) :
    mLc (mWalk a) (gmName i) mYes (mOp aIn (mVar i) (mC (.str "abcdefghijklmnopqrstuvwxyz"))) [i] δ S = .ok ((z.cps.toList.map fun c => P.bl (isL c)).map .dat) S :=
  lc_all (xs := z.cps.toList) (fun c => tD [c]) (fun c => .bl (isL c)) (by
    rw [walk_str (z := z) ha]
    unfold M3.signs
    rw [List.map_map]; rfl) (by have : z.cps.toList.length = z.length := rfl; omega) fun c m => ⟨_, rfl, rfl, by
      have hh : i < (wipeD δ [i]).length := by
        show i < (δ.set i none).length
        rw [List.length_set]; exact hn
      have e : mVar i ((wipeD δ [i]).set i (some (tD [c]))) S = .ok (tD [c]) S := by
        unfold mVar
        rw [List.getElem?_set_self hh]
      show ((mVar i _ S).bind fun x S1 => ((mC (.str "abcdefghijklmnopqrstuvwxyz") : DE) _ S1).bind fun y S2 => oR (aIn S2 x y) S2) = _
      rw [e]
      show oR (aIn S (tD [c]) (.dat (.str LZ))) S = _
      rw [in_L]; rfl⟩
theorem all_word {z : Str} {S : Store} : aAll S [.dat (.lst (z.cps.toList.map fun c => P.bl (isL c)))] = some (.dat (.bl (z.cps.toList.all isL))) := by
  rw [show (z.cps.toList.map fun c => P.bl (isL c)) = (z.cps.toList.map isL).map .bl by rw [List.map_map]; rfl, all_lst, List.all_map]
  rfl
theorem len_str {z : Str} (hz : z.length ≤ 1000) (S : Store) : aLen S [.dat (.str z)] = some (.dat (.int (z.length : Int))) := by
  show (if z.length ≤ 100000 then some (dInt (z.length : Nat)) else none) = _
  rw [if_pos (by omega)]; rfl
theorem is_word_t (g : G) {z : Str} (hz : z.length ≤ 1000) (S : Store) : mPure (m_is_word g) [.dat (.int 20), .dat (.str z)] S = .ok (.dat (.bl (wordB z))) S := by
  have ln := fun S => len_str hz S
  refine pure_dat rfl (S' := []) ?_
  unfold m_is_word wordB
  have lc := word_lc z hz (i := 2) (n := 3) (δ := [some (.dat (.int 20)), some (.dat (.str z)), none]) (a := mVar 1) (S := []) rfl (Nat.le_refl _) (Nat.lt_succ_self _)
  by_cases c1 : 1 ≤ z.length
  · have d1 : decide ((1 : Int) ≤ (z.length : Int)) = true := decide_eq_true (by omega)
    rw [decide_eq_true c1]
    by_cases c2 : z.length ≤ 20
    · have d2 : decide ((z.length : Int) ≤ 20) = true := decide_eq_true (by omega)
      rw [decide_eq_true c2]
      dsimp! [ln, d1, d2, lc, all_word]
      all_goals rfl
    · have d2 : decide ((z.length : Int) ≤ 20) = false := decide_eq_false (by omega)
      rw [decide_eq_false c2]
      dsimp! [ln, d1, d2]
      all_goals rfl
  · have d1 : decide ((1 : Int) ≤ (z.length : Int)) = false := decide_eq_false (by omega)
    rw [decide_eq_false c1]
    dsimp! [ln, d1]
    all_goals rfl
theorem not_flag (g : G) {z : Str} (S : Store) : aNotInTab g.FLAGS tab_FLAGS S (.dat (.str z)) (.dat (.con (.ref g.FLAGS))) = some (.dat (.bl (!(decide (z = YESZ) || decide (z = NOZ))))) := by
  have e : lookPf z tab_FLAGS = if z = YESZ then some (.bl true) else if z = NOZ then some (.bl false) else none := rfl
  show (if g.FLAGS = g.FLAGS then some (dBl (!(lookPf z tab_FLAGS).isSome)) else none) = _
  rw [if_pos rfl, e]
  by_cases h1 : z = YESZ
  · rw [if_pos h1, decide_eq_true h1]; rfl
  · rw [if_neg h1, decide_eq_false h1]
    by_cases h2 : z = NOZ
    · rw [if_pos h2, decide_eq_true h2]; rfl
    · rw [if_neg h2, decide_eq_false h2]; rfl
end W3
namespace W3
open PySem PySem.Spec PyProof.Rows L2 M3
theorem all_bl {l : List P} {f : P → Bool} {S : Store} : aAll S [.dat (.lst (l.map fun p => P.bl (f p)))] = some (.dat (.bl (l.all f))) := by
  rw [show (l.map fun p => P.bl (f p)) = (l.map f).map .bl by rw [List.map_map]; rfl, all_lst, List.all_map]
  rfl
theorem isN_d {l : List (P × P)} {S : Store} : aIsN S (.dat (.dic l)) (.dat .non) = some (.dat (.bl false)) := rfl
theorem isN_ins {C : Addr} {l : List (Str × P)} {S : Store} : aIsN S (.dat (.ins C l)) (.dat .non) = some (.dat (.bl false)) := rfl
theorem can_str (g : G) {z : Str} {n d : Nat} (h : z.length ≤ 1000) : m_can_be_written g (d + 1) [.dat (.str z), .dat (.int (n : Int))] [] = .ok (.dat (.bl (canF n (.str z)))) [] := by
  have e : canF n (.str z) = (wordB z && !(decide (z = YESZ) || decide (z = NOZ))) := by cases n <;> rfl
  rw [e]
  have w := fun S => is_word_t g h S
  unfold m_can_be_written
  cases b : wordB z with
  | true => rw [b] at w; dsimp! [w, not_flag g]; all_goals rfl
  | false => rw [b] at w; dsimp! [w]; all_goals rfl
theorem can_t (g : G) (X : Gx g) : ∀ (n : Nat) {p : P}, Thg g p → ∀ {d : Nat}, n < d → ∀ S, mPure (m_can_be_written g d) [.dat p, .dat (.int (n : Int))] S = .ok (.dat (.bl (canF n p))) S := by
  intro n
  induction n with
  | zero =>
    intro p hp d hd S
    obtain ⟨d, rfl⟩ : ∃ e, d = e + 1 := ⟨d - 1, by omega⟩
    refine pure_dat rfl (S' := []) ?_
    unfold m_can_be_written
    cases hp with
    | tup hl h =>
      have gt : decide (((0 : Nat) : Int) > 0) = false := rfl
      dsimp! [gt]
      all_goals rfl
    | non => dsimp! []; all_goals rfl
    | bl => dsimp! []; all_goals rfl
    | int h => dsimp! []; all_goals rfl
    | str h => exact can_str g h
    | lst => dsimp! []; all_goals rfl
    | dic => dsimp! [isN_d]; all_goals rfl
    | ins => dsimp! [isN_ins, isi_ins X X.k_Forest_tuple, isi_ins X X.k_Forest_str, isi_ins X X.k_Forest_int]; all_goals rfl
  | succ n ih =>
    intro p hp d hd S
    obtain ⟨d, rfl⟩ : ∃ e, d = e + 1 := ⟨d - 1, by omega⟩
    refine pure_dat rfl (S' := []) ?_
    unfold m_can_be_written
    cases hp with
    | @tup l hl h =>
      have gt : decide (((n + 1 : Nat) : Int) > 0) = true := decide_eq_true (by omega)
      have sb : ∀ S : Store, aSub S (.dat (.int ((n + 1 : Nat) : Int))) (.dat (.int 1)) = some (.dat (.int (n : Int))) := fun _ => by
        show some (D.dat (.int (((n + 1 : Nat) : Int) - 1))) = _
        rw [show ((n + 1 : Nat) : Int) - 1 = (n : Int) by omega]
      have lc : mLc (mWalk (mVar 0)) (gmName 2) mYes (mDef 2 (mPure (m_can_be_written g d)) (mCons (mVar 2) (mCons (mOp aSub (mVar 1) (mC (.int 1))) mNil))) [2] [some (.dat (.tup l)), some (.dat (.int ((n + 1 : Nat) : Int))), none] ([] : Store) = .ok ((l.map fun p => P.bl (canF n p)).map .dat) [] :=
        lc_all (xs := l) (fun p => .dat p) (fun p => .bl (canF n p)) (walk_t (by dsimp! [] <;> rfl)) (by omega) fun p m => ⟨_, rfl, rfl, by dsimp! [sb, ih (h p m) (show n < d by omega)]⟩
      dsimp! [gt, lc, all_bl]
      all_goals rfl
    | non => dsimp! []; all_goals rfl
    | bl => dsimp! []; all_goals rfl
    | int h => dsimp! []; all_goals rfl
    | str h => exact can_str g h
    | lst => dsimp! []; all_goals rfl
    | dic => dsimp! [isN_d]; all_goals rfl
    | ins => dsimp! [isN_ins, isi_ins X X.k_Forest_tuple, isi_ins X X.k_Forest_str, isi_ins X X.k_Forest_int]; all_goals rfl
theorem notin_yn {z : Str} (S : Store) : aNotIn S (.dat (.str z)) (.dat (.tup [.str "yes", .str "no"])) = some (.dat (.bl (!(decide (z = YESZ) || decide (z = NOZ))))) := by
  show ((if (true : Bool) = true ∧ (true : Bool) = true then some (inP (.str z) [.str "yes", .str "no"]) else none).map fun b => dBl (!b)) = _
  rw [if_pos ⟨rfl, rfl⟩]
  show some (D.dat (.bl (!(inP (.str z) [.str YESZ, .str NOZ])))) = _
  have : inP (.str z) [.str YESZ, .str NOZ] = (decide (z = YESZ) || decide (z = NOZ)) := by
    by_cases h1 : z = YESZ
    · subst h1; rfl
    · by_cases h2 : z = NOZ
      · subst h2; rfl
      · rw [decide_eq_false h1, decide_eq_false h2]
        have e1 : eqF (.str YESZ) (.str z) = false := decide_eq_false (fun q => h1 q.symm)
        have e2 : eqF (.str NOZ) (.str z) = false := decide_eq_false (fun q => h2 q.symm)
        simp [inP, e1, e2]
  rw [this]
theorem L_can_str (g : G) {z : Str} {n d : Nat} {k : Int} (h : z.length ≤ 1000) : m_L_can_be g (d + 1) [.dat (.str z), .dat (.int k)] [] = .ok (.dat (.bl (canF n (.str z)))) [] := by
  have e : canF n (.str z) = (wordB z && !(decide (z = YESZ) || decide (z = NOZ))) := by cases n <;> rfl
  rw [e]
  have ln := fun S => len_str h S
  have lc := word_lc z h (i := 3) (n := 5) (δ := [some (.dat (.str z)), some (.dat (.int k)), none, none, none]) (a := mVar 0) (S := []) rfl (Nat.le_refl _) (by show 3 < 5; decide)
  have l2 : (2 : Nat) ≤ 100000 := by decide
  unfold m_L_can_be wordB
  by_cases c1 : 1 ≤ z.length
  · have d1 : decide ((1 : Int) ≤ (z.length : Int)) = true := decide_eq_true (by omega)
    rw [decide_eq_true c1]
    by_cases c2 : z.length ≤ 20
    · have d2 : decide ((z.length : Int) ≤ 20) = true := decide_eq_true (by omega)
      rw [decide_eq_true c2]
      cases c3 : z.cps.toList.all isL with
      | true =>
        have aw := fun S => all_word (z := z) (S := S)
        rw [c3] at aw
        dsimp! [ln, d1, d2, lc, aw, l2, notin_yn]
        all_goals rfl
      | false =>
        have aw := fun S => all_word (z := z) (S := S)
        rw [c3] at aw
        dsimp! [ln, d1, d2, lc, aw, l2, notin_yn]
        all_goals rfl
    · have d2 : decide ((z.length : Int) ≤ 20) = false := decide_eq_false (by omega)
      rw [decide_eq_false c2]
      dsimp! [ln, d1, d2]
      all_goals rfl
  · have d1 : decide ((1 : Int) ≤ (z.length : Int)) = false := decide_eq_false (by omega)
    rw [decide_eq_false c1]
    dsimp! [ln, d1]
    all_goals rfl
theorem L_can_t (g : G) (X : Gx g) : ∀ (n : Nat) {p : P}, n ≤ 20 → Thg g p → ∀ {d : Nat}, n < d → ∀ S, mPure (m_L_can_be g d) [.dat p, .dat (.int (20 - (n : Int)))] S = .ok (.dat (.bl (canF n p))) S := by
  intro n
  induction n with
  | zero =>
    intro p hn hp d hd S
    obtain ⟨d, rfl⟩ : ∃ e, d = e + 1 := ⟨d - 1, by omega⟩
    refine pure_dat rfl (S' := []) ?_
    unfold m_L_can_be
    cases hp with
    | tup hl h =>
      have lt : decide ((20 : Int) - ((0 : Nat) : Int) < 20) = false := rfl
      dsimp! [lt]
      all_goals rfl
    | non => dsimp! []; all_goals rfl
    | bl => dsimp! []; all_goals rfl
    | int h => dsimp! []; all_goals rfl
    | str h => exact L_can_str g h
    | lst => dsimp! []; all_goals rfl
    | dic => dsimp! [isN_d]; all_goals rfl
    | ins => dsimp! [isN_ins, isi_ins X X.k_Forest_tuple, isi_ins X X.k_Forest_str, isi_ins X X.k_Forest_int]; all_goals rfl
  | succ n ih =>
    intro p hn hp d hd S
    obtain ⟨d, rfl⟩ : ∃ e, d = e + 1 := ⟨d - 1, by omega⟩
    refine pure_dat rfl (S' := []) ?_
    unfold m_L_can_be
    cases hp with
    | @tup l hl h =>
      have lt : decide ((20 : Int) - ((n + 1 : Nat) : Int) < 20) = true := decide_eq_true (by omega)
      have sb : ∀ S : Store, aAdd S (.dat (.int ((20 : Int) - ((n + 1 : Nat) : Int)))) (.dat (.int 1)) = some (.dat (.int ((20 : Int) - (n : Int)))) := fun _ => by
        show some (D.dat (.int ((20 : Int) - ((n + 1 : Nat) : Int) + 1))) = _
        rw [show (20 : Int) - ((n + 1 : Nat) : Int) + 1 = (20 : Int) - (n : Int) by omega]
      have lc : mLc (mWalk (mVar 0)) (gmName 4) mYes (mDef 2 (mPure (m_L_can_be g d)) (mCons (mVar 4) (mCons (mOp aAdd (mVar 1) (mC (.int 1))) mNil))) [4] [some (.dat (.tup l)), some (.dat (.int ((20 : Int) - ((n + 1 : Nat) : Int)))), none, none, none] ([] : Store) = .ok ((l.map fun p => P.bl (canF n p)).map .dat) [] :=
        lc_all (xs := l) (fun p => .dat p) (fun p => .bl (canF n p)) (walk_t (by dsimp! [] <;> rfl)) (by omega) fun p m => ⟨_, rfl, rfl, by dsimp! [sb, ih (by omega) (h p m) (show n < d by omega)]⟩
      dsimp! [lt, lc, all_bl]
      all_goals rfl
    | non => dsimp! []; all_goals rfl
    | bl => dsimp! []; all_goals rfl
    | int h => dsimp! []; all_goals rfl
    | str h => exact L_can_str g h
    | lst => dsimp! []; all_goals rfl
    | dic => dsimp! [isN_d]; all_goals rfl
    | ins => dsimp! [isN_ins, isi_ins X X.k_Forest_tuple, isi_ins X X.k_Forest_str, isi_ins X X.k_Forest_int]; all_goals rfl
/-- what can be written, is -/
theorem wn_str {z : Str} {n : Nat} (h : canF n (.str z) = true) : Wn n (.str z) := by
  have e : canF n (.str z) = (wordB z && !(decide (z = YESZ) || decide (z = NOZ))) := by cases n <;> rfl
  rw [e] at h
  unfold wordB at h
  simp only [Bool.and_eq_true, decide_eq_true_eq, Bool.not_eq_true', Bool.or_eq_false_iff, decide_eq_false_iff_not, List.all_eq_true] at h
  exact .str h.1.1 h.1.2 h.2.1 h.2.2
theorem canF_wn {g : G} : ∀ (n : Nat) {p : P}, Thg g p → canF n p = true → Wn n p := by
  intro n
  induction n with
  | zero =>
    intro p hp h
    cases hp with
    | non => exact .non
    | bl => exact .bl
    | int hi => exact .int hi
    | str _ => exact wn_str h
    | _ => cases h
  | succ n ih =>
    intro p hp h
    cases hp with
    | non => exact .non
    | bl => exact .bl
    | int hi => exact .int hi
    | str _ => exact wn_str h
    | tup hl hh => exact .tup hl fun p m => ih (hh p m) (List.all_eq_true.mp h p m)
    | _ => cases h
end W3
namespace W3
open PySem PySem.Spec PyProof.Rows L2 M3
theorem scope_g {f : List D → Store → R D} {ds : List D} {S S' t : Store} {p : P} (e : f ds S = .ok (.dat p) (S' ++ t)) (hl : S'.length = S.length) (hc : ∀ (j : Nat) (w : O), S'[j]? = some w → O.lt S'.length w = true) : mScope f ds S = .ok (.dat p) S' := by
  have e1 : (S' ++ t).take S.length = S' := by rw [← hl, List.take_left]
  unfold mScope
  rw [e]
  simp only []
  rw [e1, if_pos]
  refine List.all_eq_true.mpr fun w m => ?_
  obtain ⟨j, ej⟩ := List.getElem?_of_mem m
  rw [← hl]
  exact hc j w ej
def hdO (ns : List Int) (i b s c : Int) : O := .lst [.dat (.lst (ns.map .int)), .dat (.int i), .dat (.int b), .dat (.int s), .dat (.int c)]
def Hd (o : O) : Prop := ∃ ns i b s c, o = hdO ns i b s c ∧ 0 ≤ i ∧ 0 ≤ b ∧ 0 ≤ s ∧ s < 2147483647
theorem hd_lt {h : O} (H : Hd h) (n : Nat) : O.lt n h = true := by
  obtain ⟨ns, i, b, s, c, rfl, _⟩ := H
  rfl
theorem draw_h (g : G) {h : O} {rest : Store} {n : Int} (H : Hd h) (n0 : 0 < n) (n1 : n < 2 ^ 60) : ∃ (r : Nat) (h' : O), (r : Int) < n ∧ Hd h' ∧ m_L_draw g [.obj 0, .dat (.int n)] (h :: rest) = .ok (.dat (.int (r : Int))) (h' :: rest) := by
  obtain ⟨ns, i, b, s, c, rfl, i0, b0, s0, s1⟩ := H
  have ix : ∀ (a b c d e : D) (r : Store) (k : Int), aIx (.lst [a, b, c, d, e] :: r) (.obj 0) (.dat (.int k)) = atI [a, b, c, d, e] k := fun _ _ _ _ _ _ _ => rfl
  have a0 : ∀ (a b c d e : D), atI [a, b, c, d, e] 0 = some a := fun _ _ _ _ _ => rfl
  have a1 : ∀ (a b c d e : D), atI [a, b, c, d, e] 1 = some b := fun _ _ _ _ _ => rfl
  have a2 : ∀ (a b c d e : D), atI [a, b, c, d, e] 2 = some c := fun _ _ _ _ _ => rfl
  have a3 : ∀ (a b c d e : D), atI [a, b, c, d, e] 3 = some d := fun _ _ _ _ _ => rfl
  have a4 : ∀ (a b c d e : D), atI [a, b, c, d, e] 4 = some e := fun _ _ _ _ _ => rfl
  have t1 : ∀ (a b c d e v : D) (r : Store), setD (.obj 0) (.dat (.int 1)) v (.lst [a, b, c, d, e] :: r) = some (.lst [a, v, c, d, e] :: r) := fun _ _ _ _ _ _ _ => rfl
  have t2 : ∀ (a b c d e v : D) (r : Store), setD (.obj 0) (.dat (.int 2)) v (.lst [a, b, c, d, e] :: r) = some (.lst [a, b, v, d, e] :: r) := fun _ _ _ _ _ _ _ => rfl
  have t3 : ∀ (a b c d e v : D) (r : Store), setD (.obj 0) (.dat (.int 3)) v (.lst [a, b, c, d, e] :: r) = some (.lst [a, b, c, v, e] :: r) := fun _ _ _ _ _ _ _ => rfl
  have t4 : ∀ (a b c d e v : D) (r : Store), setD (.obj 0) (.dat (.int 4)) v (.lst [a, b, c, d, e] :: r) = some (.lst [a, b, c, d, v] :: r) := fun _ _ _ _ _ _ _ => rfl
  have nn : ∀ x : Int, ∃ r : Nat, x % n = (r : Int) ∧ (r : Int) < n := fun x => ⟨(x % n).toNat, (Int.toNat_of_nonneg (Int.emod_nonneg x (by omega))).symm, by rw [Int.toNat_of_nonneg (Int.emod_nonneg x (by omega))]; exact Int.emod_lt_of_pos x n0⟩
  have pw : ∀ S : Store, aPow S (.dat (.int 10)) (.dat (.int 18)) = some (.dat (.int 1000000000000000000)) := fun S => pow_ii (by decide) (by decide) (by decide)
  suffices z : ∃ (x : Int) (h' : O), Hd h' ∧ m_L_draw g [.obj 0, .dat (.int n)] (hdO ns i b s c :: rest) = .ok (.dat (.int (x % n))) (h' :: rest) by
    obtain ⟨x, h', H, e⟩ := z
    obtain ⟨r, er, r1⟩ := nn x
    exact ⟨r, h', r1, H, er ▸ e⟩
  have mr0 : ∀ (S : Store) (x : Int), aMul S (.dat (.int x)) (.dat (.int 16)) = some (.dat (.int (x * 16))) := fun _ _ => mul_r (by decide)
  have mr1 : ∀ (S : Store) (x : Int), aMul S (.dat (.int x)) (.dat (.int 48271)) = some (.dat (.int (x * 48271))) := fun _ _ => mul_r (by decide)
  have mr2 : ∀ (S : Store) (x : Int), aMul S (.dat (.int x)) (.dat (.int 69621)) = some (.dat (.int (x * 69621))) := fun _ _ => mul_r (by decide)
  have ml1 : ∀ (S : Store) (x : Int), aMul S (.dat (.int 7919)) (.dat (.int x)) = some (.dat (.int (7919 * x))) := fun _ _ => mul_l (by decide)
  have mm : ∀ (S : Store) (x y : Int), aMul S (.dat (.int (x % 2147483647))) (.dat (.int y)) = some (.dat (.int (x % 2147483647 * y))) := fun _ _ _ => mul_l (by omega)
  have dv1 : ∀ (S : Store) (x : Int), aDiv S (.dat (.int x)) (.dat (.int 1009)) = some (.dat (.int (x / 1009))) := fun _ _ => div_ii (by decide) (by decide)
  have dv2 : ∀ (S : Store) (x : Int), aDiv S (.dat (.int x)) (.dat (.int 2003)) = some (.dat (.int (x / 2003))) := fun _ _ => div_ii (by decide) (by decide)
  have dv3 : ∀ (S : Store) (x : Int), aDiv S (.dat (.int x)) (.dat (.int 16)) = some (.dat (.int (x / 16))) := fun _ _ => div_ii (by decide) (by decide)
  have md0 : ∀ (S : Store) (x : Int), aMod S (.dat (.int x)) (.dat (.int 2147483629)) = some (.dat (.int (x % 2147483629))) := fun _ _ => mod_ii (by decide)
  have md1 : ∀ (S : Store) (x : Int), aMod S (.dat (.int x)) (.dat (.int 2147483647)) = some (.dat (.int (x % 2147483647))) := fun _ _ => mod_ii (by decide)
  have md2 : ∀ (S : Store) (x : Int), aMod S (.dat (.int x)) (.dat (.int 2147483399)) = some (.dat (.int (x % 2147483399))) := fun _ _ => mod_ii (by decide)
  unfold m_L_draw hdO
  by_cases hb : b = 0
  · subst hb
    by_cases hi : i < (ns.length : Int)
    · have dh : decide (i < (ns.length : Int)) = true := decide_eq_true hi
      obtain ⟨cell, ec⟩ : ∃ cell, ns[i.toNat]? = some cell := ⟨_, List.getElem?_eq_getElem (by omega)⟩
      have ec2 : ∀ S, aIx S (.dat (.lst (ns.map .int))) (.dat (.int i)) = some (.dat (.int cell)) := fun S => ix_l (atI_of i0 (map_get ec))
      by_cases hc : 1000000000000000000 ≤ cell
      · have d2 : decide (0 < cell) = true := decide_eq_true (by omega)
        refine ⟨?x1, hdO ns ?a1 ?b1 ?c1 ?d1, ?h1, ?run1⟩
        case run1 =>
          dsimp! [ix, a0, a1, a2, a3, a4, t1, t2, t3, t4, mod_ii n0, div_ii n0 (show n < 2 ^ 64 by omega), List.length_map, dh, ec2, pw, mr0, mr2, md0, decide_eq_true hc, d2]
          rfl
        case h1 => exact ⟨_, _, _, _, _, rfl, by omega, Int.ediv_nonneg (by omega) (by omega), by omega, by omega⟩
      · refine ⟨?x2, hdO ns ?a2 ?b2 ?c2 ?d2, ?h2, ?run2⟩
        case run2 =>
          dsimp! [ix, a0, a1, a2, a3, a4, t1, t2, t3, t4, mod_ii n0, List.length_map, dh, ec2, pw, decide_eq_false hc, mr0, mr1, mr2, ml1, mm, dv1, dv2, dv3, md0, md1, md2]
          rfl
        case h2 => exact ⟨_, _, _, _, _, rfl, by omega, by omega, by omega, by omega⟩
    · have dh : decide (i < (ns.length : Int)) = false := decide_eq_false hi
      refine ⟨?x3, hdO ns ?a3 ?b3 ?c3 ?d3, ?h3, ?run3⟩
      case run3 =>
        dsimp! [ix, a0, a1, a2, a3, a4, t1, t2, t3, t4, mod_ii n0, List.length_map, dh, pw, mr1, mr2, ml1, mm, dv1, dv2, dv3, md1, md2]
        rfl
      case h3 => exact ⟨_, _, _, _, _, rfl, by omega, by omega, by omega, by omega⟩
  · have d1 : decide (b = 0) = false := decide_eq_false hb
    have d2 : decide (0 < b) = true := decide_eq_true (by omega)
    refine ⟨b, hdO ns i (b / n) s c, ⟨_, _, _, _, _, rfl, i0, Int.ediv_nonneg b0 (by omega), s0, s1⟩, ?_⟩
    unfold hdO
    dsimp! [ix, a0, a1, a2, a3, a4, t1, t2, t3, t4, d1, d2, mod_ii n0, div_ii n0 (show n < 2 ^ 64 by omega)]
/-- closed stores behind the hand -/
def Cs (rest : Store) : Prop := ∀ (j : Nat) (w : O), rest[j]? = some w → O.lt (rest.length + 1) w = true
theorem cs_nil : Cs [] := fun j w e => by simp at e
theorem cs_hand {h : O} {rest : Store} (H : Hd h) (hc : Cs rest) : ∀ (j : Nat) (w : O), (h :: rest)[j]? = some w → O.lt (h :: rest).length w = true := fun j w e => by
  cases j with
  | zero => cases e; exact hd_lt H _
  | succ j => exact hc j w e
theorem draw_s (g : G) {h : O} {rest : Store} {n : Int} (H : Hd h) (n0 : 0 < n) (n1 : n < 2 ^ 60) (hc : Cs rest) : ∃ (r : Nat) (h' : O), (r : Int) < n ∧ Hd h' ∧ mScope (m_L_draw g) [.obj 0, .dat (.int n)] (h :: rest) = .ok (.dat (.int (r : Int))) (h' :: rest) := by
  obtain ⟨r, h', a, b, e⟩ := draw_h g H n0 n1 (rest := rest)
  exact ⟨r, h', a, b, scope_g (t := []) (by rw [List.append_nil]; exact e) rfl (cs_hand b hc)⟩
theorem hand_a (g : G) (ns : List Int) : ∃ h, Hd h ∧ m_L_hand g [.dat (.scr ns)] [] = .ok (.obj 0) [h] := by
  have lx : (ns.take 63).length ≤ 63 := by rw [List.length_take]; omega
  have sl : ∀ S : Store, aSl S (.dat (.scr ns)) none (some 63) = some (.dat (.lst ((ns.take 63).map .int))) := fun S => by
    show some (D.dat (.lst ((cutL ns none (some ((63 : Nat) : Int))).map .int))) = _
    rw [cut_take]
  obtain ⟨ms', hms⟩ : ∃ ms' : List Int, ms' = (ns.take 63).map fun i => (i.natAbs : Int) := ⟨_, rfl⟩
  refine ⟨hdO ms' 0 0 (1 + (ms'.length : Int)) 0, ⟨_, _, _, _, _, rfl, by omega, by omega, by omega, by rw [hms, List.length_map]; omega⟩, ?_⟩
  have ab : ∀ (S : Store) (i : Int), aAbs S [.dat (.int i)] = some (.dat (.int (i.natAbs : Int))) := fun _ i => by
    show some (D.dat (.int (if i < 0 then -i else i))) = _
    have : (if i < 0 then -i else i) = (i.natAbs : Int) := by split <;> omega
    rw [this]
  have lc : mLc (mWalk (mSl (mVar 0) moN (moS (mC (.int 63))))) (gmName 2) mYes (mCall aAbs (mCons (mCall aInt (mCons (mVar 2) mNil)) mNil)) [2] [some (.dat (.scr ns)), none, none] [] = .ok ((ms'.map P.int).map .dat) [] := by
    rw [lc_all (xs := ns.take 63) (fun i => .dat (.int i)) (fun i => .int (i.natAbs : Int)) (by rw [walk_l (l := (ns.take 63).map .int) (S1 := []) (by unfold mSl moN moS; dsimp! [sl]), List.map_map]; rfl) (by omega) fun i m => ⟨_, rfl, rfl, by dsimp! [ab]⟩]
    rw [hms, List.map_map (f := fun i : Int => (i.natAbs : Int))]
    rfl
  unfold m_L_hand
  dsimp! [lc, List.length_map]
  rfl
end W3
namespace W3
open PySem PySem.Spec PyProof.Rows L2 M3
theorem fin_eq2 {r : R Out} {d : D} {S : Store} (h : r = .ok (.rt d) S) : fin r = .ok d S := by rw [h]; rfl
theorem some_s (g : G) {h : O} {rest : Store} {l : List P} (H : Hd h) (hc : Cs rest) (l0 : 0 < l.length) (l1 : l.length < 100000) : ∃ (p : P) (h' : O), p ∈ l ∧ Hd h' ∧ mScope (m_L_some g) [.obj 0, .dat (.lst l)] (h :: rest) = .ok (.dat p) (h' :: rest) := by
  obtain ⟨r, h1, hr, H1, e1⟩ := draw_s g H (n := (l.length : Int)) (by omega) (by omega) hc
  have hr : r < l.length := by omega
  refine ⟨l[r], h1, List.getElem_mem hr, H1, scope_g (t := []) ?_ rfl (cs_hand H1 hc)⟩
  rw [List.append_nil]
  have ix : aIx (h1 :: rest) (.dat (.lst l)) (.dat (.int (r : Int))) = some (.dat l[r]) := ix_l (atN (List.getElem?_eq_getElem hr))
  unfold m_L_some
  dsimp! [e1, ix]
def bd : Nat → Nat
  | 0 => 21
  | n + 1 => 3 * (bd n + 1) + 2
theorem bd_ge : ∀ n, 21 ≤ bd n
  | 0 => Nat.le_refl _
  | n + 1 => by unfold bd; have := bd_ge n; omega
def Lf (g : G) (B : Nat) (p : P) : Prop := Thg g p ∧ ∀ n, (wr n p).length ≤ B
theorem Lf.le {g : G} {A B : Nat} {p : P} (h : Lf g A p) (e : A ≤ B) : Lf g B p := ⟨h.1, fun n => Nat.le_trans (h.2 n) e⟩
theorem lf_non {g : G} : Lf g 21 .non := ⟨.non, fun n => by cases n <;> (show 1 ≤ 21; omega)⟩
theorem lf_bl {g : G} {b : Bool} : Lf g 21 (.bl b) := ⟨.bl, fun n => by
  have e : wr n (.bl b) = if b = true then yesL else noL := by cases n <;> rfl
  rw [e]
  cases b <;> decide +kernel⟩
theorem lf_int {g : G} {i : Int} (h : i.natAbs < 10 ^ 20) : Lf g 21 (.int i) := ⟨.int h, fun n => by
  have e : wr n (.int i) = digI i := by cases n <;> rfl
  rw [e]
  unfold digI
  by_cases c : 0 ≤ i
  · have := digs_len (n := i.toNat) (by omega)
    rw [if_pos c]; omega
  · have := digs_len (n := (-i).toNat) (by omega)
    rw [if_neg c, List.length_cons]; omega⟩
theorem lf_str {g : G} {z : Str} (h : z.length ≤ 21) : Lf g 21 (.str z) := ⟨.str (by omega), fun n => by
  have e : wr n (.str z) = z.cps.toList := by cases n <;> rfl
  have lz : z.cps.toList.length = z.length := rfl
  rw [e, lz]; exact h⟩
theorem glue_bound {f : P → List Nat} {B : Nat} : ∀ {l : List P}, (∀ p ∈ l, (f p).length ≤ B) → (glue (l.map f)).length ≤ l.length * (B + 1)
  | [], _ => by simp [glue]
  | [p], h => by
    have := h p List.mem_cons_self
    show (f p).length ≤ 1 * (B + 1)
    omega
  | p :: q :: l, h => by
    have := h p List.mem_cons_self
    have := glue_bound (l := q :: l) fun q m => h q (List.mem_cons_of_mem _ m)
    show (f p ++ 44 :: glue ((q :: l).map f)).length ≤ (l.length + 1 + 1) * (B + 1)
    rw [List.length_append, List.length_cons, Nat.succ_mul]
    rw [List.length_cons] at this
    omega
theorem tup_bd {g : G} {B k : Nat} {l : List P} (hl : l.length ≤ k) (hk : k ≤ 1000) (h : ∀ p ∈ l, Lf g B p) : Lf g (k * (B + 1) + 2) (.tup l) := by
  refine ⟨.tup (by omega) fun p m => (h p m).1, fun n => ?_⟩
  cases n with
  | zero => exact Nat.zero_le _
  | succ n =>
    show (40 :: (glue (l.map (wr n)) ++ [41])).length ≤ _
    rw [List.length_cons, List.length_append, List.length_singleton]
    have := glue_bound (f := wr n) (B := B) fun p m => (h p m).2 n
    have : l.length * (B + 1) ≤ k * (B + 1) := Nat.mul_le_mul_right _ hl
    omega
theorem drawn_s (g : G) : ∀ (n : Nat) {d : Nat}, n < d → ∀ {h : O} {rest : Store}, Hd h → Cs rest → ∃ (p : P) (h' : O), Lf g (bd n) p ∧ Hd h' ∧ mScope (m_L_drawn_thing g d) [.obj 0, .dat (.int (n : Int))] (h :: rest) = .ok (.dat p) (h' :: rest) := by
  have l3 : (3 : Nat) ≤ 100000 := by decide
  have l9 : (9 : Nat) ≤ 100000 := by decide
  have ng1 : ∀ S : Store, aNeg S (.dat (.int 1)) = some (.dat (.int (-1))) := fun _ => rfl
  have ng2 : ∀ S : Store, aNeg S (.dat (.int 10)) = some (.dat (.int (-10))) := fun _ => rfl
  have ng3 : ∀ S : Store, aNeg S (.dat (.int 99999999999999999999)) = some (.dat (.int (-99999999999999999999))) := fun _ => rfl
  have pw : ∀ S : Store, aPow S (.dat (.int 10)) (.dat (.int 19)) = some (.dat (.int 10000000000000000000)) := fun S => pow_ii (by decide) (by decide) (by decide)
  have pw2 : ∀ S : Store, aPow S (.dat (.int 10)) (.dat (.int 20)) = some (.dat (.int 100000000000000000000)) := fun S => pow_ii (by decide) (by decide) (by decide)
  have sb : ∀ S : Store, aSub S (.dat (.int 100000000000000000000)) (.dat (.int 1)) = some (.dat (.int 99999999999999999999)) := fun _ => rfl
  have ml : ∀ S : Store, aMulS S (.dat (.str "z")) (.dat (.int 20)) = some (.dat (.str (repS "z" 20))) := fun S => by
    show (if ((2 : Int) ≤ 20 ∧ (20 : Int) ≤ 1000) ∧ 1 ≤ ("z" : Str).length ∧ ("z" : Str).length ≤ 1000 ∧ (repS "z" (20 : Int).toNat).length ≤ 100000 then some (D.dat (.str (repS "z" (20 : Int).toNat))) else none) = _
    exact if_pos (by decide +kernel)
  -- a leaf
  have leaf : ∀ {n d : Nat} {h : O} {rest : Store} {r : Nat}, Hd h → Cs rest → ((r : Int) < 3 → n = 0) → ∀ (x3 : Option D), ∃ (o : Out) (p : P) (h' : O), o = .rt (.dat p) ∧ Lf g 21 p ∧ Hd h' ∧
      (mSeq (mIfS (mAndT (mTst (mOp aLt (mVar 2) (mC (.int 3)))) (mTst (mOp aGt (mVar 1) (mC (.int 0))))) (mRet (mCall aTuple (mCons (mFrz (mLc (mRng1 (mCons (mDef 2 (mScope (m_L_draw g)) (mCons (mVar 0) (mCons (mC (.int 4)) mNil))) mNil)) (gmName 3) mYes (mDef 2 (mScope (m_L_drawn_thing g d)) (mCons (mVar 0) (mCons (mOp aSub (mVar 1) (mC (.int 1))) mNil))) [3])) mNil))) mNext)
      (mSeq (mIfS (mTst (mOp aLt (mVar 2) (mC (.int 6)))) (mRet (mDef 2 (mScope (m_L_some g)) (mCons (mVar 0) (mCons (mFrz (mLst (mCons (mC (.int 0)) (mCons (mC (.int 1)) (mCons (mUn aNeg (mC (.int 1))) (mCons (mC (.int 10)) (mCons (mUn aNeg (mC (.int 10))) (mCons (mOp aPow (mC (.int 10)) (mC (.int 19))) (mCons (mUn aNeg (mOp aSub (mOp aPow (mC (.int 10)) (mC (.int 20))) (mC (.int 1)))) (mCons (mOp aSub (mOp aPow (mC (.int 10)) (mC (.int 20))) (mC (.int 1))) (mCons (mDef 2 (mScope (m_L_draw g)) (mCons (mVar 0) (mCons (mC (.int 1000)) mNil))) mNil))))))))))) mNil)))) mNext)
      (mSeq (mIfS (mTst (mOp aLt (mVar 2) (mC (.int 8)))) (mRet (mDef 2 (mScope (m_L_some g)) (mCons (mVar 0) (mCons (mFrz (mLst (mCons (mC (.str "a")) (mCons (mC (.str "least")) (mCons (mOp aMulS (mC (.str "z")) (mC (.int 20))) (mCons (mC (.str "yess")) (mCons (mC (.str "non")) (mCons (mC (.str "root")) (mCons (mC (.str "deed")) (mCons (mC (.str "y")) (mCons (mC (.str "n")) mNil))))))))))) mNil)))) mNext)
      (mRet (mDef 2 (mScope (m_L_some g)) (mCons (mVar 0) (mCons (mFrz (mLst (mCons (mC .non) (mCons (mC (.bl true)) (mCons (mC (.bl false)) mNil))))) mNil))))))) [some (.obj 0), some (.dat (.int (n : Int))), some (.dat (.int (r : Int))), x3] (h :: rest) = .ok o (h' :: rest) := by
    intro n d h rest r H hc hn x3
    have t0 : decide ((r : Int) < 3) = false ∨ (decide ((r : Int) < 3) = true ∧ decide ((n : Int) > 0) = false) := by
      by_cases c : (r : Int) < 3
      · exact .inr ⟨decide_eq_true c, decide_eq_false (by have := hn c; omega)⟩
      · exact .inl (decide_eq_false c)
    by_cases c6 : (r : Int) < 6
    · have t6 : decide ((r : Int) < 6) = true := decide_eq_true c6
      obtain ⟨r2, h2, hr2, H2, e2⟩ := draw_s g H (n := 1000) (by omega) (by omega) hc
      obtain ⟨p, h3, hp, H3, e3⟩ := some_s g (l := [.int 0, .int 1, .int (-1), .int 10, .int (-10), .int 10000000000000000000, .int (-99999999999999999999), .int 99999999999999999999, .int (r2 : Int)]) H2 hc (by simp) (by simp)
      have lp : Lf g 21 p := by
        simp only [List.mem_cons, List.not_mem_nil, or_false] at hp
        rcases hp with rfl | rfl | rfl | rfl | rfl | rfl | rfl | rfl | rfl
        all_goals first | exact lf_int (by decide) | exact lf_int (by omega)
      refine ⟨_, _, h3, rfl, lp, H3, ?_⟩
      rcases t0 with t | ⟨t, t2⟩
      · dsimp! [t, t6, ng1, ng2, ng3, pw, pw2, sb, l9, e2, e3]
      · dsimp! [t, t2, t6, ng1, ng2, ng3, pw, pw2, sb, l9, e2, e3]
    · have t6 : decide ((r : Int) < 6) = false := decide_eq_false c6
      have t3 : decide ((r : Int) < 3) = false := decide_eq_false (by omega)
      by_cases c8 : (r : Int) < 8
      · have t8 : decide ((r : Int) < 8) = true := decide_eq_true c8
        obtain ⟨p, h3, hp, H3, e3⟩ := some_s g (l := [.str "a", .str "least", .str (repS "z" 20), .str "yess", .str "non", .str "root", .str "deed", .str "y", .str "n"]) H hc (by simp) (by simp)
        have lp : Lf g 21 p := by
          simp only [List.mem_cons, List.not_mem_nil, or_false] at hp
          rcases hp with rfl | rfl | rfl | rfl | rfl | rfl | rfl | rfl | rfl
          all_goals exact lf_str (by decide +kernel)
        refine ⟨_, _, h3, rfl, lp, H3, ?_⟩
        dsimp! [t3, t6, t8, ml, l9, e3]
      · have t8 : decide ((r : Int) < 8) = false := decide_eq_false c8
        obtain ⟨p, h3, hp, H3, e3⟩ := some_s g (l := [.non, .bl true, .bl false]) H hc (by simp) (by simp)
        have lp : Lf g 21 p := by
          simp only [List.mem_cons, List.not_mem_nil, or_false] at hp
          rcases hp with rfl | rfl | rfl
          · exact lf_non
          · exact lf_bl
          · exact lf_bl
        refine ⟨_, _, h3, rfl, lp, H3, ?_⟩
        dsimp! [t3, t6, t8, l3, e3]
  intro n
  induction n with
  | zero =>
    intro d hd h rest H hc
    obtain ⟨d, rfl⟩ : ∃ e, d = e + 1 := ⟨d - 1, by omega⟩
    obtain ⟨r, h1, hr, H1, e1⟩ := draw_s g H (n := 10) (by omega) (by omega) hc
    obtain ⟨o, p, h', rfl, lf, H', eo⟩ := leaf (n := 0) (d := d) (r := r) H1 hc (fun _ => rfl) none
    refine ⟨p, h', lf, H', scope_g (t := []) ?_ rfl (cs_hand H' hc)⟩
    rw [List.append_nil]
    unfold m_L_drawn_thing
    rw [mBody_fin]
    refine fin_eq2 ?_
    refine Eq.trans ?_ eo
    rw [mSeq_then]
    have a : mAsg (mDef 2 (mScope (m_L_draw g)) (mCons (mVar 0) (mCons (mC (.int 10)) mNil))) (gmName 2) [some (.obj 0), some (.dat (.int ((0 : Nat) : Int))), none, none] (h :: rest) = .ok (.nx [some (.obj 0), some (.dat (.int ((0 : Nat) : Int))), some (.dat (.int (r : Int))), none]) (h1 :: rest) := by dsimp! [e1]
    exact congrArg (fun z => thenS z _) a
  | succ n ih =>
    intro d hd h rest H hc
    obtain ⟨d, rfl⟩ : ∃ e, d = e + 1 := ⟨d - 1, by omega⟩
    obtain ⟨r, h1, hr, H1, e1⟩ := draw_s g H (n := 10) (by omega) (by omega) hc
    have a : mAsg (mDef 2 (mScope (m_L_draw g)) (mCons (mVar 0) (mCons (mC (.int 10)) mNil))) (gmName 2) [some (.obj 0), some (.dat (.int ((n + 1 : Nat) : Int))), none, none] (h :: rest) = .ok (.nx [some (.obj 0), some (.dat (.int ((n + 1 : Nat) : Int))), some (.dat (.int (r : Int))), none]) (h1 :: rest) := by dsimp! [e1]
    by_cases c3 : (r : Int) < 3
    · obtain ⟨r2, h2, hr2, H2, e2⟩ := draw_s g H1 (n := 4) (by omega) (by omega) hc
      have e2' : mRng1 (mCons (mDef 2 (mScope (m_L_draw g)) (mCons (mVar 0) (mCons (mC (.int 4)) mNil))) mNil) [some (.obj 0), some (.dat (.int ((n + 1 : Nat) : Int))), some (.dat (.int (r : Int))), none] (h1 :: rest) = .ok (.items ((List.range r2).map fun k => .dat (nv k))) (h2 :: rest) := rng0_ok (by dsimp! [e2] <;> rfl) (by omega)
      obtain ⟨ps, S', eps, ⟨h3, H3, rfl⟩, hlen, hps⟩ := lc_inv (w := mRng1 (mCons (mDef 2 (mScope (m_L_draw g)) (mCons (mVar 0) (mCons (mC (.int 4)) mNil))) mNil)) (g := gmName 3) (t := mYes) (e := mDef 2 (mScope (m_L_drawn_thing g d)) (mCons (mVar 0) (mCons (mOp aSub (mVar 1) (mC (.int 1))) mNil))) (vs := [3]) (fun S => ∃ h, Hd h ∧ S = h :: rest) (fun p => Lf g (bd n) p) e2' ⟨h2, H2, rfl⟩ (by rw [List.length_map, List.length_range]; omega) (by
        rintro dd m S ⟨h4, H4, rfl⟩
        obtain ⟨p, h5, hp, H5, e5⟩ := ih (d := d) (by omega) H4 hc
        refine ⟨_, p, h5 :: rest, rfl, rfl, ?_, ⟨h5, H5, rfl⟩, hp⟩
        have sn : ((n + 1 : Nat) : Int) - 1 = (n : Int) := by omega
        dsimp! [sn, e5])
      rw [List.length_map, List.length_range] at hlen
      have t := tup_bd (k := 3) (l := ps) (by omega) (by decide) hps
      refine ⟨.tup ps, h3, t, H3, scope_g (t := []) ?_ rfl (cs_hand H3 hc)⟩
      rw [List.append_nil]
      unfold m_L_drawn_thing
      rw [mBody_fin]
      refine fin_eq2 ?_
      rw [mSeq_then]
      refine Eq.trans (congrArg (fun z => thenS z _) a) ?_
      have d3 : decide ((r : Int) < 3) = true := decide_eq_true c3
      have d0 : decide (((n + 1 : Nat) : Int) > 0) = true := decide_eq_true (by omega)
      dsimp! [d3, d0, eps]
    · obtain ⟨o, p, h', rfl, lf, H', eo⟩ := leaf (n := n + 1) (d := d) (r := r) H1 hc (fun q => absurd q c3) none
      refine ⟨p, h', lf.le (bd_ge _), H', scope_g (t := []) ?_ rfl (cs_hand H' hc)⟩
      rw [List.append_nil]
      unfold m_L_drawn_thing
      rw [mBody_fin]
      refine fin_eq2 ?_
      refine Eq.trans ?_ eo
      rw [mSeq_then]
      exact congrArg (fun z => thenS z _) a
end W3
namespace W3
open PySem PySem.Spec PyProof.Rows L2 M3
theorem is_integer_i (g : G) (i : Int) (S : Store) : mPure (m_is_integer g) [.dat (.int i)] S = .ok (.dat (.bl true)) S := pure_dat rfl (S' := []) (by
  unfold m_is_integer
  dsimp! [])
theorem is_between_i (g : G) (i j k : Int) (S : Store) : mPure (m_is_between g) [.dat (.int i), .dat (.int j), .dat (.int k)] S = .ok (.dat (.bl (decide (i ≤ k) && decide (k ≤ j)))) S := pure_dat rfl (S' := []) (by
  unfold m_is_between
  dsimp! [is_integer_i])
theorem is_house_i (g : G) (n k : Int) (S : Store) : mPure (m_is_house g) [.dat (.int n), .dat (.int k)] S = .ok (.dat (.bl (decide (0 ≤ k) && decide (k ≤ n - 1)))) S := pure_dat rfl (S' := []) (by
  unfold m_is_house
  dsimp! [is_between_i])
theorem is_many_i (g : G) (k : Int) (S : Store) : mPure (m_is_many g) [.dat (.int k)] S = .ok (.dat (.bl (decide (1 ≤ k) && decide (k ≤ 64)))) S := pure_dat rfl (S' := []) (by
  unfold m_is_many
  dsimp! [is_between_i])
def bls (l : List Bool) : List D := l.map fun b => .dat (.bl b)
theorem tm {δ : DEnv} {S : Store} {J : DEnv → Store → Prop} {Q : Out → Store → Prop} (h : J δ S) : TurnP J Q (.nx δ) S := h
theorem nones (ps : List (Option Nat)) : ((ps.map ov).map D.dat).filterMap (fun d => match d with | .dat .non => some (D.dat (.bl true)) | _ => some (D.dat (.bl false))) = bls (ps.map fun o => o.isNone) := by
  induction ps with
  | nil => rfl
  | cons o ps ih => cases o <;> (simp only [List.map_cons, List.filterMap_cons, ov, ih]; rfl)
theorem come_t (g : G) {ps : List (Option Nat)} (t : W2.Tree ps) (hn : ps.length ≤ 64) (S : Store) : mPure (m_come_to_roots g) [.dat (.tup (ps.map ov))] S = .ok (.dat (.bl true)) S := by
  suffices h : ∃ d S', m_come_to_roots g [.dat (.tup (ps.map ov))] [] = .ok d S' ∧ d = .dat (.bl true) from let ⟨d, S', e, z⟩ := h; pure_dat rfl (z ▸ e)
  unfold m_come_to_roots
  rw [mBody_fin]
  refine fin_ends ?_
  have e1 : ∀ δ S, δ[0]? = some (some (.dat (.tup (ps.map ov)))) → 2 < δ.length → mLc (mWalk (mVar 0)) (gmName 2) mYes (mOp aIsN (mVar 2) (mC .non)) [2] δ S = .ok (bls (ps.map fun o => o.isNone)) S := fun δ S hδ h2 => by
    rw [← nones]
    refine lc_items _ (walk_t (by unfold mVar; rw [hδ])) (by simp; omega) fun d hd => ⟨_, rfl, ?_⟩
    obtain ⟨p, hp, rfl⟩ := List.mem_map.mp hd
    obtain ⟨o, ho, rfl⟩ := List.mem_map.mp hp
    have e : ((wipeD δ [2]).set 2 (some (D.dat (ov o))))[2]? = some (some (.dat (ov o))) := List.getElem?_set_self (by simp [wipeD]; exact h2)
    cases o with
    | none => exact ⟨rfl, by unfold mOp mVar; rw [e]; rfl⟩
    | some q => exact ⟨rfl, by unfold mOp mVar; rw [e]; rfl⟩
  dsimp! [List.length_map]
  rw [e1 _ _ rfl (by simp)]
  dsimp! []
  -- the houses
  refine then_ends (Q1 := fun o S => ∃ δ, o = .nx δ) ?_ (fun o S ⟨δ, e⟩ => by subst e; exact ⟨_, _, rfl, _, rfl, rfl⟩)
  rw [for_items (rng1_ok (n := ps.length) (by dsimp! [List.length_map] <;> rfl) (by omega))]
  refine forL_ends (fun i δ S => ∃ (bs : List Bool) (x2 x3 x4 x5 x6 : Option D), δ = [some (.dat (.tup (ps.map ov))), some (.obj 0), x2, x3, x4, x5, x6] ∧ S[0]? = some (.lst (bls bs)) ∧ bs.length = ps.length ∧ ∀ h : Nat, ps[h]? = some none → bs[h]? = some true) (i := 0)
    ⟨ps.map fun o => o.isNone, none, none, none, none, none, rfl, rfl, by simp, fun h e => by rw [List.getElem?_map, e]; rfl⟩ ?_ (fun δ S _ => ⟨_, rfl⟩)
  rintro i d δ S hd ⟨bs, x2, x3, x4, x5, x6, rfl, hS, hb, hr⟩
  obtain ⟨hi, rfl⟩ := rngD_get hd
  have hS0 := lt_of_get hS
  dsimp! []
  refine then_ends (Q1 := fun o S' => ∃ (a x5 : Option D) (line : List Nat) (bs : List Bool), o = .nx [some (.dat (.tup (ps.map ov))), some (.obj 0), x2, some (.dat (.int (0 + (i : Int)))), some (.obj S.length), x5, x6] ∧ S'[0]? = some (.lst (bls bs)) ∧ bs.length = ps.length ∧ (∀ h : Nat, ps[h]? = some none → bs[h]? = some true) ∧ S'[S.length]? = some (.lst ((line.map nv).map .dat)) ∧ a = x5 ∧ ∀ x ∈ line, x < ps.length) ?_ ?_
  · refine while_ends (m := (W2.up ps i).length) (fun m δ S' => ∃ (line : List Nat) (a : Nat) (r : List Nat) (bs : List Bool), δ = [some (.dat (.tup (ps.map ov))), some (.obj 0), x2, some (.dat (.int (0 + (i : Int)))), some (.obj S.length), some (.dat (nv a)), x6] ∧ S'[0]? = some (.lst (bls bs)) ∧ bs.length = ps.length ∧ (∀ h : Nat, ps[h]? = some none → bs[h]? = some true) ∧ S'[S.length]? = some (.lst ((line.map nv).map .dat)) ∧ W2.Ch ps i (line ++ a :: r) ∧ m = (a :: r).length) (by have := (t i hi).2; omega) ?_ ?_
    · obtain ⟨c, _⟩ := t i hi
      obtain ⟨r, er⟩ := c.head
      refine ⟨[], i, r, bs, by rw [Int.zero_add]; rfl, get_app hS, hb, hr, get_new, er ▸ c, by rw [er]⟩
    · rintro m δ S' ⟨line, a, r, bs, rfl, h0, hb, hr, hL, c, rfl⟩
      have ha : a < ps.length := c.lt a (by simp)
      have eb : bs[a]? = some bs[a] := List.getElem?_eq_getElem (by omega)
      have ec : W2.Ch ps a (a :: r) := W2.Ch.tail c
      have hlen := c.len
      rw [List.length_append, List.length_cons] at hlen
      have eix : aIx S' (.obj 0) (.dat (nv a)) = some (.dat (.bl bs[a])) := ix_o h0 (atN (map_get eb))
      refine ⟨!bs[a], S', by dsimp! [eix], fun hx => ?_, fun hx => ?_⟩
      · have hpa : ps[a]? ≠ some none := fun z => by
          have := hr a z
          rw [eb] at this
          have := Option.some.inj this
          rw [this] at hx; cases hx
        cases ec with
        | root e => exact absurd e hpa
        | @step _ p l e c2 =>
          obtain ⟨r2, e2⟩ := c2.head
          subst e2
          have elen : aLen S' [.obj S.length] = some (.dat (.int (line.length : Nat))) := by
            rw [len_o hL]; simp
          have eap : updL fAppend (.obj S.length) [.dat (nv a)] S' = .ok (.dat .non) (S'.set S.length (.lst ((line.map nv).map .dat ++ [.dat (nv a)]))) := app_o hL (by simp; omega)
          have epx : aIx (S'.set S.length (.lst ((line.map nv).map .dat ++ [.dat (nv a)]))) (.dat (.tup (ps.map ov))) (.dat (nv a)) = some (.dat (ov (some p))) := ix_t (atN (map_get e))
          have ene : decide ((line.length : Int) = (ps.length : Int)) = false := decide_eq_false (by omega)
          unfold mBM
          dsimp! [elen, List.length_map, ene, kind_o hL, eap, epx]
          refine Ends.of (tm ⟨_, Nat.lt_succ_self _, line ++ [a], p, r2, bs, rfl, get_set (by omega) h0, hb, hr, ?_, by simpa using c, rfl⟩)
          rw [get_set_self hL]
          simp
      · exact ⟨_, _, line, bs, rfl, h0, hb, hr, hL, rfl, fun x hx => c.lt x (by simp [hx])⟩
  · rintro o S' ⟨a, x5, line, bs, rfl, h0, hb, hr, hL, _, hx⟩
    dsimp! []
    rw [for_ob (walk_o (o := S.length) (by dsimp! [] <;> rfl) hL) hL]
    refine forO_ends (l := (line.map nv).map .dat) (fun j δ S'' => ∃ (bs : List Bool) (x6 : Option D), δ = [some (.dat (.tup (ps.map ov))), some (.obj 0), x2, some (.dat (.int (0 + (i : Int)))), some (.obj S.length), x5, x6] ∧ S''[0]? = some (.lst (bls bs)) ∧ bs.length = ps.length ∧ (∀ h : Nat, ps[h]? = some none → bs[h]? = some true) ∧ S''[S.length]? = some (.lst ((line.map nv).map .dat))) (fun j δ S'' ⟨_, _, _, _, _, _, h⟩ => h) ?_ ?_ (by simp) ⟨bs, x6, rfl, h0, hb, hr, hL⟩
    · rintro j d δ S'' ej ⟨bs, x6, rfl, h0, hb, hr, hL⟩
      obtain ⟨p, hp, rfl⟩ := List.mem_map.mp (List.mem_of_getElem? ej)
      obtain ⟨h, hh, rfl⟩ := List.mem_map.mp hp
      have es : setD (.obj 0) (.dat (nv h)) (.dat (.bl true)) S'' = some (S''.set 0 (.lst ((bls bs).set h (.dat (.bl true))))) := setD_o h0 (ixN_nat (by unfold bls; rw [List.length_map, hb]; exact hx h hh))
      dsimp! [es]
      refine Ends.of (tm ⟨bs.set h true, _, rfl, ?_, by simp [hb], fun k ek => ?_, get_set (by omega) hL⟩)
      · rw [get_set_self h0]
        unfold bls
        rw [List.map_set]
      · by_cases e : h = k
        · subst e; rw [List.getElem?_set_self (by have := lt_of_get (hr _ ek); exact this)]
        · rw [List.getElem?_set_ne e]; exact hr k ek
    · rintro δ S'' ⟨bs, x6, rfl, h0, hb, hr, hL⟩
      exact ⟨bs, _, _, _, _, _, rfl, h0, hb, hr⟩
end W3
namespace W3
open PySem PySem.Spec PyProof.Rows L2 M3
theorem all_true {α : Type} (xs : List α) : (xs.map fun _ => true).all id = true := by simp
theorem are_parents_t (g : G) {ps : List (Option Nat)} (t : W2.Tree ps) (h1 : 1 ≤ ps.length) (hn : ps.length ≤ 64) (S : Store) : mPure (m_are_parents g) [.dat (.tup (ps.map ov))] S = .ok (.dat (.bl true)) S := by
  refine pure_dat rfl (S' := []) ?_
  unfold m_are_parents
  have e1 : decide ((1 : Int) ≤ (ps.length : Int)) = true := decide_eq_true (by omega)
  have e2 : decide ((ps.length : Int) ≤ 64) = true := decide_eq_true (by omega)
  dsimp! [is_many_i, List.length_map, e1, e2]
  rw [lc_all (xs := ps) (fun o => .dat (ov o)) (fun _ => .bl true) (by rw [walk_t (l := ps.map ov) (by dsimp! [] <;> rfl)]; rw [List.map_map]; rfl) (by omega) fun o ho => ⟨_, rfl, rfl, ?_⟩]
  · dsimp! [e1, e2, come_t g t hn]
    rw [show ps.map (fun _ => P.bl true) = (ps.map fun _ => true).map P.bl by rw [List.map_map]; rfl, all_lst, all_true]
    dsimp! [come_t g t hn]
  · cases o with
    | none => dsimp! [ov]
    | some q =>
      obtain ⟨i, hi, e⟩ := List.getElem_of_mem ho
      have hq : q < ps.length := t.inr i q (List.getElem?_eq_some_iff.mpr ⟨hi, e⟩)
      have e3 : decide ((0 : Int) ≤ (q : Int)) = true := decide_eq_true (by omega)
      have e4 : decide ((q : Int) ≤ (ps.length : Int) - 1) = true := decide_eq_true (by omega)
      dsimp! [ov, is_house_i, List.length_map, e3, e4]
theorem are_worths_t (g : G) (ws : List Int) (hn : ws.length ≤ 64) (S : Store) : mPure (m_are_worths g) [.dat (.tup (ws.map .int)), .dat (.int (ws.length : Int))] S = .ok (.dat (.bl true)) S := by
  refine pure_dat rfl (S' := []) ?_
  unfold m_are_worths
  dsimp! [List.length_map]
  rw [lc_all (xs := ws) (fun o => .dat (.int o)) (fun _ => .bl true) (by rw [walk_t (l := ws.map .int) (by dsimp! [] <;> rfl)]; rw [List.map_map]; rfl) (by omega) fun o ho => ⟨_, rfl, rfl, ?_⟩]
  · dsimp! []
    rw [show ws.map (fun _ => P.bl true) = (ws.map fun _ => true).map P.bl by rw [List.map_map]; rfl, all_lst, all_true]
    dsimp! []
  · dsimp! [is_integer_i]
def forP (g : G) (ps : List (Option Nat)) (ws : List Int) : P := .ins g.Forest [("parents", .tup (ps.map ov)), ("worths", .tup (ws.map .int))]
theorem pw_ : ¬ (("parents" : Str) = "worths") := by decide +kernel
theorem fl_p {g : G} (X : Gx g) : (g.Forest, ("parents" : Str)) ∈ g.FL := by rw [X.FL]; simp
theorem fl_w {g : G} (X : Gx g) : (g.Forest, ("worths" : Str)) ∈ g.FL := by rw [X.FL]; simp
theorem made_t (g : G) (X : Gx g) {ps : List (Option Nat)} {ws : List Int} (t : W2.Tree ps) (h1 : 1 ≤ ps.length) (hn : ps.length ≤ 64) (hw : ws.length = ps.length) (S : Store) : mPure (mkC g.Forest (m_Forest_init g)) [.dat (.tup (ps.map ov)), .dat (.tup (ws.map .int))] S = .ok (.dat (forP g ps ws)) S := by
  have e1 : m_Forest_init g [.obj 0, .dat (.tup (ps.map ov)), .dat (.tup (ws.map .int))] [.ins g.Forest []] = .ok (.dat .non) [.ins g.Forest [("parents", .dat (.tup (ps.map ov))), ("worths", .dat (.tup (ws.map .int)))]] := by
    have q1 : setF g.FL "parents" (.obj 0) (.dat (.tup (ps.map ov))) [.ins g.Forest []] = some [.ins g.Forest [("parents", .dat (.tup (ps.map ov)))]] := setF_o (l := []) (S := [.ins g.Forest []]) rfl (fl_p X) (by decide)
    have q2 : setF g.FL "worths" (.obj 0) (.dat (.tup (ws.map .int))) [.ins g.Forest [("parents", .dat (.tup (ps.map ov)))]] = some [.ins g.Forest [("parents", .dat (.tup (ps.map ov))), ("worths", .dat (.tup (ws.map .int)))]] := by
      rw [setF_o (S := [.ins g.Forest [("parents", .dat (.tup (ps.map ov)))]]) rfl (fl_w X) (by simp)]
      have : putD "worths" (D.dat (.tup (ws.map .int))) [(("parents" : Str), D.dat (.tup (ps.map ov)))] = [(("parents" : Str), D.dat (.tup (ps.map ov))), (("worths" : Str), D.dat (.tup (ws.map .int)))] := by
        unfold putD; rw [if_neg pw_]; rfl
      rw [this]; rfl
    have e3 : (ps.length : Int) = (ws.length : Int) := by omega
    unfold m_Forest_init mSetF
    dsimp! [are_parents_t g t h1 hn, List.length_map, e3, are_worths_t g ws (by omega), q1, q2]
  refine pure_obj rfl (i := 0) (S' := [.ins g.Forest [("parents", .dat (.tup (ps.map ov))), ("worths", .dat (.tup (ws.map .int)))]]) ?_ rfl
  unfold mkC
  rw [show ([] : Store) ++ [.ins g.Forest []] = [.ins g.Forest []] from rfl]
  show (m_Forest_init g [.obj 0, _, _] _).bind _ = _
  rw [e1]; rfl
noncomputable def rt (ps : List (Option Nat)) (h : Nat) : Nat := (W2.up ps h).getLast?.getD 0
end W3
namespace W3
open PySem PySem.Spec PyProof.Rows L2 M3
theorem one_bd {g : G} {A : Nat} {p : P} (h : Lf g A p) : Lf g (A + 2) (.tup [p]) := ⟨.tup (by simp) fun q m => by rw [List.mem_singleton.mp m]; exact h.1, fun n => by
  cases n with
  | zero => exact Nat.zero_le _
  | succ n =>
    show (40 :: (wr n p ++ [41])).length ≤ _
    have := h.2 n
    rw [List.length_cons, List.length_append, List.length_singleton]; omega⟩
theorem two_bd {g : G} {A B : Nat} {p q : P} (h : Lf g A p) (k : Lf g B q) : Lf g (A + B + 3) (.tup [p, q]) := ⟨.tup (by simp) fun r m => by
  simp only [List.mem_cons, List.not_mem_nil, or_false] at m
  rcases m with rfl | rfl
  · exact h.1
  · exact k.1, fun n => by
  cases n with
  | zero => exact Nat.zero_le _
  | succ n =>
    show (40 :: ((wr n p ++ 44 :: wr n q) ++ [41])).length ≤ _
    have := h.2 n
    have := k.2 n
    simp only [List.length_cons, List.length_append, List.length_nil]; omega⟩
theorem lf_nil {g : G} : Lf g 21 (.tup []) := ⟨.tup (by simp) fun p m => absurd m List.not_mem_nil, fun n => by
  cases n with
  | zero => exact Nat.zero_le _
  | succ n => show (40 :: ([] ++ [41])).length ≤ 21; decide⟩
theorem nested_s (g : G) {h : O} {rest : Store} (H : Hd h) (hc : Cs rest) : ∃ (p : P) (h' : O), Lf g 600 p ∧ Hd h' ∧ mScope (m_L_nested g) [.obj 0, .dat (.int 22)] (h :: rest) = .ok (.dat p) (h' :: rest) := by
  have l5 : (5 : Nat) ≤ 100000 := by decide
  have l3 : (3 : Nat) ≤ 100000 := by decide
  have l2 : (2 : Nat) ≤ 100000 := by decide
  have l1 : (1 : Nat) ≤ 100000 := by decide
  have l0 : (0 : Nat) ≤ 100000 := by decide
  obtain ⟨p0, h1, hp0, H1, e1⟩ := some_s g (l := [.tup [], .tup [], .int 5, .str "a", .non]) H hc (by simp) (by simp)
  have lp0 : Lf g 21 p0 := by
    simp only [List.mem_cons, List.not_mem_nil, or_false] at hp0
    rcases hp0 with rfl | rfl | rfl | rfl | rfl
    · exact lf_nil
    · exact lf_nil
    · exact lf_int (by decide)
    · exact lf_str (by decide +kernel)
    · exact lf_non
  obtain ⟨r, h2, hr, H2, e2⟩ := draw_s g H1 (n := 3) (by omega) (by omega) hc
  suffices z : ∃ d S', m_L_nested g [.obj 0, .dat (.int 22)] (h :: rest) = .ok d S' ∧ ∃ (p : P) (h' : O), Lf g 600 p ∧ Hd h' ∧ d = .dat p ∧ S' = h' :: rest by
    obtain ⟨d, S', e, p, h', lp, H', rfl, rfl⟩ := z
    exact ⟨p, h', lp, H', scope_g (t := []) (by rw [List.append_nil]; exact e) rfl (cs_hand H' hc)⟩
  unfold m_L_nested
  rw [mBody_fin]
  refine fin_ends ?_
  dsimp! [l0, l5, e1]
  have sb : ∀ S : Store, aSub S (.dat (.int 21)) (.dat (.int (r : Int))) = some (.dat (.int ((21 - r : Nat) : Int))) := fun _ => by
    show some (D.dat (.int ((21 : Int) - (r : Int)))) = _
    rw [show (21 : Int) - (r : Int) = ((21 - r : Nat) : Int) by omega]
  rw [for_items (rng0_ok (n := 21 - r) (by dsimp! [e2, sb] <;> rfl) (by omega))]
  refine then_ends (Q1 := fun o S' => ∃ (p : P) (h' : O) (x3 : Option D), Lf g 600 p ∧ Hd h' ∧ S' = h' :: rest ∧ o = .nx [some (.obj 0), some (.dat (.int 22)), some (.dat p), x3]) ?_ ?_
  · refine forL_ends (fun i δ S' => ∃ (p : P) (h' : O) (x3 : Option D), Lf g (21 + 24 * i) p ∧ Hd h' ∧ S' = h' :: rest ∧ δ = [some (.obj 0), some (.dat (.int 22)), some (.dat p), x3]) (i := 0) ⟨p0, h2, none, lp0, H2, rfl, rfl⟩ ?_ ?_
    · rintro k d δ S' ed ⟨p, h3, x3, lp, H3, rfl, rfl⟩
      obtain ⟨p2, h4, hp2, H4, e4⟩ := some_s g (l := [.tup [p], .tup [p, .int 1], .tup [.non, p]]) H3 hc (by simp) (by simp)
      have lp2 : Lf g (21 + 24 * (k + 1)) p2 := by
        rw [Nat.zero_add] at lp
        simp only [List.mem_cons, List.not_mem_nil, or_false] at hp2
        rcases hp2 with rfl | rfl | rfl
        · exact (one_bd lp).le (by omega)
        · exact (two_bd lp (lf_int (by decide))).le (by omega)
        · exact (two_bd lf_non lp).le (by omega)
      dsimp! [l1, l2, l3, e4]
      exact .of ⟨p2, h4, _, lp2, H4, rfl, rfl⟩
    · rintro δ S' ⟨p, h3, x3, lp, H3, rfl, rfl⟩
      rw [List.length_map, List.length_range] at lp
      exact ⟨p, h3, x3, lp.le (by omega), H3, rfl, rfl⟩
  · rintro o S' ⟨p, h3, x3, lp, H3, rfl, rfl⟩
    dsimp! []
    exact .of ⟨_, rfl, p, h3, lp, H3, rfl, rfl⟩
def nstT : Nat → P
  | 0 => .non
  | n + 1 => .tup [nstT n]
def nstL : Nat → P
  | 0 => .non
  | n + 1 => .lst [nstL n]
theorem nstT_thg {g : G} : ∀ n, Thg g (nstT n)
  | 0 => .non
  | n + 1 => .tup (by simp) fun p m => by rw [List.mem_singleton.mp m]; exact nstT_thg n
theorem nstT_can : ∀ (n k : Nat), n < k → canF n (nstT k) = false
  | n, 0, h => by omega
  | 0, k + 1, _ => rfl
  | n + 1, k + 1, h => by
    show [nstT k].all (canF n) = false
    rw [List.all_cons, nstT_can n k (by omega)]; rfl
theorem deep_t (g : G) {z : Nat} (hz : z < 2) (S : Store) : mPure (m_L_deep g) [.dat (.int (z : Int))] S = .ok (.dat (if z = 0 then nstL 36 else nstT 36)) S := by
  have l1 : (1 : Nat) ≤ 100000 := by decide
  suffices q : ∃ d S', m_L_deep g [.dat (.int (z : Int))] [] = .ok d S' ∧ d = .dat (if z = 0 then nstL 36 else nstT 36) by
    obtain ⟨d, S', e, rfl⟩ := q
    exact pure_dat rfl e
  have ez : decide ((z : Int) = 0) = decide (z = 0) := by
    rw [Bool.eq_iff_iff, decide_eq_true_iff, decide_eq_true_iff]; omega
  unfold m_L_deep
  rw [mBody_fin]
  refine fin_ends ?_
  dsimp! []
  rw [for_items (rng0_ok (n := 36) (by dsimp! [] <;> rfl) (by decide))]
  refine then_ends (Q1 := fun o S' => ∃ x2, o = .nx [some (.dat (.int (z : Int))), some (.dat (if z = 0 then nstL 36 else nstT 36)), x2]) ?_ ?_
  · refine forL_ends (fun i δ S' => ∃ x2, δ = [some (.dat (.int (z : Int))), some (.dat (if z = 0 then nstL i else nstT i)), x2]) (i := 0) ⟨none, by rcases (show z = 0 ∨ z = 1 by omega) with rfl | rfl <;> rfl⟩ ?_ ?_
    · rintro k d δ S' ed ⟨x2, rfl⟩
      rcases (show z = 0 ∨ z = 1 by omega) with rfl | rfl
      · have e0 : decide (((0 : Nat) : Int) = 0) = true := rfl
        dsimp! [e0, l1]
        refine .of ⟨some d, ?_⟩
        try rw [Nat.zero_add]
        all_goals rfl
      · have e0 : decide (((1 : Nat) : Int) = 0) = false := rfl
        dsimp! [e0, l1]
        refine .of ⟨some d, ?_⟩
        try rw [Nat.zero_add]
        all_goals rfl
    · rintro δ S' ⟨x2, rfl⟩
      exact ⟨x2, rfl⟩
  · rintro o S' ⟨x2, rfl⟩
    dsimp! []
    exact .of ⟨_, rfl, rfl⟩
end W3
namespace W3
open PySem PySem.Spec PyProof.Rows L2 M3
def SGS : List P := [.str "(", .str ")", .str ",", .str "-", .str "0", .str "1", .str "9", .str "a", .str "z", .str "A", .str " ", .str ".", .str "\n", .str "yes", .str "no", .str "00", .str (repS "1" 20), .str (repS "b" 20)]
theorem sgs_txt {p : P} (h : p ∈ SGS) : ∃ w : List Nat, w.length ≤ 20 ∧ p = .str (txt w) := by
  have k : ∀ z : Str, z.length ≤ 20 → ∃ w : List Nat, w.length ≤ 20 ∧ P.str z = .str (txt w) := fun z hz => ⟨z.cps.toList, hz, by rw [txt_cps]⟩
  unfold SGS at h
  simp only [List.mem_cons, List.not_mem_nil, or_false] at h
  rcases h with rfl | rfl | rfl | rfl | rfl | rfl | rfl | rfl | rfl | rfl | rfl | rfl | rfl | rfl | rfl | rfl | rfl | rfl
  all_goals exact k _ (by decide +kernel)
theorem spoilt_s (g : G) {cs : List Nat} (hl : cs.length ≤ 80000) {h : O} {rest : Store} (H : Hd h) (hc : Cs rest) : ∃ (ds : List Nat) (h' : O), ds.length ≤ cs.length + 20 ∧ Hd h' ∧ mScope (m_L_spoilt g) [.obj 0, tD cs] (h :: rest) = .ok (tD ds) (h' :: rest) := by
  have l18 : (18 : Nat) ≤ 100000 := by decide
  have ln := fun S => len_txt (cs := cs) (by omega) S
  obtain ⟨r, h1, hr, H1, e1⟩ := draw_s g H (n := (cs.length : Int) + 1) (by omega) (by omega) hc
  obtain ⟨y, h2, hy, H2, e2⟩ := draw_s g H1 (n := 7) (by omega) (by omega) hc
  obtain ⟨p, h3, hp, H3, e3⟩ := some_s g (l := SGS) H2 hc (by simp [SGS]) (by simp [SGS])
  obtain ⟨w, hw, rfl⟩ := sgs_txt hp
  have m1 : ∀ S : Store, aMulS S (.dat (.str "1")) (.dat (.int 20)) = some (.dat (.str (repS "1" 20))) := fun S => by
    show (if ((2 : Int) ≤ 20 ∧ (20 : Int) ≤ 1000) ∧ 1 ≤ ("1" : Str).length ∧ ("1" : Str).length ≤ 1000 ∧ (repS "1" (20 : Int).toNat).length ≤ 100000 then some (D.dat (.str (repS "1" (20 : Int).toNat))) else none) = _
    exact if_pos (by decide +kernel)
  have m2 : ∀ S : Store, aMulS S (.dat (.str "b")) (.dat (.int 20)) = some (.dat (.str (repS "b" 20))) := fun S => by
    show (if ((2 : Int) ≤ 20 ∧ (20 : Int) ≤ 1000) ∧ 1 ≤ ("b" : Str).length ∧ ("b" : Str).length ≤ 1000 ∧ (repS "b" (20 : Int).toNat).length ≤ 100000 then some (D.dat (.str (repS "b" (20 : Int).toNat))) else none) = _
    exact if_pos (by decide +kernel)
  have s1 := fun S => sl_to (cs := cs) (by omega) (b := r) S
  have s2 := fun S => sl_from (cs := cs) (by omega) (a := r) S
  have s3 : ∀ S : Store, aSl S (tD cs) (some ((r : Int) + 1)) none = some (tD (cs.drop (r + 1))) := fun S => sl_from (cs := cs) (by omega) (a := r + 1) S
  have t1 : (cs.take r).length ≤ cs.length := by rw [List.length_take]; omega
  have t2 : (cs.drop r).length = cs.length - r := List.length_drop
  have t3 : (cs.drop (r + 1)).length = cs.length - (r + 1) := List.length_drop
  have t4 : (cs.take r).length = min r cs.length := List.length_take
  have a1 := fun S => add_txt (cs := cs.take r) (ds := w) (by omega) S
  have a2 := fun S => add_txt (cs := cs.take r ++ w) (ds := cs.drop r) (by rw [List.length_append]; omega) S
  have a3 := fun S => add_txt (cs := cs.take r ++ w) (ds := cs.drop (r + 1)) (by rw [List.length_append]; omega) S
  have a4 := fun S => add_txt (cs := cs.take r) (ds := cs.drop (r + 1)) (by omega) S
  have b2 : (cs.take r ++ w ++ cs.drop r).length ≤ cs.length + 20 := by rw [List.length_append, List.length_append]; omega
  have b3 : (cs.take r ++ w ++ cs.drop (r + 1)).length ≤ cs.length + 20 := by rw [List.length_append, List.length_append]; omega
  have b4 : (cs.take r ++ cs.drop (r + 1)).length ≤ cs.length + 20 := by rw [List.length_append]; omega
  suffices z : ∃ d S', m_L_spoilt g [.obj 0, tD cs] (h :: rest) = .ok d S' ∧ ∃ (ds : List Nat), ds.length ≤ cs.length + 20 ∧ d = tD ds ∧ S' = h3 :: rest by
    obtain ⟨d, S', e, ds, hds, rfl, rfl⟩ := z
    exact ⟨ds, h3, hds, H3, scope_g (t := []) (by rw [List.append_nil]; exact e) rfl (cs_hand H3 hc)⟩
  obtain ⟨R0, hR⟩ : ∃ R0, R0 = tD cs := ⟨_, rfl⟩
  rw [← hR] at ln s1 s2 s3 ⊢
  have e3' : mScope (m_L_some g) [.obj 0, .dat (.lst [.str "(", .str ")", .str ",", .str "-", .str "0", .str "1", .str "9", .str "a", .str "z", .str "A", .str " ", .str ".", .str "\n", .str "yes", .str "no", .str "00", .str (repS "1" 20), .str (repS "b" 20)])] (h2 :: rest) = .ok (tD w) (h3 :: rest) := e3
  unfold m_L_spoilt
  rw [mBody_fin]
  refine fin_ends ?_
  by_cases c3 : (y : Int) < 3
  · have d3 : decide ((y : Int) < 3) = true := decide_eq_true c3
    dsimp! [ln, e1, e2, l18, m1, m2, e3', d3, mSl_e, moN_e, moS_e, s1, s2, a1, a2]
    exact .of ⟨_, rfl, _, b2, rfl, rfl⟩
  · have d3 : decide ((y : Int) < 3) = false := decide_eq_false c3
    by_cases c5 : (y : Int) < 5
    · have d5 : decide ((y : Int) < 5) = true := decide_eq_true c5
      dsimp! [ln, e1, e2, l18, m1, m2, e3', d3, d5, mSl_e, moN_e, moS_e, s1, s3, a4]
      exact .of ⟨_, rfl, _, b4, rfl, rfl⟩
    · have d5 : decide ((y : Int) < 5) = false := decide_eq_false c5
      by_cases c6 : (y : Int) = 5
      · have d6 : decide ((y : Int) = 5) = true := decide_eq_true c6
        dsimp! [ln, e1, e2, l18, m1, m2, e3', d3, d5, d6, mSl_e, moN_e, moS_e, s1, s3, a1, a3]
        exact .of ⟨_, rfl, _, b3, rfl, rfl⟩
      · have d6 : decide ((y : Int) = 5) = false := decide_eq_false c6
        dsimp! [ln, e1, e2, l18, m1, m2, e3', d3, d5, d6, mSl_e, moN_e, moS_e, s1]
        exact .of ⟨_, rfl, _, by omega, rfl, rfl⟩
end W3
namespace W3
open PySem PySem.Spec PyProof.Rows L2 M3
theorem glue_join : ∀ xs : List (List Nat), Txt.join ("," : Str) (xs.map txt) = txt (glue xs) := by
  have c : ("," : Str) = txt [44] := (txt_eq.mpr z44.symm).symm
  have k : ∀ xs : List (List Nat), Str.join ("," : Str) (xs.map txt) = txt (glue xs) := by
    intro xs
    induction xs with
    | nil => rfl
    | cons x xs ih =>
      cases xs with
      | nil => rfl
      | cons y r =>
        show txt x ++ ("," : Str) ++ Str.join ("," : Str) ((y :: r).map txt) = txt (x ++ 44 :: glue (y :: r))
        rw [ih, c, txt_add, txt_add, List.append_assoc]
        rfl
  exact fun xs => (StrLaws.glued_eq_join _ _).trans (k xs)
theorem glue_ge : ∀ xs : List (List Nat), (xs.map List.length).sum ≤ (glue xs).length
  | [] => Nat.le_refl _
  | [x] => by simp [glue]
  | x :: y :: r => by
    have := glue_ge (y :: r)
    show x.length + ((y :: r).map List.length).sum ≤ (x ++ 44 :: glue (y :: r)).length
    rw [List.length_append, List.length_cons]
    omega
theorem glue_mem : ∀ {xs : List (List Nat)} {x : List Nat}, x ∈ xs → x.length ≤ (glue xs).length
  | [], _, h => by cases h
  | [y], x, h => by rw [List.mem_singleton.mp h]; exact Nat.le_refl _
  | y :: z :: r, x, h => by
    show x.length ≤ (y ++ 44 :: glue (z :: r)).length
    rw [List.length_append, List.length_cons]
    rcases List.mem_cons.mp h with rfl | h
    · omega
    · have := glue_mem h; omega
theorem join_t {b : DE} {δ : DEnv} {S : Store} {xs : List (List Nat)} (hb : b δ S = .ok (.dat (.lst (xs.map fun x => P.str (txt x)))) S) (hl : (glue xs).length ≤ 90000) (hn : xs.length ≤ 1000) : mJoin (mC (.str ",")) b δ S = .ok (tD (glue xs)) S := by
  have l1 : ("," : Str).length = 1 := by rw [show ("," : Str) = txt [44] from (txt_eq.mpr z44.symm).symm, txt_len]; rfl
  have ez : ((xs.map txt).map (·.length)).sum = (xs.map List.length).sum := by
    rw [List.map_map]
    congr 1
    all_goals exact List.map_congr_left fun x _ => txt_len x
  have := glue_ge xs
  show ((mC (.str ",") : DE) δ S).bind _ = _
  show (b δ S).bind _ = _
  rw [hb, R.bind_ok, listP_l, Option.bind_some, show (xs.map fun x => P.str (txt x)) = (xs.map txt).map .str by rw [List.map_map]; rfl, strsP_map]
  dsimp only
  rw [if_pos (by rw [ez, List.length_map, l1]; omega), glue_join]
theorem strI_t {i : Int} (h : i.natAbs < 10 ^ 20) (S : Store) : aStrA S [.dat (.int i)] = some (tD (digI i)) := by
  show (if i.natAbs.log2 < 1920 then some (D.dat (.str (strI i))) else none) = _
  rw [if_pos, strI_eq]
  by_cases z : i.natAbs = 0
  · rw [z]; decide
  · exact (Nat.log2_lt z).mpr (Nat.lt_trans h (by decide))
theorem tup_txt {x : List Nat} (hl : x.length ≤ 90000) (S : Store) : aAdd S (.dat (.str "(")) (tD x) = some (tD (40 :: x)) ∧ aAdd S (tD (40 :: x)) (.dat (.str ")")) = some (tD (40 :: (x ++ [41]))) := by
  have c1 : ("(" : Str) = txt [40] := (txt_eq.mpr z40.symm).symm
  have c2 : (")" : Str) = txt [41] := (txt_eq.mpr z41.symm).symm
  rw [c1, c2]
  exact ⟨add_txt (cs := [40]) (by rw [List.length_singleton]; omega) S, add_txt (ds := [41]) (by rw [List.length_cons, List.length_singleton]; omega) S⟩
theorem wr_le {n : Nat} {l : List P} (h : (wr (n + 1) (.tup l)).length ≤ 90000) : (glue (l.map (wr n))).length ≤ 90000 ∧ ∀ p ∈ l, (wr n p).length ≤ 90000 := by
  have e : (wr (n + 1) (.tup l)).length = (glue (l.map (wr n))).length + 2 := by
    show (40 :: (glue (l.map (wr n)) ++ [41])).length = _
    rw [List.length_cons, List.length_append, List.length_singleton]
  refine ⟨by omega, fun p m => ?_⟩
  have := glue_mem (xs := l.map (wr n)) (List.mem_map.mpr ⟨p, m, rfl⟩)
  omega
theorem text_of_t (g : G) : ∀ (n : Nat) {p : P}, Wn n p → (wr n p).length ≤ 90000 → ∀ {d : Nat}, n < d → ∀ S, mPure (m_text_of g d) [.dat p] S = .ok (tD (wr n p)) S := by
  have base : ∀ (n d : Nat) (p : P), Wn n p → (∀ l, p ≠ .tup l) → m_text_of g (d + 1) [.dat p] [] = .ok (tD (wr n p)) [] := by
    intro n d p h nt
    unfold m_text_of
    cases h with
    | non =>
      have e : wr n .non = [45] := by cases n <;> rfl
      rw [e, show tD [45] = .dat (.str "-") from congrArg (fun z => D.dat (.str z)) (txt_eq.mpr z45.symm)]
      dsimp! []
    | @bl _ b =>
      have e : wr n (.bl b) = if b = true then yesL else noL := by cases n <;> rfl
      rw [e]
      cases b with
      | true => dsimp! []; all_goals rfl
      | false => dsimp! []; all_goals rfl
    | @int _ i hi =>
      have e : wr n (.int i) = digI i := by cases n <;> rfl
      rw [e]
      dsimp! [strI_t hi]
      all_goals rfl
    | @str _ z hz hs h1 h2 =>
      have e : wr n (.str z) = z.cps.toList := by cases n <;> rfl
      have st : ∀ S : Store, aStrA S [.dat (.str z)] = some (.dat (.str z)) := fun _ => rfl
      rw [e, show tD z.cps.toList = .dat (.str z) from congrArg (fun z => D.dat (.str z)) (txt_cps z)]
      dsimp! [st]
      all_goals rfl
    | @tup _ l _ _ => exact (nt l rfl).elim
  intro n
  induction n with
  | zero =>
    intro p h hl d hd S
    obtain ⟨d, rfl⟩ : ∃ e, d = e + 1 := ⟨d - 1, by omega⟩
    exact pure_dat rfl (S' := []) (base 0 d p h fun l q => by subst q; cases h)
  | succ n ih =>
    intro p h hl d hd S
    obtain ⟨d, rfl⟩ : ∃ e, d = e + 1 := ⟨d - 1, by omega⟩
    cases h with
    | @tup _ l hk hh =>
      obtain ⟨w1, w2⟩ := wr_le hl
      refine pure_dat rfl (S' := []) ?_
      have lc : mLc (mWalk (mVar 0)) (gmName 1) mYes (mDef 1 (mPure (m_text_of g d)) (mCons (mVar 1) mNil)) [1] [some (.dat (.tup l)), none] ([] : Store) = .ok ((l.map fun p => P.str (txt (wr n p))).map .dat) [] :=
        lc_all (xs := l) (fun p => .dat p) (fun p => .str (txt (wr n p))) (walk_t (by dsimp! [] <;> rfl)) (by omega) fun p m => ⟨_, rfl, rfl, by dsimp! [ih (hh p m) (w2 p m) (show n < d by omega)]⟩
      have jn := join_t (b := mFrz (mLc (mWalk (mVar 0)) (gmName 1) mYes (mDef 1 (mPure (m_text_of g d)) (mCons (mVar 1) mNil)) [1])) (δ := [some (.dat (.tup l)), none]) (S := []) (xs := l.map (wr n)) (by rw [List.map_map]; dsimp! [lc]; all_goals rfl) w1 (by rw [List.length_map]; omega)
      have a1 := fun S => (tup_txt w1 S).1
      have a2 := fun S => (tup_txt w1 S).2
      unfold m_text_of
      dsimp! [jn, a1, a2]
      all_goals rfl
    | non => exact pure_dat rfl (S' := []) (base _ d _ .non fun l q => nomatch q)
    | bl => exact pure_dat rfl (S' := []) (base _ d _ .bl fun l q => nomatch q)
    | int h => exact pure_dat rfl (S' := []) (base _ d _ (.int h) fun l q => nomatch q)
    | str h hs h1 h2 => exact pure_dat rfl (S' := []) (base _ d _ (.str h hs h1 h2) fun l q => nomatch q)
end W3
namespace W3
open PySem PySem.Spec PyProof.Rows L2 M3
theorem L_written_t (g : G) : ∀ (n : Nat) {p : P}, Wn n p → (wr n p).length ≤ 90000 → ∀ {d : Nat}, n < d → ∀ S, mPure (m_L_written g d) [.dat p] S = .ok (tD (wr n p)) S := by
  have base : ∀ (n d : Nat) (p : P), Wn n p → (∀ l, p ≠ .tup l) → m_L_written g (d + 1) [.dat p] [] = .ok (tD (wr n p)) [] := by
    intro n d p h nt
    unfold m_L_written
    cases h with
    | non =>
      have e : wr n .non = [45] := by cases n <;> rfl
      rw [e, show tD [45] = .dat (.str "-") from congrArg (fun z => D.dat (.str z)) (txt_eq.mpr z45.symm)]
      dsimp! []
    | @bl _ b =>
      have e : wr n (.bl b) = if b = true then yesL else noL := by cases n <;> rfl
      rw [e]
      cases b with
      | true => dsimp! []; all_goals rfl
      | false => dsimp! []; all_goals rfl
    | @int _ i hi =>
      have e : wr n (.int i) = digI i := by cases n <;> rfl
      rw [e]
      dsimp! [strI_t hi]
      all_goals rfl
    | @str _ z hz hs h1 h2 =>
      have e : wr n (.str z) = z.cps.toList := by cases n <;> rfl
      have st : ∀ S : Store, aStrA S [.dat (.str z)] = some (.dat (.str z)) := fun _ => rfl
      rw [e, show tD z.cps.toList = .dat (.str z) from congrArg (fun z => D.dat (.str z)) (txt_cps z)]
      dsimp! [st]
      all_goals rfl
    | @tup _ l _ _ => exact (nt l rfl).elim
  intro n
  induction n with
  | zero =>
    intro p h hl d hd S
    obtain ⟨d, rfl⟩ : ∃ e, d = e + 1 := ⟨d - 1, by omega⟩
    exact pure_dat rfl (S' := []) (base 0 d p h fun l q => by subst q; cases h)
  | succ n ih =>
    intro p h hl d hd S
    obtain ⟨d, rfl⟩ : ∃ e, d = e + 1 := ⟨d - 1, by omega⟩
    cases h with
    | @tup _ l hk hh =>
      obtain ⟨w1, w2⟩ := wr_le hl
      refine pure_dat rfl (S' := []) ?_
      have lc : mLc (mWalk (mVar 0)) (gmName 1) mYes (mDef 1 (mPure (m_L_written g d)) (mCons (mVar 1) mNil)) [1] [some (.dat (.tup l)), none] ([] : Store) = .ok ((l.map fun p => P.str (txt (wr n p))).map .dat) [] :=
        lc_all (xs := l) (fun p => .dat p) (fun p => .str (txt (wr n p))) (walk_t (by dsimp! [] <;> rfl)) (by omega) fun p m => ⟨_, rfl, rfl, by dsimp! [ih (hh p m) (w2 p m) (show n < d by omega)]⟩
      have jn := join_t (b := mFrz (mLc (mWalk (mVar 0)) (gmName 1) mYes (mDef 1 (mPure (m_L_written g d)) (mCons (mVar 1) mNil)) [1])) (δ := [some (.dat (.tup l)), none]) (S := []) (xs := l.map (wr n)) (by rw [List.map_map]; dsimp! [lc]; all_goals rfl) w1 (by rw [List.length_map]; omega)
      have a1 := fun S => (tup_txt w1 S).1
      have a2 := fun S => (tup_txt w1 S).2
      unfold m_L_written
      dsimp! [jn, a1, a2]
      all_goals rfl
    | non => exact pure_dat rfl (S' := []) (base _ d _ .non fun l q => nomatch q)
    | bl => exact pure_dat rfl (S' := []) (base _ d _ .bl fun l q => nomatch q)
    | int h => exact pure_dat rfl (S' := []) (base _ d _ (.int h) fun l q => nomatch q)
    | str h hs h1 h2 => exact pure_dat rfl (S' := []) (base _ d _ (.str h hs h1 h2) fun l q => nomatch q)
theorem written_t (g : G) (X : Gx g) {p : P} (h : Thg g p) (hl : canF 20 p = true → (wr 20 p).length ≤ 90000) (S : Store) : mPure (m_written g) [.dat p] S = if canF 20 p = true then .ok (tD (wr 20 p)) S else .exc g.NoThing none S := by
  have ct := fun S => can_t g X 20 h (d := 70) (by decide) S
  have ct : ∀ S, mPure (m_can_be_written g 70) [.dat p, .dat (.int 20)] S = .ok (.dat (.bl (canF 20 p))) S := ct
  cases c : canF 20 p with
  | true =>
    rw [c] at ct
    have tt := fun S => text_of_t g 20 (canF_wn 20 h c) (hl c) (d := 70) (by decide) S
    rw [if_pos rfl]
    refine pure_dat rfl (S' := []) ?_
    unfold m_written
    dsimp! [ct, tt]
    all_goals rfl
  | false =>
    rw [c] at ct
    rw [if_neg Bool.false_ne_true]
    refine pure_exc rfl (S' := []) ?_
    unfold m_written
    dsimp! [ct]
    all_goals rfl
def givP (p : P) : Str := if canF 20 p = true then txt (wr 20 p) else "(NoThing)"
theorem given_t (g : G) (X : Gx g) {p : P} (h : Thg g p) (hl : canF 20 p = true → (wr 20 p).length ≤ 90000) (S : Store) : mPure (m_L_given g) [.dat p] S = .ok (.dat (.str (givP p))) S := by
  have wt := fun S => written_t g X h hl S
  refine pure_dat rfl (S' := []) ?_
  unfold m_L_given givP
  rw [mBody_fin]
  refine fin_rr ?_
  dsimp! []
  cases c : canF 20 p with
  | true =>
    rw [c] at wt
    have wt : ∀ S, mPure (m_written g) [.dat p] S = .ok (tD (wr 20 p)) S := fun S => (wt S).trans (if_pos rfl)
    rw [try_nx (by dsimp! [wt] <;> rfl)]
    dsimp! []
    exact .of ⟨rfl, rfl⟩
  | false =>
    rw [c] at wt
    have wt : ∀ S, mPure (m_written g) [.dat p] S = .exc g.NoThing none S := fun S => (wt S).trans (if_neg Bool.false_ne_true)
    rw [try_ex (C0 := g.NoThing) (x := none) (p := .str "(NoThing)") (by dsimp! [wt] <;> rfl) X.x_NoThing_NoThing rfl ⟨Nat.lt_succ_self 2, Nat.lt_succ_of_lt (Nat.lt_succ_self 1), by decide, X.ke_NoThing_ForestError, X.ke_NoThing_ValueError⟩]
    dsimp! []
    exact .of ⟨rfl, rfl⟩
end W3
namespace W3
open PySem PySem.Spec PyProof.Rows L2 M3
def ODD : List P := [.lst [], .lst [.int 1], .dic [], .str "", .str "A", .str "a b", .str "yes", .str "no", .str (repS "a" 21), .str "a1", .str "-", .tup [.int 1, .lst []], .tup [.str "yes"], .tup [.tup [], .tup [.str "a", .str "B"]]]
def FP (g : G) : P := forP g [none] [0]
def DP (g : G) (p : P) : Prop := Thg g p ∧ (canF 20 p = true → (wr 20 p).length ≤ 6000)
theorem dp_no {g : G} {p : P} (h : Thg g p) (e : canF 20 p = false) : DP g p := ⟨h, fun q => by rw [e] at q; cases q⟩
theorem dp_lf {g : G} {p : P} {B : Nat} (h : Lf g B p) (e : B ≤ 6000) : DP g p := ⟨h.1, fun _ => Nat.le_trans (h.2 20) e⟩
theorem thg1 {g : G} {p : P} (h : Thg g p) : Thg g (.tup [p]) := .tup (by simp) fun q m => by rw [List.mem_singleton.mp m]; exact h
theorem thg2 {g : G} {p q : P} (h : Thg g p) (k : Thg g q) : Thg g (.tup [p, q]) := .tup (by simp) fun r m => by
  simp only [List.mem_cons, List.not_mem_nil, or_false] at m
  rcases m with rfl | rfl
  · exact h
  · exact k
theorem odd_dp {g : G} {p : P} (h : p ∈ ODD) : DP g p := by
  unfold ODD at h
  simp only [List.mem_cons, List.not_mem_nil, or_false] at h
  have st : ∀ z : Str, z.length ≤ 1000 → Thg g (.str z) := fun z hz => .str hz
  rcases h with rfl | rfl | rfl | rfl | rfl | rfl | rfl | rfl | rfl | rfl | rfl | rfl | rfl | rfl
  · exact dp_no .lst rfl
  · exact dp_no .lst rfl
  · exact dp_no .dic rfl
  · exact dp_no (st _ (by decide +kernel)) (by decide +kernel)
  · exact dp_no (st _ (by decide +kernel)) (by decide +kernel)
  · exact dp_no (st _ (by decide +kernel)) (by decide +kernel)
  · exact dp_no (st _ (by decide +kernel)) (by decide +kernel)
  · exact dp_no (st _ (by decide +kernel)) (by decide +kernel)
  · exact dp_no (st _ (by decide +kernel)) (by decide +kernel)
  · exact dp_no (st _ (by decide +kernel)) (by decide +kernel)
  · exact dp_no (st _ (by decide +kernel)) (by decide +kernel)
  · exact dp_no (thg2 (.int (by decide)) .lst) (by decide +kernel)
  · exact dp_no (thg1 (st _ (by decide +kernel))) (by decide +kernel)
  · exact dp_no (thg2 (.tup (by simp) fun q m => absurd m List.not_mem_nil) (thg2 (st _ (by decide +kernel)) (st _ (by decide +kernel)))) (by decide +kernel)
theorem tree1 : W2.Tree [none] := W2.tree_of fun h hh => by
  have : h = 0 := by simpa using hh
  subst this
  exact ⟨[0], .root rfl, by simp⟩
theorem fp_t (g : G) (X : Gx g) (S : Store) : mPure (mkC g.Forest (m_Forest_init g)) [.dat (.tup [.non]), .dat (.tup [.int 0])] S = .ok (.dat (FP g)) S :=
  made_t g X (ps := [none]) (ws := [0]) tree1 (by simp) (by simp) rfl S
theorem more_dp {g : G} {p : P} (h : p ∈ ODD ++ [nstL 36, nstT 36, FP g, .tup [FP g]]) : DP g p := by
  rcases List.mem_append.mp h with h | h
  · exact odd_dp h
  · simp only [List.mem_cons, List.not_mem_nil, or_false] at h
    rcases h with rfl | rfl | rfl | rfl
    · exact dp_no .lst rfl
    · exact dp_no (nstT_thg 36) (nstT_can 20 36 (by decide))
    · exact dp_no .ins rfl
    · exact dp_no (thg1 .ins) rfl
abbrev G9 (x0 : Option D) (x3 x4 x5 x6 x7 x8 : Option D) : DEnv := [x0, some (.obj 0), some (.dat (.lst ODD)), x3, x4, x5, x6, x7, x8]
def T2 (g : G) : DS := mIfS (mTst (mOp aEq (mDef 2 (mScope (m_L_draw g)) (mCons (mVar 1) (mCons (mC (.int 5)) mNil))) (mC (.int 0)))) (mAsg (mDef 2 (mScope (m_L_nested g)) (mCons (mVar 1) (mCons (mC (.int 22)) mNil))) (gmName 4)) (mIfS (mTst (mOp aEq (mDef 2 (mScope (m_L_draw g)) (mCons (mVar 1) (mCons (mC (.int 5)) mNil))) (mC (.int 0)))) (mAsg (mDef 2 (mScope (m_L_some g)) (mCons (mVar 1) (mCons (mOp aAdd (mVar 2) (mFrz (mLst (mCons (mDef 1 (mPure (m_L_deep g)) (mCons (mC (.int 0)) mNil)) (mCons (mDef 1 (mPure (m_L_deep g)) (mCons (mC (.int 1)) mNil)) (mCons (mDef 2 (mPure (mkC g.Forest (m_Forest_init g))) (mCons (mTup (mCons (mC .non) mNil)) (mCons (mTup (mCons (mC (.int 0)) mNil)) mNil))) (mCons (mTup (mCons (mDef 2 (mPure (mkC g.Forest (m_Forest_init g))) (mCons (mTup (mCons (mC .non) mNil)) (mCons (mTup (mCons (mC (.int 0)) mNil)) mNil))) mNil)) mNil))))))) mNil))) (gmName 4)) mNext)
theorem T2_t (g : G) (X : Gx g) {x0 x3 x5 x6 x7 x8 : Option D} {p : P} {h : O} (H : Hd h) (hp : DP g p) : ∃ (p' : P) (h' : O), DP g p' ∧ Hd h' ∧ T2 g (G9 x0 x3 (some (.dat p)) x5 x6 x7 x8) [h] = .ok (.nx (G9 x0 x3 (some (.dat p')) x5 x6 x7 x8)) [h'] := by
  have l4 : (4 : Nat) ≤ 100000 := by decide
  have l1 : (1 : Nat) ≤ 100000 := by decide
  obtain ⟨r, h1, hr, H1, e1⟩ := draw_s g H (n := 5) (by omega) (by omega) cs_nil
  unfold T2
  by_cases c0 : r = 0
  · have z : decide ((r : Int) = 0) = true := decide_eq_true (by omega)
    obtain ⟨p', h2, lp, H2, e2⟩ := nested_s g H1 cs_nil
    refine ⟨p', h2, dp_lf lp (by decide), H2, ?_⟩
    dsimp! [e1, z, e2]
    all_goals rfl
  · have z : decide ((r : Int) = 0) = false := decide_eq_false (by omega)
    obtain ⟨r2, h2, hr2, H2, e2⟩ := draw_s g H1 (n := 5) (by omega) (by omega) cs_nil
    by_cases c1 : r2 = 0
    · have z2 : decide ((r2 : Int) = 0) = true := decide_eq_true (by omega)
      obtain ⟨p', h3, mp, H3, e3⟩ := some_s g (l := ODD ++ [nstL 36, nstT 36, FP g, .tup [FP g]]) H2 cs_nil (by simp [ODD]) (by simp [ODD])
      have d0 : ∀ S : Store, mPure (m_L_deep g) [.dat (.int 0)] S = .ok (.dat (nstL 36)) S := fun S => deep_t g (z := 0) (by decide) S
      have d1 : ∀ S : Store, mPure (m_L_deep g) [.dat (.int 1)] S = .ok (.dat (nstT 36)) S := fun S => deep_t g (z := 1) (by decide) S
      have fp := fun S => fp_t g X S
      have ad : ∀ S : Store, aAdd S (.dat (.lst ODD)) (.dat (.lst [nstL 36, nstT 36, FP g, .tup [FP g]])) = some (.dat (.lst (ODD ++ [nstL 36, nstT 36, FP g, .tup [FP g]]))) := fun S => add_ll (by simp [ODD])
      refine ⟨p', h3, more_dp mp, H3, ?_⟩
      dsimp! [e1, z, e2, z2, l1, l4, d0, d1, fp, ad, e3]
      all_goals rfl
    · have z2 : decide ((r2 : Int) = 0) = false := decide_eq_false (by omega)
      refine ⟨p, h2, hp, H2, ?_⟩
      dsimp! [e1, z, e2, z2]
      all_goals rfl
def T5 (g : G) : DS := mFor (mRng1 (mCons (mC (.int 4)) mNil)) (gmName 7) (mSeq (mAsg (mDef 2 (mScope (m_L_spoilt g)) (mCons (mVar 1) (mCons (mVar 6) mNil))) (gmName 6))
      (mIfS (mNotT (mTst (mDef 2 (mPure (m_L_is g 60)) (mCons (mDef 1 (mPure (m_L_told g)) (mCons (mVar 6) mNil)) (mCons (mDef 1 (mPure (m_L_read g)) (mCons (mVar 6) mNil)) mNil))))) (mRet (mC (.bl false))) mNext))
theorem T5_t (g : G) (X : Gx g) {x0 x3 x4 x5 x7 x8 : Option D} {cs : List Nat} (hl : cs.length ≤ 6000) {h : O} (H : Hd h) : Ends (T5 g (G9 x0 x3 x4 x5 (some (tD cs)) x7 x8) [h]) (fun o S' => ∃ (h' : O) (y6 y7 : Option D), Hd h' ∧ S' = [h'] ∧ o = .nx (G9 x0 x3 x4 x5 y6 y7 x8)) := by
  unfold T5
  rw [for_items (rng0_ok (n := 4) (by dsimp! [] <;> rfl) (by decide))]
  refine forL_ends (fun i δ S' => ∃ (ds : List Nat) (h' : O) (y7 : Option D), ds.length ≤ 6000 + 20 * i ∧ Hd h' ∧ S' = [h'] ∧ δ = G9 x0 x3 x4 x5 (some (tD ds)) y7 x8) (i := 0) ⟨cs, h, x7, hl, H, rfl, rfl⟩ ?_ ?_
  · rintro k d δ S' ed ⟨ds, h1, y7, hds, H1, rfl, rfl⟩
    rw [List.getElem?_map] at ed
    have hk : k < 4 := by
      rcases Nat.lt_or_ge k 4 with q | q
      · exact q
      · rw [List.getElem?_eq_none (by rw [List.length_range]; exact q)] at ed; cases ed
    rw [Nat.zero_add] at hds
    obtain ⟨es, h2, hes, H2, e1⟩ := spoilt_s g (cs := ds) (by omega) H1 cs_nil
    have tl_ := fun S => told_t g X (cs := es) (by omega) S
    have rd_ := fun S => L_read_t g (cs := es) (by omega) S
    have is_ := fun S => same_read g X (cs := es) (by omega) S
    obtain ⟨A, hA⟩ : ∃ A, A = toldP (readT es) := ⟨_, rfl⟩
    rw [← hA] at tl_ rd_ is_
    obtain ⟨E0, hE⟩ : ∃ E0, E0 = tD es := ⟨_, rfl⟩
    rw [← hE] at tl_ rd_ e1
    obtain ⟨D0, hD⟩ : ∃ D0, D0 = tD ds := ⟨_, rfl⟩
    rw [← hD] at e1 ⊢
    dsimp! [e1, tl_, rd_, is_]
    exact .of ⟨es, h2, _, by omega, H2, rfl, by rw [hE]⟩
  · rintro δ S' ⟨ds, h', y7, hds, H', rfl, rfl⟩
    exact ⟨h', _, _, H', rfl, rfl⟩
def WR (g : G) : List P := [.non, .int 0, .lst [.str "a"], .tup [.str "a"], .dic [], .bl true, nstL 36, nstT 36, FP g]
theorem wr_no (g : G) (X : Gx g) {p : P} (h : p ∈ WR g) (S : Store) : aIsi g.K g.CS S [.dat p, .dat (.con (.ty "str"))] = some (.dat (.bl false)) := by
  unfold WR at h
  simp only [List.mem_cons, List.not_mem_nil, or_false] at h
  rcases h with rfl | rfl | rfl | rfl | rfl | rfl | rfl | rfl | rfl
  · dsimp! []
  · dsimp! []
  · dsimp! []
  · dsimp! []
  · dsimp! []
  · dsimp! []
  · show aIsi g.K g.CS S [.dat (.lst [nstL 35]), .dat (.con (.ty "str"))] = _; dsimp! []
  · show aIsi g.K g.CS S [.dat (.tup [nstT 35]), .dat (.con (.ty "str"))] = _; dsimp! []
  · exact isi_ins X X.k_Forest_str
def T6 (g : G) : DS := mAsg (mDef 2 (mScope (m_L_some g)) (mCons (mVar 1) (mCons (mFrz (mLst (mCons (mC .non) (mCons (mC (.int 0)) (mCons (mFrz (mLst (mCons (mC (.str "a")) mNil))) (mCons (mTup (mCons (mC (.str "a")) mNil)) (mCons mDnew (mCons (mC (.bl true)) (mCons (mDef 1 (mPure (m_L_deep g)) (mCons (mC (.int 0)) mNil)) (mCons (mDef 1 (mPure (m_L_deep g)) (mCons (mC (.int 1)) mNil)) (mCons (mDef 2 (mPure (mkC g.Forest (m_Forest_init g))) (mCons (mTup (mCons (mC .non) mNil)) (mCons (mTup (mCons (mC (.int 0)) mNil)) mNil))) mNil))))))))))) mNil))) (gmName 8)
theorem T6_t (g : G) (X : Gx g) {x0 x3 x4 x5 x6 x7 x8 : Option D} {h : O} (H : Hd h) : ∃ (p : P) (h' : O), p ∈ WR g ∧ Hd h' ∧ T6 g (G9 x0 x3 x4 x5 x6 x7 x8) [h] = .ok (.nx (G9 x0 x3 x4 x5 x6 x7 (some (.dat p)))) [h'] := by
  have l1 : (1 : Nat) ≤ 100000 := by decide
  have l9 : (9 : Nat) ≤ 100000 := by decide
  have d0 : ∀ S : Store, mPure (m_L_deep g) [.dat (.int 0)] S = .ok (.dat (nstL 36)) S := fun S => deep_t g (z := 0) (by decide) S
  have d1 : ∀ S : Store, mPure (m_L_deep g) [.dat (.int 1)] S = .ok (.dat (nstT 36)) S := fun S => deep_t g (z := 1) (by decide) S
  have fp := fun S => fp_t g X S
  have dn : ∀ (δ : DEnv) (S : Store), mDnew δ S = .ok (.dat (.dic [])) S := fun _ _ => rfl
  obtain ⟨p, h1, mp, H1, e1⟩ := some_s g (l := WR g) H cs_nil (by simp [WR]) (by simp [WR])
  have e1' : mScope (m_L_some g) [.obj 0, .dat (.lst [.non, .int 0, .lst [.str "a"], .tup [.str "a"], .dic [], .bl true, nstL 36, nstT 36, FP g])] [h] = .ok (.dat p) [h1] := e1
  refine ⟨p, h1, mp, H1, ?_⟩
  unfold T6
  dsimp! [l1, l9, d0, d1, fp, dn, e1']
  all_goals rfl
end W3
namespace W3
open PySem PySem.Spec PyProof.Rows L2 M3
def T3 (g : G) : DS := mIfS (mTst (mOp aNe (mDef 1 (mPure (m_L_given g)) (mCons (mVar 4) mNil)) (mIf (mTst (mVar 5)) (mDef 1 (mPure (m_L_written g 70)) (mCons (mVar 4) mNil)) (mC (.str "(NoThing)"))))) (mRet (mC (.bl false))) mNext
def T4 (g : G) : DS := mAsg (mIf (mTst (mVar 5)) (mDef 1 (mPure (m_L_written g 70)) (mCons (mVar 4) mNil)) (mC (.str "(1,(a,-),yes)"))) (gmName 6)
def T4b (g : G) : DS := mIfS (mAndT (mTst (mVar 5)) (mNotT (mTst (mDef 2 (mPure (m_L_is g 60)) (mCons (mDef 1 (mPure (m_L_told g)) (mCons (mVar 6) mNil)) (mCons (mTup (mCons (mC (.str "let")) (mCons (mVar 4) mNil))) mNil)))))) (mRet (mC (.bl false))) mNext
def T7 (g : G) : DS := mIfS (mNotT (mTst (mDef 2 (mPure (m_L_is g 60)) (mCons (mDef 1 (mPure (m_L_told g)) (mCons (mVar 8) mNil)) (mCons (mTup (mCons (mC (.str "bad")) (mCons (mUn aNeg (mC (.int 1))) mNil))) mNil))))) (mRet (mC (.bl false))) mNext
/-- writing, and reading what was written -/
theorem T34_t (g : G) (X : Gx g) {x0 x3 x6 x7 x8 : Option D} {p : P} (hp : DP g p) (S : Store) : ∃ cs : List Nat, cs.length ≤ 6000 ∧ T3 g (G9 x0 x3 (some (.dat p)) (some (.dat (.bl (canF 20 p)))) x6 x7 x8) S = .ok (.nx (G9 x0 x3 (some (.dat p)) (some (.dat (.bl (canF 20 p)))) x6 x7 x8)) S ∧
    T4 g (G9 x0 x3 (some (.dat p)) (some (.dat (.bl (canF 20 p)))) x6 x7 x8) S = .ok (.nx (G9 x0 x3 (some (.dat p)) (some (.dat (.bl (canF 20 p)))) (some (tD cs)) x7 x8)) S ∧
    T4b g (G9 x0 x3 (some (.dat p)) (some (.dat (.bl (canF 20 p)))) (some (tD cs)) x7 x8) S = .ok (.nx (G9 x0 x3 (some (.dat p)) (some (.dat (.bl (canF 20 p)))) (some (tD cs)) x7 x8)) S := by
  obtain ⟨ht, hl⟩ := hp
  have l2 : (2 : Nat) ≤ 100000 := by decide
  have gv := fun S => given_t g X ht (fun q => Nat.le_trans (hl q) (by decide)) S
  unfold givP at gv
  cases c : canF 20 p with
  | true =>
    have hl := hl c
    rw [c, if_pos rfl] at gv
    have wn := canF_wn 20 ht c
    have wt := fun S => L_written_t g 20 wn (by omega) (d := 70) (by decide) S
    have td := fun S => told_t g X (cs := wr 20 p) (by omega) S
    have si := fun S => same_read g X (cs := wr 20 p) (by omega) S
    rw [read_wr wn] at td si
    simp only [toldP] at td si
    have dd : decide (txt (wr 20 p) = txt (wr 20 p)) = true := decide_eq_true rfl
    obtain ⟨W, hW⟩ : ∃ W, W = txt (wr 20 p) := ⟨_, rfl⟩
    refine ⟨wr 20 p, hl, ?_, ?_, ?_⟩
    · unfold T3
      dsimp! [gv, wt, dd]
      all_goals rfl
    · unfold T4
      dsimp! [wt]
      all_goals rfl
    · unfold T4b
      dsimp! [td, si, l2]
      all_goals rfl
  | false =>
    rw [c, if_neg Bool.false_ne_true] at gv
    have dd : decide (("(NoThing)" : Str) = "(NoThing)") = true := decide_eq_true rfl
    refine ⟨("(1,(a,-),yes)" : Str).cps.toList, by decide +kernel, ?_, ?_, ?_⟩
    · unfold T3
      dsimp! [gv, dd]
      all_goals rfl
    · have e : tD ("(1,(a,-),yes)" : Str).cps.toList = .dat (.str "(1,(a,-),yes)") := congrArg (fun z => D.dat (.str z)) (txt_cps _)
      rw [e]
      unfold T4
      dsimp! []
      all_goals rfl
    · unfold T4b
      dsimp! []
      all_goals rfl
theorem T7_t (g : G) (X : Gx g) {x0 x3 x4 x5 x6 x7 : Option D} {p : P} (hp : p ∈ WR g) (S : Store) : T7 g (G9 x0 x3 x4 x5 x6 x7 (some (.dat p))) S = .ok (.nx (G9 x0 x3 x4 x5 x6 x7 (some (.dat p)))) S := by
  have l2 : (2 : Nat) ≤ 100000 := by decide
  have td := fun S => told_no g X (p := p) (fun S => wr_no g X hp S) S
  have ng : ∀ S : Store, aNeg S (.dat (.int 1)) = some (.dat (.int (-1))) := fun _ => rfl
  have si := fun S => is_t g 60 (.tup [.str "bad", .int (-1)]) S (.tup (by simp) fun q m => by
    simp only [List.mem_cons, List.not_mem_nil, or_false] at m
    rcases m with rfl | rfl
    · exact .str
    · exact .int)
  unfold T7
  dsimp! [td, ng, l2, si]
  all_goals rfl
theorem law_true (g : G) (X : Gx g) : ∀ ns : List Int, ns.length ≤ 63 → ∃ S, m_law g [.dat (.scr ns)] [] = .ok (.dat (.bl true)) S := by
  intro ns hn
  obtain ⟨h, H, e0⟩ := hand_a g ns
  suffices z : ∃ d S, m_law g [.dat (.scr ns)] [] = .ok d S ∧ d = .dat (.bl true) from let ⟨d, S, e, z⟩ := z; ⟨S, z ▸ e⟩
  have l0 : (0 : Nat) ≤ 100000 := by decide
  have l1 : (1 : Nat) ≤ 100000 := by decide
  have l2 : (2 : Nat) ≤ 100000 := by decide
  have l14 : (14 : Nat) ≤ 100000 := by decide
  have dn : ∀ (δ : DEnv) (S : Store), mDnew δ S = .ok (.dat (.dic [])) S := fun _ _ => rfl
  have m1 : ∀ S : Store, aMulS S (.dat (.str "a")) (.dat (.int 21)) = some (.dat (.str (repS "a" 21))) := fun S => by
    show (if ((2 : Int) ≤ 21 ∧ (21 : Int) ≤ 1000) ∧ 1 ≤ ("a" : Str).length ∧ ("a" : Str).length ≤ 1000 ∧ (repS "a" (21 : Int).toNat).length ≤ 100000 then some (D.dat (.str (repS "a" (21 : Int).toNat))) else none) = _
    exact if_pos (by decide +kernel)
  obtain ⟨BD, hBD⟩ : ∃ BD : DS, mSeq (mAsg (mDef 2 (mScope (m_L_drawn_thing g 70)) (mCons (mVar 1) (mCons (mC (.int 5)) mNil))) (gmName 4)) (mSeq (T2 g) (mSeq (mAsg (mDef 2 (mPure (m_L_can_be g 70)) (mCons (mVar 4) (mCons (mC (.int 0)) mNil))) (gmName 5)) (mSeq (T3 g) (mSeq (T4 g) (mSeq (T4b g) (mSeq (T5 g) (mSeq (T6 g) (T7 g)))))))) = BD := ⟨_, rfl⟩
  have lw : m_law g = mBody 9 (mSeq (mAsg (mDef 1 (m_L_hand g) (mCons (mVar 0) mNil)) (gmName 1))
      (mSeq (mAsg (mFrz (mLst (mCons (mFrz (mLst mNil)) (mCons (mFrz (mLst (mCons (mC (.int 1)) mNil))) (mCons mDnew (mCons (mC (.str "")) (mCons (mC (.str "A")) (mCons (mC (.str "a b")) (mCons (mC (.str "yes")) (mCons (mC (.str "no")) (mCons (mOp aMulS (mC (.str "a")) (mC (.int 21))) (mCons (mC (.str "a1")) (mCons (mC (.str "-")) (mCons (mTup (mCons (mC (.int 1)) (mCons (mFrz (mLst mNil)) mNil))) (mCons (mTup (mCons (mC (.str "yes")) mNil)) (mCons (mTup (mCons (mTup mNil) (mCons (mTup (mCons (mC (.str "a")) (mCons (mC (.str "B")) mNil))) mNil))) mNil)))))))))))))))) (gmName 2))
      (mSeq (mFor (mRng1 (mCons (mC (.int 8)) mNil)) (gmName 3) BD)
      (mRet (mC (.bl true)))))) := by rw [← hBD]; rfl
  rw [lw, mBody_fin]
  refine fin_ends ?_
  dsimp! [e0, dn, m1, l0, l1, l2, l14]
  rw [for_items (rng0_ok (n := 8) (by dsimp! [] <;> rfl) (by decide))]
  refine then_ends (Q1 := fun o S' => ∃ (h' : O) (x3 x4 x5 x6 x7 x8 : Option D), Hd h' ∧ S' = [h'] ∧ o = .nx (G9 (some (.dat (.scr ns))) x3 x4 x5 x6 x7 x8)) ?_ ?_
  · refine forL_ends (fun i δ S' => ∃ (h' : O) (x3 x4 x5 x6 x7 x8 : Option D), Hd h' ∧ S' = [h'] ∧ δ = G9 (some (.dat (.scr ns))) x3 x4 x5 x6 x7 x8) (i := 0) ⟨h, none, none, none, none, none, none, H, rfl, rfl⟩ ?_ ?_
    · rintro k d δ S' ed ⟨h1, x3, x4, x5, x6, x7, x8, H1, rfl, rfl⟩
      have g3 : gmName 3 d (G9 (some (.dat (.scr ns))) x3 x4 x5 x6 x7 x8) [h1] = .ok (G9 (some (.dat (.scr ns))) (some d) x4 x5 x6 x7 x8) [h1] := rfl
      rw [g3, R.st_ok, ← hBD]
      obtain ⟨p0, h2, lp0, H2, e2⟩ := drawn_s g 5 (d := 70) (by decide) H1 cs_nil
      have a1 : mAsg (mDef 2 (mScope (m_L_drawn_thing g 70)) (mCons (mVar 1) (mCons (mC (.int 5)) mNil))) (gmName 4) (G9 (some (.dat (.scr ns))) (some d) x4 x5 x6 x7 x8) [h1] = .ok (.nx (G9 (some (.dat (.scr ns))) (some d) (some (.dat p0)) x5 x6 x7 x8)) [h2] := by
        dsimp! [show mScope (m_L_drawn_thing g 70) [.obj 0, .dat (.int 5)] [h1] = .ok (.dat p0) [h2] from e2]
        all_goals rfl
      rw [seqN a1]
      obtain ⟨p, h3, hp, H3, a2⟩ := T2_t g X (x0 := some (.dat (.scr ns))) (x3 := some d) (x5 := x5) (x6 := x6) (x7 := x7) (x8 := x8) H2 (dp_lf lp0 (by decide))
      rw [seqN a2]
      have cn : ∀ S, mPure (m_L_can_be g 70) [.dat p, .dat (.int 0)] S = .ok (.dat (.bl (canF 20 p))) S := fun S => L_can_t g X 20 (by decide) hp.1 (d := 70) (by decide) S
      have a3 : mAsg (mDef 2 (mPure (m_L_can_be g 70)) (mCons (mVar 4) (mCons (mC (.int 0)) mNil))) (gmName 5) (G9 (some (.dat (.scr ns))) (some d) (some (.dat p)) x5 x6 x7 x8) [h3] = .ok (.nx (G9 (some (.dat (.scr ns))) (some d) (some (.dat p)) (some (.dat (.bl (canF 20 p)))) x6 x7 x8)) [h3] := by
        dsimp! [cn]
        all_goals rfl
      rw [seqN a3]
      obtain ⟨cs, hcs, a4, a5, a6⟩ := T34_t g X (x0 := some (.dat (.scr ns))) (x3 := some d) (x6 := x6) (x7 := x7) (x8 := x8) hp [h3]
      rw [seqN a4, seqN a5, seqN a6]
      obtain ⟨o, S5, a7, h4, y6, y7, H4, rfl, rfl⟩ := T5_t g X (x0 := some (.dat (.scr ns))) (x3 := some d) (x4 := some (.dat p)) (x5 := some (.dat (.bl (canF 20 p)))) (x7 := x7) (x8 := x8) hcs H3
      rw [seqN a7]
      obtain ⟨q, h5, hq, H5, a8⟩ := T6_t g X (x0 := some (.dat (.scr ns))) (x3 := some d) (x4 := some (.dat p)) (x5 := some (.dat (.bl (canF 20 p)))) (x6 := y6) (x7 := y7) (x8 := x8) H4
      rw [seqN a8, T7_t g X hq]
      exact .of ⟨h5, _, _, _, _, _, _, H5, rfl, rfl⟩
    · rintro δ S' ⟨h1, x3, x4, x5, x6, x7, x8, H1, rfl, rfl⟩
      exact ⟨h1, _, _, _, _, _, _, H1, rfl, rfl⟩
  · rintro o S' ⟨h1, x3, x4, x5, x6, x7, x8, H1, rfl, rfl⟩
    dsimp! []
    exact .of ⟨_, rfl, rfl⟩
end W3
namespace W3
open PySem PySem.Spec PyProof.Rows L2 M3
section
variable {P : Program} {w : World} {g : G} {mg : Str → Option Value} {base : Heap} {f_eBadForest f_eNoThing f_eBadThing f_iForest : Addr}
theorem ok_all (T : Txt mg) (Z : Fx g w mg f_eBadForest f_eNoThing f_eBadThing f_iForest) (GX : Gx g) {fd_Forest_init : FuncData} (FN_Forest_init : Fun g.K "__init__" "Forest.__init__" s_Forest_init f_iForest fd_Forest_init) (B_Forest_init : Binds g.K fd_Forest_init ["self", "parents", "worths"] []) {f0 : Addr} {fd0 : FuncData} (FL : Fun g.K "law" "law" s_law f0 fd0) (D_is_integer : M3.Def g.K mg "is_integer" s_is_integer ["thing"]) (D_come_to_roots : M3.Def g.K mg "come_to_roots" s_come_to_roots ["parents"]) (D_is_word : M3.Def g.K mg "is_word" s_is_word ["most", "thing"]) (D_read_parts : M3.Def g.K mg "_read_parts" s_read_parts ["text", "place", "deep"]) (D_end_of : M3.Def g.K mg "_end_of" s_end_of ["text", "place", "signs"]) (D_L_hand : M3.Def g.K mg "_law_hand" s_L_hand ["script"]) (D_L_draw : M3.Def g.K mg "_law_draw" s_L_draw ["hand", "many"]) (D_L_deep : M3.Def g.K mg "_law_deep" s_L_deep ["kind"]) (D_L_token : M3.Def g.K mg "_law_token" s_L_token ["text", "at"]) (D_L_item : M3.Def g.K mg "_law_item" s_L_item ["word"]) (D_is_between : M3.Def g.K mg "is_between" s_is_between ["least", "most", "thing"]) (D_are_worths : M3.Def g.K mg "_are_worths" s_are_worths ["thing", "houses"]) (D_read_behind_minus : M3.Def g.K mg "_read_behind_minus" s_read_behind_minus ["text", "place"]) (D_L_some : M3.Def g.K mg "_law_some" s_L_some ["hand", "things"]) (D_L_read : M3.Def g.K mg "_law_read" s_L_read ["text"]) (D_is_house : M3.Def g.K mg "is_house" s_is_house ["many", "thing"]) (D_is_many : M3.Def g.K mg "is_many" s_is_many ["thing"]) (D_L_nested : M3.Def g.K mg "_law_nested" s_L_nested ["hand", "most"]) (D_L_spoilt : M3.Def g.K mg "_law_spoilt" s_L_spoilt ["hand", "text"]) (D_are_parents : M3.Def g.K mg "_are_parents" s_are_parents ["thing"]) (D_read_thing_at : M3.Def g.K mg "_read_thing_at" s_read_thing_at ["text", "place", "deep"]) (D_read_thing : M3.Def g.K mg "read_thing" s_read_thing ["text"]) (D_L_told : M3.Def g.K mg "_law_told" s_L_told ["text"]) (D_L_is : M3.Def g.K mg "_law_is" s_L_is ["told", "due"]) (D_text_of : M3.Def g.K mg "_text_of" s_text_of ["thing"]) (D_L_written : M3.Def g.K mg "_law_written" s_L_written ["thing"]) (D_L_can_be : M3.Def g.K mg "_law_can_be" s_L_can_be ["thing", "deep"]) (D_can_be_written : M3.Def g.K mg "_can_be_written" s_can_be_written ["thing", "deep"]) (D_written : M3.Def g.K mg "written" s_written ["thing"]) (D_L_drawn_thing : M3.Def g.K mg "_law_drawn_thing" s_L_drawn_thing ["hand", "deep"]) (D_L_given : M3.Def g.K mg "_law_given" s_L_given ["thing"])  : FnOk P w g.K mg base (L2.CX P w) 75 f0 fd0 ["script"] (spLaw g.K) := by
  have C_is_integer := ok_is_integer (P := P) (w := w) (base := base) D_is_integer T Z
  have C_come_to_roots := ok_come_to_roots (P := P) (w := w) (base := base) D_come_to_roots T Z
  have C_is_word := ok_is_word (P := P) (w := w) (base := base) D_is_word T Z
  have C_end_of := ok_end_of (P := P) (w := w) (base := base) D_end_of T Z
  have C_L_hand := ok_L_hand (P := P) (w := w) (base := base) D_L_hand T Z
  have C_L_draw := ok_L_draw (P := P) (w := w) (base := base) D_L_draw T Z
  have C_L_deep := ok_L_deep (P := P) (w := w) (base := base) D_L_deep T Z
  have C_L_token := ok_L_token (P := P) (w := w) (base := base) D_L_token T Z
  have C_L_item := ok_L_item (P := P) (w := w) (base := base) D_L_item T Z
  have C_is_between := ok_is_between (P := P) (w := w) (base := base) D_is_between T Z C_is_integer
  have C_are_worths := ok_are_worths (P := P) (w := w) (base := base) D_are_worths T Z C_is_integer
  have C_read_behind_minus := ok_read_behind_minus (P := P) (w := w) (base := base) D_read_behind_minus T Z C_end_of
  have C_L_some := ok_L_some (P := P) (w := w) (base := base) D_L_some T Z C_L_draw
  have C_L_read := ok_L_read (P := P) (w := w) (base := base) D_L_read T Z C_L_item C_L_token
  have C_is_house := ok_is_house (P := P) (w := w) (base := base) D_is_house T Z C_is_between
  have C_is_many := ok_is_many (P := P) (w := w) (base := base) D_is_many T Z C_is_between
  have C_L_nested := ok_L_nested (P := P) (w := w) (base := base) D_L_nested T Z C_L_draw C_L_some
  have C_L_spoilt := ok_L_spoilt (P := P) (w := w) (base := base) D_L_spoilt T Z C_L_some C_L_draw
  have C_are_parents := ok_are_parents (P := P) (w := w) (base := base) D_are_parents T Z C_come_to_roots C_is_house C_is_many
  have F_Forest_init := (ok_Forest_init (P := P) (w := w) (base := base) FN_Forest_init T Z C_are_worths C_are_parents)
  have C_read_thing_at := ok_read_thing_at (P := P) (w := w) (base := base) D_read_thing_at T Z C_end_of C_read_behind_minus D_read_parts 21
  have C_read_thing := ok_read_thing (P := P) (w := w) (base := base) D_read_thing T Z C_read_thing_at
  have C_L_told := ok_L_told (P := P) (w := w) (base := base) D_L_told T Z C_read_thing
  have C_L_is := ok_L_is (P := P) (w := w) (base := base) D_L_is T Z 60
  have C_text_of := ok_text_of (P := P) (w := w) (base := base) D_text_of T Z 70
  have C_L_written := ok_L_written (P := P) (w := w) (base := base) D_L_written T Z 70
  have C_L_can_be := ok_L_can_be (P := P) (w := w) (base := base) D_L_can_be T Z 70
  have C_can_be_written := ok_can_be_written (P := P) (w := w) (base := base) D_can_be_written T Z C_is_word 70
  have C_written := ok_written (P := P) (w := w) (base := base) D_written T Z C_text_of C_can_be_written
  have C_L_drawn_thing := ok_L_drawn_thing (P := P) (w := w) (base := base) D_L_drawn_thing T Z C_L_some C_L_draw 70
  have C_L_given := ok_L_given (P := P) (w := w) (base := base) D_L_given T Z C_written
  exact (ok_law FL T Z C_L_is C_L_told C_L_some F_Forest_init B_Forest_init C_L_deep C_L_read C_L_spoilt C_L_written C_L_given C_L_can_be C_L_draw C_L_nested C_L_drawn_thing C_L_hand).imp fun vs H Q E h => law_sp (law_true g GX) vs H Q E h
end
def mkG (K : PySem.W.Frag) : G := { K := K, CS := [(He.ga K "Forest")], FL := [((He.ga K "Forest"), ("parents" : Str)), ((He.ga K "Forest"), ("worths" : Str))], ForestError := (He.ga K "ForestError"), BadForest := (He.ga K "BadForest"), NoHouse := 0, NoDeed := 0, BadDeeds := 0, NoNumber := 0, NoAsk := 0, NoShape := 0, NoTurn := 0, BadAccount := 0, NoMoment := 0, NoWeight := 0, Full := 0, BadHistory := 0, NoParcel := 0, NoRow := 0, BadRow := 0, NoCut := 0, NoBlocks := 0, NoDisk := 0, OtherForest := 0, NoThing := (He.ga K "NoThing"), BadThing := (He.ga K "BadThing"), BadText := 0, NothingDone := 0, NoLine := 0, NoName := 0, Forest := (He.ga K "Forest"), Stand := 0, Kept := 0, Account := 0, Roads := 0, History := 0, Disk := 0, SavedKept := 0, Reel := 0, Work := 0, Desk := 0, FORMS := 0, FORMS_asks := 0, FORMS_deeds := 0, FORMS_histories := 0, CONSTANTS := 0, FLAGS := (He.ga K "FLAGS"), OF_FORESTS := 0, OF_ACCOUNTS := 0 }
theorem facts {P : Program} {w : World} {K : PySem.W.Frag} {h : Heap} {mg : Str → Option Value} {fa : Addr} (X : K.In h) (G : h.Ns mainGlobals mg) (hfa : mg "law" = some (.ref fa)) (c : He.SaysX hFa hFn hTs hTf hEx w h K) :
    ∃ fd : FuncData, (∀ (s : Shared) (v : Value), BindsTo s fd ⟨[v], []⟩ [("script", v)]) ∧ ∀ base : Heap, K.In base → base.Ns mainGlobals mg → FnOk P w K mg base (L2.CX P w) 75 fa fd ["script"] (spLaw K) := by
  have cd := c.t.d
  have ck : ∀ (i : Nat) {b : Bool}, (hCk K)[i]? = some b → b = true := fun i b e => all_at c.more i e
  obtain ⟨fd_Forest_init, FD_Forest_init⟩ : ∃ fd, FunD K "__init__" "Forest.__init__" (defArgs s_Forest_init) (defBody s_Forest_init) (defScope s_Forest_init) [] [] (He.ma K (He.ga K "Forest") "__init__") fd := cd.def_ 32 (d := ⟨("Forest", some "__init__"), "__init__", "Forest.__init__", defArgs s_Forest_init, defBody s_Forest_init, defScope s_Forest_init, [], []⟩) rfl
  have FN_Forest_init := fun_ofD FD_Forest_init
  have B_Forest_init := FN_Forest_init.binds (ps := ["self", "parents", "worths"]) fun _ _ _ _ _ _ us hl => match us, hl with | [_, _, _], _ => rfl
  have D_is_integer : M3.Def K mg "is_integer" s_is_integer ["thing"] := by
    obtain ⟨fd, FD⟩ : ∃ fd, FunD K "is_integer" "is_integer" (defArgs s_is_integer) (defBody s_is_integer) (defScope s_is_integer) [] [] (He.ga K "is_integer") fd := cd.def_ 0 (d := ⟨("is_integer", none), "is_integer", "is_integer", defArgs s_is_integer, defBody s_is_integer, defScope s_is_integer, [], []⟩) rfl
    exact def_ofD (h := h) FD (He.glo_ok X G (cd.fact 6 (f := .glo "is_integer") rfl)) fun _ _ _ _ _ _ us hl => match us, hl with | [_], _ => rfl
  have D_come_to_roots : M3.Def K mg "come_to_roots" s_come_to_roots ["parents"] := by
    obtain ⟨fd, FD⟩ : ∃ fd, FunD K "come_to_roots" "come_to_roots" (defArgs s_come_to_roots) (defBody s_come_to_roots) (defScope s_come_to_roots) [] [] (He.ga K "come_to_roots") fd := cd.def_ 1 (d := ⟨("come_to_roots", none), "come_to_roots", "come_to_roots", defArgs s_come_to_roots, defBody s_come_to_roots, defScope s_come_to_roots, [], []⟩) rfl
    exact def_ofD (h := h) FD (He.glo_ok X G (cd.fact 7 (f := .glo "come_to_roots") rfl)) fun _ _ _ _ _ _ us hl => match us, hl with | [_], _ => rfl
  have D_is_word : M3.Def K mg "is_word" s_is_word ["most", "thing"] := by
    obtain ⟨fd, FD⟩ : ∃ fd, FunD K "is_word" "is_word" (defArgs s_is_word) (defBody s_is_word) (defScope s_is_word) [] [] (He.ga K "is_word") fd := cd.def_ 2 (d := ⟨("is_word", none), "is_word", "is_word", defArgs s_is_word, defBody s_is_word, defScope s_is_word, [], []⟩) rfl
    exact def_ofD (h := h) FD (He.glo_ok X G (cd.fact 8 (f := .glo "is_word") rfl)) fun _ _ _ _ _ _ us hl => match us, hl with | [_, _], _ => rfl
  have D_read_parts : M3.Def K mg "_read_parts" s_read_parts ["text", "place", "deep"] := by
    obtain ⟨fd, FD⟩ : ∃ fd, FunD K "_read_parts" "_read_parts" (defArgs s_read_parts) (defBody s_read_parts) (defScope s_read_parts) [] [] (He.ga K "_read_parts") fd := cd.def_ 3 (d := ⟨("_read_parts", none), "_read_parts", "_read_parts", defArgs s_read_parts, defBody s_read_parts, defScope s_read_parts, [], []⟩) rfl
    exact def_ofD (h := h) FD (He.glo_ok X G (cd.fact 9 (f := .glo "_read_parts") rfl)) fun _ _ _ _ _ _ us hl => match us, hl with | [_, _, _], _ => rfl
  have D_end_of : M3.Def K mg "_end_of" s_end_of ["text", "place", "signs"] := by
    obtain ⟨fd, FD⟩ : ∃ fd, FunD K "_end_of" "_end_of" (defArgs s_end_of) (defBody s_end_of) (defScope s_end_of) [] [] (He.ga K "_end_of") fd := cd.def_ 4 (d := ⟨("_end_of", none), "_end_of", "_end_of", defArgs s_end_of, defBody s_end_of, defScope s_end_of, [], []⟩) rfl
    exact def_ofD (h := h) FD (He.glo_ok X G (cd.fact 10 (f := .glo "_end_of") rfl)) fun _ _ _ _ _ _ us hl => match us, hl with | [_, _, _], _ => rfl
  have D_L_hand : M3.Def K mg "_law_hand" s_L_hand ["script"] := by
    obtain ⟨fd, FD⟩ : ∃ fd, FunD K "_law_hand" "_law_hand" (defArgs s_L_hand) (defBody s_L_hand) (defScope s_L_hand) [] [] (He.ga K "_law_hand") fd := cd.def_ 5 (d := ⟨("_law_hand", none), "_law_hand", "_law_hand", defArgs s_L_hand, defBody s_L_hand, defScope s_L_hand, [], []⟩) rfl
    exact def_ofD (h := h) FD (He.glo_ok X G (cd.fact 11 (f := .glo "_law_hand") rfl)) fun _ _ _ _ _ _ us hl => match us, hl with | [_], _ => rfl
  have D_L_draw : M3.Def K mg "_law_draw" s_L_draw ["hand", "many"] := by
    obtain ⟨fd, FD⟩ : ∃ fd, FunD K "_law_draw" "_law_draw" (defArgs s_L_draw) (defBody s_L_draw) (defScope s_L_draw) [] [] (He.ga K "_law_draw") fd := cd.def_ 6 (d := ⟨("_law_draw", none), "_law_draw", "_law_draw", defArgs s_L_draw, defBody s_L_draw, defScope s_L_draw, [], []⟩) rfl
    exact def_ofD (h := h) FD (He.glo_ok X G (cd.fact 12 (f := .glo "_law_draw") rfl)) fun _ _ _ _ _ _ us hl => match us, hl with | [_, _], _ => rfl
  have D_L_deep : M3.Def K mg "_law_deep" s_L_deep ["kind"] := by
    obtain ⟨fd, FD⟩ : ∃ fd, FunD K "_law_deep" "_law_deep" (defArgs s_L_deep) (defBody s_L_deep) (defScope s_L_deep) [] [] (He.ga K "_law_deep") fd := cd.def_ 7 (d := ⟨("_law_deep", none), "_law_deep", "_law_deep", defArgs s_L_deep, defBody s_L_deep, defScope s_L_deep, [], []⟩) rfl
    exact def_ofD (h := h) FD (He.glo_ok X G (cd.fact 13 (f := .glo "_law_deep") rfl)) fun _ _ _ _ _ _ us hl => match us, hl with | [_], _ => rfl
  have D_L_token : M3.Def K mg "_law_token" s_L_token ["text", "at"] := by
    obtain ⟨fd, FD⟩ : ∃ fd, FunD K "_law_token" "_law_token" (defArgs s_L_token) (defBody s_L_token) (defScope s_L_token) [] [] (He.ga K "_law_token") fd := cd.def_ 8 (d := ⟨("_law_token", none), "_law_token", "_law_token", defArgs s_L_token, defBody s_L_token, defScope s_L_token, [], []⟩) rfl
    exact def_ofD (h := h) FD (He.glo_ok X G (cd.fact 14 (f := .glo "_law_token") rfl)) fun _ _ _ _ _ _ us hl => match us, hl with | [_, _], _ => rfl
  have D_L_item : M3.Def K mg "_law_item" s_L_item ["word"] := by
    obtain ⟨fd, FD⟩ : ∃ fd, FunD K "_law_item" "_law_item" (defArgs s_L_item) (defBody s_L_item) (defScope s_L_item) [] [] (He.ga K "_law_item") fd := cd.def_ 9 (d := ⟨("_law_item", none), "_law_item", "_law_item", defArgs s_L_item, defBody s_L_item, defScope s_L_item, [], []⟩) rfl
    exact def_ofD (h := h) FD (He.glo_ok X G (cd.fact 15 (f := .glo "_law_item") rfl)) fun _ _ _ _ _ _ us hl => match us, hl with | [_], _ => rfl
  have D_is_between : M3.Def K mg "is_between" s_is_between ["least", "most", "thing"] := by
    obtain ⟨fd, FD⟩ : ∃ fd, FunD K "is_between" "is_between" (defArgs s_is_between) (defBody s_is_between) (defScope s_is_between) [] [] (He.ga K "is_between") fd := cd.def_ 10 (d := ⟨("is_between", none), "is_between", "is_between", defArgs s_is_between, defBody s_is_between, defScope s_is_between, [], []⟩) rfl
    exact def_ofD (h := h) FD (He.glo_ok X G (cd.fact 16 (f := .glo "is_between") rfl)) fun _ _ _ _ _ _ us hl => match us, hl with | [_, _, _], _ => rfl
  have D_are_worths : M3.Def K mg "_are_worths" s_are_worths ["thing", "houses"] := by
    obtain ⟨fd, FD⟩ : ∃ fd, FunD K "_are_worths" "_are_worths" (defArgs s_are_worths) (defBody s_are_worths) (defScope s_are_worths) [] [] (He.ga K "_are_worths") fd := cd.def_ 11 (d := ⟨("_are_worths", none), "_are_worths", "_are_worths", defArgs s_are_worths, defBody s_are_worths, defScope s_are_worths, [], []⟩) rfl
    exact def_ofD (h := h) FD (He.glo_ok X G (cd.fact 17 (f := .glo "_are_worths") rfl)) fun _ _ _ _ _ _ us hl => match us, hl with | [_, _], _ => rfl
  have D_read_behind_minus : M3.Def K mg "_read_behind_minus" s_read_behind_minus ["text", "place"] := by
    obtain ⟨fd, FD⟩ : ∃ fd, FunD K "_read_behind_minus" "_read_behind_minus" (defArgs s_read_behind_minus) (defBody s_read_behind_minus) (defScope s_read_behind_minus) [] [] (He.ga K "_read_behind_minus") fd := cd.def_ 12 (d := ⟨("_read_behind_minus", none), "_read_behind_minus", "_read_behind_minus", defArgs s_read_behind_minus, defBody s_read_behind_minus, defScope s_read_behind_minus, [], []⟩) rfl
    exact def_ofD (h := h) FD (He.glo_ok X G (cd.fact 18 (f := .glo "_read_behind_minus") rfl)) fun _ _ _ _ _ _ us hl => match us, hl with | [_, _], _ => rfl
  have D_L_some : M3.Def K mg "_law_some" s_L_some ["hand", "things"] := by
    obtain ⟨fd, FD⟩ : ∃ fd, FunD K "_law_some" "_law_some" (defArgs s_L_some) (defBody s_L_some) (defScope s_L_some) [] [] (He.ga K "_law_some") fd := cd.def_ 13 (d := ⟨("_law_some", none), "_law_some", "_law_some", defArgs s_L_some, defBody s_L_some, defScope s_L_some, [], []⟩) rfl
    exact def_ofD (h := h) FD (He.glo_ok X G (cd.fact 19 (f := .glo "_law_some") rfl)) fun _ _ _ _ _ _ us hl => match us, hl with | [_, _], _ => rfl
  have D_L_read : M3.Def K mg "_law_read" s_L_read ["text"] := by
    obtain ⟨fd, FD⟩ : ∃ fd, FunD K "_law_read" "_law_read" (defArgs s_L_read) (defBody s_L_read) (defScope s_L_read) [] [] (He.ga K "_law_read") fd := cd.def_ 14 (d := ⟨("_law_read", none), "_law_read", "_law_read", defArgs s_L_read, defBody s_L_read, defScope s_L_read, [], []⟩) rfl
    exact def_ofD (h := h) FD (He.glo_ok X G (cd.fact 20 (f := .glo "_law_read") rfl)) fun _ _ _ _ _ _ us hl => match us, hl with | [_], _ => rfl
  have D_is_house : M3.Def K mg "is_house" s_is_house ["many", "thing"] := by
    obtain ⟨fd, FD⟩ : ∃ fd, FunD K "is_house" "is_house" (defArgs s_is_house) (defBody s_is_house) (defScope s_is_house) [] [] (He.ga K "is_house") fd := cd.def_ 15 (d := ⟨("is_house", none), "is_house", "is_house", defArgs s_is_house, defBody s_is_house, defScope s_is_house, [], []⟩) rfl
    exact def_ofD (h := h) FD (He.glo_ok X G (cd.fact 21 (f := .glo "is_house") rfl)) fun _ _ _ _ _ _ us hl => match us, hl with | [_, _], _ => rfl
  have D_is_many : M3.Def K mg "is_many" s_is_many ["thing"] := by
    obtain ⟨fd, FD⟩ : ∃ fd, FunD K "is_many" "is_many" (defArgs s_is_many) (defBody s_is_many) (defScope s_is_many) [] [] (He.ga K "is_many") fd := cd.def_ 16 (d := ⟨("is_many", none), "is_many", "is_many", defArgs s_is_many, defBody s_is_many, defScope s_is_many, [], []⟩) rfl
    exact def_ofD (h := h) FD (He.glo_ok X G (cd.fact 22 (f := .glo "is_many") rfl)) fun _ _ _ _ _ _ us hl => match us, hl with | [_], _ => rfl
  have D_L_nested : M3.Def K mg "_law_nested" s_L_nested ["hand", "most"] := by
    obtain ⟨fd, FD⟩ : ∃ fd, FunD K "_law_nested" "_law_nested" (defArgs s_L_nested) (defBody s_L_nested) (defScope s_L_nested) [] [] (He.ga K "_law_nested") fd := cd.def_ 17 (d := ⟨("_law_nested", none), "_law_nested", "_law_nested", defArgs s_L_nested, defBody s_L_nested, defScope s_L_nested, [], []⟩) rfl
    exact def_ofD (h := h) FD (He.glo_ok X G (cd.fact 23 (f := .glo "_law_nested") rfl)) fun _ _ _ _ _ _ us hl => match us, hl with | [_, _], _ => rfl
  have D_L_spoilt : M3.Def K mg "_law_spoilt" s_L_spoilt ["hand", "text"] := by
    obtain ⟨fd, FD⟩ : ∃ fd, FunD K "_law_spoilt" "_law_spoilt" (defArgs s_L_spoilt) (defBody s_L_spoilt) (defScope s_L_spoilt) [] [] (He.ga K "_law_spoilt") fd := cd.def_ 18 (d := ⟨("_law_spoilt", none), "_law_spoilt", "_law_spoilt", defArgs s_L_spoilt, defBody s_L_spoilt, defScope s_L_spoilt, [], []⟩) rfl
    exact def_ofD (h := h) FD (He.glo_ok X G (cd.fact 24 (f := .glo "_law_spoilt") rfl)) fun _ _ _ _ _ _ us hl => match us, hl with | [_, _], _ => rfl
  have D_are_parents : M3.Def K mg "_are_parents" s_are_parents ["thing"] := by
    obtain ⟨fd, FD⟩ : ∃ fd, FunD K "_are_parents" "_are_parents" (defArgs s_are_parents) (defBody s_are_parents) (defScope s_are_parents) [] [] (He.ga K "_are_parents") fd := cd.def_ 19 (d := ⟨("_are_parents", none), "_are_parents", "_are_parents", defArgs s_are_parents, defBody s_are_parents, defScope s_are_parents, [], []⟩) rfl
    exact def_ofD (h := h) FD (He.glo_ok X G (cd.fact 25 (f := .glo "_are_parents") rfl)) fun _ _ _ _ _ _ us hl => match us, hl with | [_], _ => rfl
  have D_read_thing_at : M3.Def K mg "_read_thing_at" s_read_thing_at ["text", "place", "deep"] := by
    obtain ⟨fd, FD⟩ : ∃ fd, FunD K "_read_thing_at" "_read_thing_at" (defArgs s_read_thing_at) (defBody s_read_thing_at) (defScope s_read_thing_at) [] [] (He.ga K "_read_thing_at") fd := cd.def_ 20 (d := ⟨("_read_thing_at", none), "_read_thing_at", "_read_thing_at", defArgs s_read_thing_at, defBody s_read_thing_at, defScope s_read_thing_at, [], []⟩) rfl
    exact def_ofD (h := h) FD (He.glo_ok X G (cd.fact 26 (f := .glo "_read_thing_at") rfl)) fun _ _ _ _ _ _ us hl => match us, hl with | [_, _, _], _ => rfl
  have D_read_thing : M3.Def K mg "read_thing" s_read_thing ["text"] := by
    obtain ⟨fd, FD⟩ : ∃ fd, FunD K "read_thing" "read_thing" (defArgs s_read_thing) (defBody s_read_thing) (defScope s_read_thing) [] [] (He.ga K "read_thing") fd := cd.def_ 21 (d := ⟨("read_thing", none), "read_thing", "read_thing", defArgs s_read_thing, defBody s_read_thing, defScope s_read_thing, [], []⟩) rfl
    exact def_ofD (h := h) FD (He.glo_ok X G (cd.fact 27 (f := .glo "read_thing") rfl)) fun _ _ _ _ _ _ us hl => match us, hl with | [_], _ => rfl
  have D_L_told : M3.Def K mg "_law_told" s_L_told ["text"] := by
    obtain ⟨fd, FD⟩ : ∃ fd, FunD K "_law_told" "_law_told" (defArgs s_L_told) (defBody s_L_told) (defScope s_L_told) [] [] (He.ga K "_law_told") fd := cd.def_ 22 (d := ⟨("_law_told", none), "_law_told", "_law_told", defArgs s_L_told, defBody s_L_told, defScope s_L_told, [], []⟩) rfl
    exact def_ofD (h := h) FD (He.glo_ok X G (cd.fact 28 (f := .glo "_law_told") rfl)) fun _ _ _ _ _ _ us hl => match us, hl with | [_], _ => rfl
  have D_L_is : M3.Def K mg "_law_is" s_L_is ["told", "due"] := by
    obtain ⟨fd, FD⟩ : ∃ fd, FunD K "_law_is" "_law_is" (defArgs s_L_is) (defBody s_L_is) (defScope s_L_is) [] [] (He.ga K "_law_is") fd := cd.def_ 23 (d := ⟨("_law_is", none), "_law_is", "_law_is", defArgs s_L_is, defBody s_L_is, defScope s_L_is, [], []⟩) rfl
    exact def_ofD (h := h) FD (He.glo_ok X G (cd.fact 29 (f := .glo "_law_is") rfl)) fun _ _ _ _ _ _ us hl => match us, hl with | [_, _], _ => rfl
  have D_text_of : M3.Def K mg "_text_of" s_text_of ["thing"] := by
    obtain ⟨fd, FD⟩ : ∃ fd, FunD K "_text_of" "_text_of" (defArgs s_text_of) (defBody s_text_of) (defScope s_text_of) [] [] (He.ga K "_text_of") fd := cd.def_ 24 (d := ⟨("_text_of", none), "_text_of", "_text_of", defArgs s_text_of, defBody s_text_of, defScope s_text_of, [], []⟩) rfl
    exact def_ofD (h := h) FD (He.glo_ok X G (cd.fact 30 (f := .glo "_text_of") rfl)) fun _ _ _ _ _ _ us hl => match us, hl with | [_], _ => rfl
  have D_L_written : M3.Def K mg "_law_written" s_L_written ["thing"] := by
    obtain ⟨fd, FD⟩ : ∃ fd, FunD K "_law_written" "_law_written" (defArgs s_L_written) (defBody s_L_written) (defScope s_L_written) [] [] (He.ga K "_law_written") fd := cd.def_ 25 (d := ⟨("_law_written", none), "_law_written", "_law_written", defArgs s_L_written, defBody s_L_written, defScope s_L_written, [], []⟩) rfl
    exact def_ofD (h := h) FD (He.glo_ok X G (cd.fact 31 (f := .glo "_law_written") rfl)) fun _ _ _ _ _ _ us hl => match us, hl with | [_], _ => rfl
  have D_L_can_be : M3.Def K mg "_law_can_be" s_L_can_be ["thing", "deep"] := by
    obtain ⟨fd, FD⟩ : ∃ fd, FunD K "_law_can_be" "_law_can_be" (defArgs s_L_can_be) (defBody s_L_can_be) (defScope s_L_can_be) [] [] (He.ga K "_law_can_be") fd := cd.def_ 26 (d := ⟨("_law_can_be", none), "_law_can_be", "_law_can_be", defArgs s_L_can_be, defBody s_L_can_be, defScope s_L_can_be, [], []⟩) rfl
    exact def_ofD (h := h) FD (He.glo_ok X G (cd.fact 32 (f := .glo "_law_can_be") rfl)) fun _ _ _ _ _ _ us hl => match us, hl with | [_, _], _ => rfl
  have D_can_be_written : M3.Def K mg "_can_be_written" s_can_be_written ["thing", "deep"] := by
    obtain ⟨fd, FD⟩ : ∃ fd, FunD K "_can_be_written" "_can_be_written" (defArgs s_can_be_written) (defBody s_can_be_written) (defScope s_can_be_written) [] [] (He.ga K "_can_be_written") fd := cd.def_ 27 (d := ⟨("_can_be_written", none), "_can_be_written", "_can_be_written", defArgs s_can_be_written, defBody s_can_be_written, defScope s_can_be_written, [], []⟩) rfl
    exact def_ofD (h := h) FD (He.glo_ok X G (cd.fact 33 (f := .glo "_can_be_written") rfl)) fun _ _ _ _ _ _ us hl => match us, hl with | [_, _], _ => rfl
  have D_written : M3.Def K mg "written" s_written ["thing"] := by
    obtain ⟨fd, FD⟩ : ∃ fd, FunD K "written" "written" (defArgs s_written) (defBody s_written) (defScope s_written) [] [] (He.ga K "written") fd := cd.def_ 28 (d := ⟨("written", none), "written", "written", defArgs s_written, defBody s_written, defScope s_written, [], []⟩) rfl
    exact def_ofD (h := h) FD (He.glo_ok X G (cd.fact 34 (f := .glo "written") rfl)) fun _ _ _ _ _ _ us hl => match us, hl with | [_], _ => rfl
  have D_L_drawn_thing : M3.Def K mg "_law_drawn_thing" s_L_drawn_thing ["hand", "deep"] := by
    obtain ⟨fd, FD⟩ : ∃ fd, FunD K "_law_drawn_thing" "_law_drawn_thing" (defArgs s_L_drawn_thing) (defBody s_L_drawn_thing) (defScope s_L_drawn_thing) [] [] (He.ga K "_law_drawn_thing") fd := cd.def_ 29 (d := ⟨("_law_drawn_thing", none), "_law_drawn_thing", "_law_drawn_thing", defArgs s_L_drawn_thing, defBody s_L_drawn_thing, defScope s_L_drawn_thing, [], []⟩) rfl
    exact def_ofD (h := h) FD (He.glo_ok X G (cd.fact 35 (f := .glo "_law_drawn_thing") rfl)) fun _ _ _ _ _ _ us hl => match us, hl with | [_, _], _ => rfl
  have D_L_given : M3.Def K mg "_law_given" s_L_given ["thing"] := by
    obtain ⟨fd, FD⟩ : ∃ fd, FunD K "_law_given" "_law_given" (defArgs s_L_given) (defBody s_L_given) (defScope s_L_given) [] [] (He.ga K "_law_given") fd := cd.def_ 30 (d := ⟨("_law_given", none), "_law_given", "_law_given", defArgs s_L_given, defBody s_L_given, defScope s_L_given, [], []⟩) rfl
    exact def_ofD (h := h) FD (He.glo_ok X G (cd.fact 36 (f := .glo "_law_given") rfl)) fun _ _ _ _ _ _ us hl => match us, hl with | [_], _ => rfl
  have CL_Forest : Cls K (He.ga K "Forest") := He.cls_ok (cd.fact 56 (f := .cls "Forest") rfl)
  obtain ⟨fdX_BadForest, FDX_BadForest⟩ : ∃ fd, FunD K "__init__" "BadForest.__init__" (defArgs s_XBadForest) (defBody s_XBadForest) (defScope s_XBadForest) [] [] (He.ma K (He.ga K "BadForest") "__init__") fd := cd.def_ 33 (d := ⟨("BadForest", some "__init__"), "__init__", "BadForest.__init__", defArgs s_XBadForest, defBody s_XBadForest, defScope s_XBadForest, [], []⟩) rfl
  obtain ⟨oc_BadForest, od_BadForest, dc_BadForest, pm_BadForest, an_BadForest, cdv_BadForest, ct_BadForest, osl_BadForest, xf_BadForest, xcd_BadForest⟩ := kd_ok FDX_BadForest (ck 12 rfl)
  have X_BadForest : PySem.XBadForest.TxtBadForest K mg (He.ga K "BadForest") (He.ma K (He.ga K "BadForest") "__init__") := { gC := He.glo_ok X G (cd.fact 2 (f := .glo "BadForest") rfl), cls := xc_ok (ck 4 rfl), iC := (of_decide_eq_true (ck 5 rfl)), tC := (of_decide_eq_true (ck 6 rfl)), kC := (ck 7 rfl), exC := (of_decide_eq_true (ck 8 rfl)), tyC := (of_decide_eq_true (ck 9 rfl)), te := exm_ab true (of_decide_eq_true (ck 8 rfl)) (ck 10 rfl) (of_decide_eq_true (ck 9 rfl)) (of_decide_eq_true (ck 11 rfl)), sa := (of_decide_eq_true (ck 13 rfl)), ga := (of_decide_eq_true (ck 14 rfl)), gg := (of_decide_eq_true (ck 15 rfl)), noN := (of_decide_eq_true (ck 16 rfl)), hdC := (ck 17 rfl), fn := ⟨oc_BadForest, od_BadForest, dc_BadForest, pm_BadForest, an_BadForest, cdv_BadForest, ct_BadForest, osl_BadForest, _, _, _, _, _, _, xf_BadForest, xcd_BadForest⟩ }
  obtain ⟨fdX_NoThing, FDX_NoThing⟩ : ∃ fd, FunD K "__init__" "NoThing.__init__" (defArgs s_XNoThing) (defBody s_XNoThing) (defScope s_XNoThing) [] [] (He.ma K (He.ga K "NoThing") "__init__") fd := cd.def_ 34 (d := ⟨("NoThing", some "__init__"), "__init__", "NoThing.__init__", defArgs s_XNoThing, defBody s_XNoThing, defScope s_XNoThing, [], []⟩) rfl
  obtain ⟨oc_NoThing, od_NoThing, dc_NoThing, pm_NoThing, an_NoThing, cdv_NoThing, ct_NoThing, osl_NoThing, xf_NoThing, xcd_NoThing⟩ := kd_ok FDX_NoThing (ck 26 rfl)
  have X_NoThing : PySem.XNoThing.TxtNoThing K mg (He.ga K "NoThing") (He.ma K (He.ga K "NoThing") "__init__") := { gC := He.glo_ok X G (cd.fact 3 (f := .glo "NoThing") rfl), cls := xc_ok (ck 18 rfl), iC := (of_decide_eq_true (ck 19 rfl)), tC := (of_decide_eq_true (ck 20 rfl)), kC := (ck 21 rfl), exC := (of_decide_eq_true (ck 22 rfl)), tyC := (of_decide_eq_true (ck 23 rfl)), te := exm_ab true (of_decide_eq_true (ck 22 rfl)) (ck 24 rfl) (of_decide_eq_true (ck 23 rfl)) (of_decide_eq_true (ck 25 rfl)), fn := ⟨oc_NoThing, od_NoThing, dc_NoThing, pm_NoThing, an_NoThing, cdv_NoThing, ct_NoThing, osl_NoThing, _, _, xf_NoThing, xcd_NoThing⟩ }
  obtain ⟨fdX_BadThing, FDX_BadThing⟩ : ∃ fd, FunD K "__init__" "BadThing.__init__" (defArgs s_XBadThing) (defBody s_XBadThing) (defScope s_XBadThing) [] [] (He.ma K (He.ga K "BadThing") "__init__") fd := cd.def_ 35 (d := ⟨("BadThing", some "__init__"), "__init__", "BadThing.__init__", defArgs s_XBadThing, defBody s_XBadThing, defScope s_XBadThing, [], []⟩) rfl
  obtain ⟨oc_BadThing, od_BadThing, dc_BadThing, pm_BadThing, an_BadThing, cdv_BadThing, ct_BadThing, osl_BadThing, xf_BadThing, xcd_BadThing⟩ := kd_ok FDX_BadThing (ck 35 rfl)
  have X_BadThing : PySem.XBadThing.TxtBadThing K mg (He.ga K "BadThing") (He.ma K (He.ga K "BadThing") "__init__") := { gC := He.glo_ok X G (cd.fact 4 (f := .glo "BadThing") rfl), cls := xc_ok (ck 27 rfl), iC := (of_decide_eq_true (ck 28 rfl)), tC := (of_decide_eq_true (ck 29 rfl)), kC := (ck 30 rfl), exC := (of_decide_eq_true (ck 31 rfl)), tyC := (of_decide_eq_true (ck 32 rfl)), te := exm_ab true (of_decide_eq_true (ck 31 rfl)) (ck 33 rfl) (of_decide_eq_true (ck 32 rfl)) (of_decide_eq_true (ck 34 rfl)), sa := (of_decide_eq_true (ck 36 rfl)), ga := (of_decide_eq_true (ck 37 rfl)), gg := (of_decide_eq_true (ck 38 rfl)), noN := (of_decide_eq_true (ck 39 rfl)), hdC := (ck 40 rfl), fn := ⟨oc_BadThing, od_BadThing, dc_BadThing, pm_BadThing, an_BadThing, cdv_BadThing, ct_BadThing, osl_BadThing, _, _, _, _, _, _, xf_BadThing, xcd_BadThing⟩ }
  have T : Txt mg := ⟨He.free_ok X G (cd.fact 38 (f := .free "ValueError") rfl), He.free_ok X G (cd.fact 39 (f := .free "range") rfl), He.free_ok X G (cd.fact 40 (f := .free "all") rfl), He.free_ok X G (cd.fact 41 (f := .free "isinstance") rfl), He.free_ok X G (cd.fact 42 (f := .free "tuple") rfl), He.free_ok X G (cd.fact 43 (f := .free "str") rfl), He.free_ok X G (cd.fact 44 (f := .free "bool") rfl), He.free_ok X G (cd.fact 45 (f := .free "dict") rfl), He.free_ok X G (cd.fact 46 (f := .free "int") rfl), He.free_ok X G (cd.fact 47 (f := .free "len") rfl), He.free_ok X G (cd.fact 48 (f := .free "abs") rfl), He.free_ok X G (cd.fact 49 (f := .free "list") rfl), He.free_ok X G (cd.fact 50 (f := .free "min") rfl), He.int_ok X G (cd.fact 51 (f := .int "MOST_HOUSES" (64)) rfl), He.str_ok X G (cd.fact 52 (f := .str "LETTERS" "abcdefghijklmnopqrstuvwxyz") rfl), He.str_ok X G (cd.fact 53 (f := .str "FIGURES" "0123456789") rfl), He.int_ok X G (cd.fact 54 (f := .int "MOST_SIGNS" (20)) rfl), He.int_ok X G (cd.fact 55 (f := .int "MOST_DEEP" (20)) rfl)⟩
  have GX : Gx (mkG K) := { CS := rfl, FL := rfl, k_Forest_int := (of_decide_eq_true (ck 48 rfl)), k_Forest_bool := (of_decide_eq_true (ck 49 rfl)), k_Forest_tuple := (of_decide_eq_true (ck 50 rfl)), k_Forest_list := (of_decide_eq_true (ck 51 rfl)), k_Forest_str := (of_decide_eq_true (ck 52 rfl)), k_Forest_dict := (of_decide_eq_true (ck 53 rfl)), kk_Forest_Forest := (of_decide_eq_true (ck 54 rfl)), t_NoneType_Forest := (of_decide_eq_true (ck 55 rfl)), t_int_Forest := (of_decide_eq_true (ck 56 rfl)), t_bool_Forest := (of_decide_eq_true (ck 57 rfl)), t_tuple_Forest := (of_decide_eq_true (ck 58 rfl)), t_list_Forest := (of_decide_eq_true (ck 59 rfl)), t_str_Forest := (of_decide_eq_true (ck 60 rfl)), t_dict_Forest := (of_decide_eq_true (ck 61 rfl)), ke_BadThing_ForestError := (of_decide_eq_true (ck 62 rfl)), ke_BadThing_ValueError := (of_decide_eq_true (ck 63 rfl)), ke_NoThing_ForestError := (of_decide_eq_true (ck 64 rfl)), ke_NoThing_ValueError := (of_decide_eq_true (ck 65 rfl)), x_BadForest_BadThing := exm_ab false (of_decide_eq_true (ck 31 rfl)) (ck 33 rfl) (of_decide_eq_true (ck 32 rfl)) (of_decide_eq_true (ck 66 rfl)), x_BadForest_NoThing := exm_ab false (of_decide_eq_true (ck 22 rfl)) (ck 24 rfl) (of_decide_eq_true (ck 23 rfl)) (of_decide_eq_true (ck 67 rfl)), x_NoThing_BadThing := exm_ab false (of_decide_eq_true (ck 31 rfl)) (ck 33 rfl) (of_decide_eq_true (ck 32 rfl)) (of_decide_eq_true (ck 68 rfl)), x_NoThing_NoThing := exm_ab true (of_decide_eq_true (ck 22 rfl)) (ck 24 rfl) (of_decide_eq_true (ck 23 rfl)) (of_decide_eq_true (ck 69 rfl)), x_BadThing_BadThing := exm_ab true (of_decide_eq_true (ck 31 rfl)) (ck 33 rfl) (of_decide_eq_true (ck 32 rfl)) (of_decide_eq_true (ck 70 rfl)), x_BadThing_NoThing := exm_ab false (of_decide_eq_true (ck 22 rfl)) (ck 24 rfl) (of_decide_eq_true (ck 23 rfl)) (of_decide_eq_true (ck 71 rfl)) }
  have Z : Fx (mkG K) w mg (He.ma K (He.ga K "BadForest") "__init__") (He.ma K (He.ga K "NoThing") "__init__") (He.ma K (He.ga K "BadThing") "__init__") (He.ma K (He.ga K "Forest") "__init__") := { CSO := (ownCs_mk (.cons ⟨CL_Forest, (of_decide_eq_true (ck 0 rfl)), (of_decide_eq_true (ck 2 rfl)), (of_decide_eq_true (ck 3 rfl)), (of_decide_eq_true (ck 1 rfl))⟩ (.nil))), FO := (flOk_mk (.cons ⟨CL_Forest, He.noat_ok (cd.fact 58 (f := .noat "Forest" "parents") rfl)⟩ (.cons ⟨CL_Forest, He.noat_ok (cd.fact 59 (f := .noat "Forest" "worths") rfl)⟩ (.nil)))), Forest := He.glo_ok X G (cd.fact 0 (f := .glo "Forest") rfl), mk_Forest := He.mkr_ok (cd.fact 57 (f := .mkr "Forest") rfl), BadForest := X_BadForest, NoThing := X_NoThing, BadThing := X_BadThing, xc_BadThing := ⟨(of_decide_eq_true (ck 37 rfl)), (of_decide_eq_true (ck 38 rfl)), (of_decide_eq_true (ck 31 rfl)), (ck 40 rfl), (of_decide_eq_true (ck 41 rfl)), (of_decide_eq_true (ck 2 rfl)), (of_decide_eq_true (ck 3 rfl)), (of_decide_eq_true (ck 42 rfl))⟩, xc_NoThing := ⟨(of_decide_eq_true (ck 43 rfl)), (of_decide_eq_true (ck 44 rfl)), (of_decide_eq_true (ck 22 rfl)), (ck 45 rfl), (of_decide_eq_true (ck 46 rfl)), (of_decide_eq_true (ck 2 rfl)), (of_decide_eq_true (ck 3 rfl)), (of_decide_eq_true (ck 47 rfl))⟩, FLAGS := ⟨He.glo_ok X G (cd.fact 5 (f := .glo "FLAGS") rfl), tab_ofF (zs := z_FLAGS) (c.t.tab 0 (t := ((fun K => He.ga K "FLAGS"), z_FLAGS.map Prod.fst)) rfl) (ck 72 rfl)⟩, ForestError := He.glo_ok X G (cd.fact 1 (f := .glo "ForestError") rfl) }
  obtain ⟨fdl, FDL⟩ : ∃ fd, FunD K "law" "law" (defArgs s_law) (defBody s_law) (defScope s_law) [] [] (He.ga K "law") fd := cd.def_ 31 (d := ⟨("law", none), "law", "law", defArgs s_law, defBody s_law, defScope s_law, [], []⟩) rfl
  have e := hfa.symm.trans (He.glo_ok X G (cd.fact 37 (f := .glo "law") rfl))
  cases e
  refine ⟨fdl, FunD.bindsA (ps := ["script"]) FDL (fun _ _ _ _ _ _ us hl => match us, hl with | [_], _ => rfl) |> fun b s v => b s [v] rfl, fun base _ _ => ?_⟩
  exact ok_all (P := P) (w := w) (base := base) T Z GX FN_Forest_init B_Forest_init (fun_ofD FDL) D_is_integer D_come_to_roots D_is_word D_read_parts D_end_of D_L_hand D_L_draw D_L_deep D_L_token D_L_item D_is_between D_are_worths D_read_behind_minus D_L_some D_L_read D_is_house D_is_many D_L_nested D_L_spoilt D_are_parents D_read_thing_at D_read_thing D_L_told D_L_is D_text_of D_L_written D_L_can_be D_can_be_written D_written D_L_drawn_thing D_L_given
theorem walkH {l : PySem.W.OpenLaw} {q : Program} {loose : List Str} {XP : (Str → Option Value) → Heap → Prop} {d : DefRec} (hn : l.most = some 63) (hdf : d.params.defaults = []) (hd : d.name = "law") :
    PySem.W.WalkO q loose XP hk.says l.row.toRowW d [] (fun f vs => PySem.call f vs) :=
  LamX.walk_ofTsE (l := l) (n := 63) (k := 75) (x := "script") (CX := fun w => L2.CX l.prog w) hn (by decide) hdf ⟨rfl, by decide, by decide⟩ (fun w mg fa h hy G hmg => by
    obtain ⟨K, KX, c⟩ := hy
    rw [hd] at hmg
    obtain ⟨fd, b, F⟩ := facts (P := l.prog) (w := w) KX G hmg c
    exact ⟨K, KX, fd, [], spLaw K, fun _ m => (nomatch m), fun _ m => (nomatch m), fun _ m => (nomatch m), b, fun H a ns hl _ _ hS => ⟨a, ns, rfl, hS, hl, ⟨fun _ m => (nomatch m), fun _ m => (nomatch m)⟩, fun _ => rfl⟩, fun base k1 k2 _ => F base k1 k2⟩) fun _ _ _ _ _ ⟨_, _, _, _, _, _, _, _, _, _, _, _, z⟩ => z.elim
end W3
open PySem PySem.W PySem.Calls PyProof.Rows in
set_option maxRecDepth 100000 in
set_option maxHeartbeats 0 in
theorem PySem.Challenge.cw_cutlinked_k35_whole_things_written_and_r_holds : PySem.Challenge.rw_cutlinked_k35_whole_things_written_and_r.Holds := by
  w_on; o_law
  refine HandSHeadRun.head_any (r := OpenLaw.row PySem.Challenge.rw_cutlinked_k35_whole_things_written_and_r) (q := view (OpenLaw.row PySem.Challenge.rw_cutlinked_k35_whole_things_written_and_r).prog [47]) (H := W3.hk) (ob := W3.hob) (M := 200000) (loose := W3.hNames) (d := HandSHeadRun.topDef (OpenLaw.row PySem.Challenge.rw_cutlinked_k35_whole_things_written_and_r).prog 47) (kwd := []) W3.hob_eq
    (by kernel_rfl) (fun s => by kernel_rfl) W3.hrun (by kernel_rfl) (by kernel_rfl) (by kernel_rfl) (by rfl) (by first | assumption | decide +kernel) (by decide +kernel) ⟨rfl, rfl, rfl, rfl, rfl, by decide +kernel⟩ ?hw ?hc
  case hw => w_witness2
  case hc => exact W3.walkH rfl rfl rfl
