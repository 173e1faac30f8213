import PyProof.Rows.All
import HandS.Lambda
import Wide.All
import OpenK.AllK
import Wide.FinOn
import HandS.ForMost
import HandS.IsInst
import HandS.Conv
import HandS.Zip
import HandS.Style
import HandS.Wide
import HandS.Codes
import HandS.TupAny
import HandS.TupMul
import HandS.SlotsOwn
import HandS.ForExc
import PyProof.EqLayable
import HandS.WideBits
import HandS.Walk
import HandS.TryOnly
import KE.GoesMore
import HandS.SetFor
import HandS.SortInts
import HandS.StrMore
import HandS.StrSplit
import HandS.RaiseMore
import KE.KDictCopyH
import KE.SortData
import HandS.SortKw
import HandS.Dict
import HandS.Small
import HandS.Head0
import HandS.Head1
import HandS.Head2
import HandS.HeadEnd
import HandS.HeadHook1
import HandS.HeadHook2
import HandS.HeadHook3
import HandS.HeadHook4
import HandS.HeadWalk
import KE.DataMinMax
import KE.DataFind
import HandS.ExcIs
import HandS.CallLocal
import PySem.Challenge.RW_cutlinked_k10_shapes_refused
set_option Elab.async false
set_option linter.all false
set_option maxRecDepth 100000
set_option maxHeartbeats 4000000
namespace M3
open PySem PySem.Spec PyProof.Rows L2
def xcB (K : PySem.W.Frag) (C : Addr) : Bool := match K.lookup C with
  | some ⟨.type t, _, .cls cd, sl⟩ => (match cd.mro, sl.toList with
    | .ref C' :: bm, [_, _, _, _, some (.builtin n), _] => decide (t = "type") && (decide (C' = C) && (decide (n = "ValueError.__new__") && (cd.hasDict && (!cd.hasDel && PySem.HandSPX.refsVE bm))))
    | _, _ => false)
  | _ => false
def kdB (K : PySem.W.Frag) (f : Addr) : Bool := match K.lookup f with
  | some ⟨_, _, .func fd, _⟩ => decide (fd.kwdefaults = .none)
  | _ => false
def obsL (as : List Addr) (fa : List He.Fa) (fn : List He.DefD) (ts : List He.Tab) (tf : List He.Defn) (ex : PySem.W.Frag → Bool) (g : Addr → Option Obj) : He.AlX := (He.obsT fa fn ts (He.frT g as), ex (He.frT g as) && He.tabsB g tf (He.frT g as))
theorem saysL_of {as : List Addr} {fa : List He.Fa} {fn : List He.DefD} {ts : List He.Tab} {tf : List He.Defn} {ex : PySem.W.Frag → Bool} {w : World} {h : Heap} (e : obsL as fa fn ts tf ex h.get? = He.valX fn ts w) : He.SaysX fa fn ts tf ex w h (He.frT h.get? as) := by
  have e1 : He.obsT fa fn ts (He.frT h.get? as) = He.valT fn ts w := congrArg (fun z : He.AlX => z.1) e
  have e2 : (ex (He.frT h.get? as) && He.tabsB h.get? tf (He.frT h.get? as)) = true := congrArg (fun z : He.AlX => z.2) e
  rw [Bool.and_eq_true] at e2
  have key : ∀ p ∈ tf, PySem.W.codeHdIn (He.frT h.get? as) (He.cT (He.frT h.get? as) p).1 (He.cT (He.frT h.get? as) p).2 = true ∧ ∃ o, h.get? (He.cT (He.frT h.get? as) p).2 = some o ∧ He.emptyTab o = true := fun p hp => by
    have h3 := List.all_eq_true.mp e2.2 p hp
    rw [Bool.and_eq_true] at h3
    refine ⟨h3.1, ?_⟩
    have h4 := h3.2
    cases q : h.get? (He.cT (He.frT h.get? as) p).2 with
    | none => rw [q] at h4; cases h4
    | some o => rw [q] at h4; exact ⟨o, rfl, h4⟩
  exact ⟨e1, e2.1, fun p hp => (key p hp).1, fun p hp => let ⟨_, o, q, z⟩ := key p hp; He.frT_none q z, fun p hp => by
    obtain ⟨_, o, q, z⟩ := key p hp
    rw [q, He.emptyTab_eq z]⟩
def hookL (as : List Addr) (fa : List He.Fa) (fn : List He.DefD) (ts : List He.Tab) (tf : List He.Defn) (ex : PySem.W.Frag → Bool) : PySem.W.Hook where
  α := He.AlX
  obs := fun s => obsL as fa fn ts tf ex s.heap.get?
  val := fun w => He.valX fn ts w
  says := fun w h => ∃ K : PySem.W.Frag, K.In h ∧ He.SaysX fa fn ts tf ex w h K
  of := fun _ _ e => ⟨_, He.frT_in, saysL_of e⟩
  keeps := fun _ _ _ ⟨K, hK, c⟩ k => ⟨K, PySem.W.Frag.In.keeps hK k, ⟨c.t, c.more, c.hd, c.out, fun p hp => k _ _ (c.empty p hp)⟩⟩
theorem obsL_eq {as : List Addr} {fa : List He.Fa} {fn : List He.DefD} {ts : List He.Tab} {tf : List He.Defn} {ex : PySem.W.Frag → Bool} {g : Addr → Option Obj} {s : Shared} (h : ∀ a, g a = s.heap.get? a) : obsL as fa fn ts tf ex g = (hookL as fa fn ts tf ex).obs s := by
  have e : g = s.heap.get? := funext h
  rw [e] <;> rfl
end M3
namespace W3
open PySem PySem.Spec PyProof.Rows L2 M3
def top (i : Nat) : Stmt := PySem.Challenge.pw_cutlinked_k10_shapes_refused.main.body.getD i (.Pass ⟨0, 0, 0, 0⟩)
abbrev s_L_word : Stmt := top 57
abbrev s_is_integer : Stmt := top 9
abbrev s_come_to_roots : Stmt := top 16
abbrev s_Stand_init : Stmt := (inClass (top 19) 0)
abbrev s_has_its_sons : Stmt := top 22
abbrev s_shape_of : Stmt := top 31
abbrev s_is_top : Stmt := top 33
abbrev s_line_up : Stmt := top 39
abbrev s_hand_on : Stmt := top 42
abbrev s_take_place : Stmt := top 44
abbrev s_L_hand : Stmt := top 46
abbrev s_L_draw : Stmt := top 47
abbrev s_L_number : Stmt := top 49
abbrev s_L_is_integer : Stmt := top 50
abbrev s_L_house : Stmt := top 53
abbrev s_L_is_son : Stmt := top 55
abbrev s_is_between : Stmt := top 10
abbrev s_are_worths : Stmt := top 17
abbrev s_rank : Stmt := top 25
abbrev s_told_worth : Stmt := top 38
abbrev s_weights_of : Stmt := top 40
abbrev s_turn_up : Stmt := top 43
abbrev s_L_deep : Stmt := top 48
abbrev s_L_value : Stmt := top 51
abbrev s_L_shuffled : Stmt := top 52
abbrev s_L_is_shape : Stmt := top 56
abbrev s_is_house : Stmt := top 11
abbrev s_is_many : Stmt := top 12
abbrev s_told_worths : Stmt := top 37
abbrev s_potential_of : Stmt := top 41
abbrev s_L_shape : Stmt := top 54
abbrev s_are_parents : Stmt := top 15
abbrev s_is_part : Stmt := top 21
abbrev s_need_house : Stmt := top 32
abbrev s_Forest_init : Stmt := (inClass (top 14) 0)
abbrev s_is_shape : Stmt := top 20
abbrev s_stands_of : Stmt := top 30
abbrev s_weights : Stmt := top 26
abbrev s_potential : Stmt := top 27
abbrev s_handed_on : Stmt := top 28
abbrev s_turned_up : Stmt := top 29
abbrev s_L_odd_shape : Stmt := top 58
abbrev s_part_in_order : Stmt := top 35
abbrev s_row_in_order : Stmt := top 34
abbrev s_rows : Stmt := top 23
abbrev s_forest_of : Stmt := top 36
abbrev s_told_forest : Stmt := top 24
abbrev s_law : Stmt := top 59
abbrev s_XBadForest : Stmt := (inClass (top 2) 0)
abbrev s_XNoHouse : Stmt := (inClass (top 3) 0)
abbrev s_XNoNumber : Stmt := (inClass (top 4) 0)
abbrev s_XNoShape : Stmt := (inClass (top 5) 0)
abbrev s_XNoTurn : Stmt := (inClass (top 6) 0)
def hFa0 : List He.Fa := [.glo "Forest", .glo "Stand", .glo "ForestError", .glo "BadForest", .glo "NoHouse", .glo "NoNumber", .glo "NoShape", .glo "NoTurn", .glo "_law_word", .glo "is_integer", .glo "come_to_roots", .glo "_has_its_sons", .glo "shape_of", .glo "is_top", .glo "line_up", .glo "hand_on", .glo "_take_place", .glo "_law_hand", .glo "_law_draw", .glo "_law_number", .glo "_law_is_integer", .glo "_law_house", .glo "_law_is_son", .glo "is_between", .glo "_are_worths", .glo "rank", .glo "_told_worth", .glo "_weights_of", .glo "turn_up", .glo "_law_deep"]
def hFa1 : List He.Fa := [.glo "_law_value", .glo "_law_shuffled", .glo "_law_is_shape", .glo "is_house", .glo "is_many", .glo "told_worths", .glo "potential_of", .glo "_law_shape", .glo "_are_parents", .glo "_is_part", .glo "need_house", .glo "is_shape", .glo "stands_of", .glo "weights", .glo "potential", .glo "handed_on", .glo "turned_up", .glo "_law_odd_shape", .glo "_part_in_order", .glo "row_in_order", .glo "rows", .glo "forest_of", .glo "told_forest", .glo "law", .free "ValueError", .free "range", .free "all", .free "tuple", .free "sum", .free "list"]
def hFa2 : List He.Fa := [.free "len", .free "isinstance", .free "int", .free "bool", .free "min", .int "MOST_HOUSES" (64), .cls "Forest", .mkr "Forest", .noat "Forest" "parents", .noat "Forest" "worths", .cls "Stand", .mkr "Stand", .noat "Stand" "up", .noat "Stand" "left", .noat "Stand" "right", .noat "Stand" "turned", .noat "Stand" "added", .noat "Stand" "value"]
def hFa : List He.Fa := hFa0 ++ (hFa1 ++ (hFa2))
def hFn0 : List He.DefD := [⟨("_law_word", none), "_law_word", "_law_word", defArgs s_L_word, defBody s_L_word, defScope s_L_word, [], []⟩, ⟨("is_integer", none), "is_integer", "is_integer", defArgs s_is_integer, defBody s_is_integer, defScope s_is_integer, [], []⟩, ⟨("come_to_roots", none), "come_to_roots", "come_to_roots", defArgs s_come_to_roots, defBody s_come_to_roots, defScope s_come_to_roots, [], []⟩, ⟨("_has_its_sons", none), "_has_its_sons", "_has_its_sons", defArgs s_has_its_sons, defBody s_has_its_sons, defScope s_has_its_sons, [], []⟩, ⟨("shape_of", none), "shape_of", "shape_of", defArgs s_shape_of, defBody s_shape_of, defScope s_shape_of, [], []⟩, ⟨("is_top", none), "is_top", "is_top", defArgs s_is_top, defBody s_is_top, defScope s_is_top, [], []⟩, ⟨("line_up", none), "line_up", "line_up", defArgs s_line_up, defBody s_line_up, defScope s_line_up, [], []⟩, ⟨("hand_on", none), "hand_on", "hand_on", defArgs s_hand_on, defBody s_hand_on, defScope s_hand_on, [], []⟩, ⟨("_take_place", none), "_take_place", "_take_place", defArgs s_take_place, defBody s_take_place, defScope s_take_place, [], []⟩, ⟨("_law_hand", none), "_law_hand", "_law_hand", defArgs s_L_hand, defBody s_L_hand, defScope s_L_hand, [], []⟩, ⟨("_law_draw", none), "_law_draw", "_law_draw", defArgs s_L_draw, defBody s_L_draw, defScope s_L_draw, [], []⟩, ⟨("_law_number", none), "_law_number", "_law_number", defArgs s_L_number, defBody s_L_number, defScope s_L_number, [], []⟩, ⟨("_law_is_integer", none), "_law_is_integer", "_law_is_integer", defArgs s_L_is_integer, defBody s_L_is_integer, defScope s_L_is_integer, [], []⟩, ⟨("_law_house", none), "_law_house", "_law_house", defArgs s_L_house, defBody s_L_house, defScope s_L_house, [], []⟩, ⟨("_law_is_son", none), "_law_is_son", "_law_is_son", defArgs s_L_is_son, defBody s_L_is_son, defScope s_L_is_son, [], []⟩, ⟨("is_between", none), "is_between", "is_between", defArgs s_is_between, defBody s_is_between, defScope s_is_between, [], []⟩, ⟨("_are_worths", none), "_are_worths", "_are_worths", defArgs s_are_worths, defBody s_are_worths, defScope s_are_worths, [], []⟩, ⟨("rank", none), "rank", "rank", defArgs s_rank, defBody s_rank, defScope s_rank, [], []⟩, ⟨("_told_worth", none), "_told_worth", "_told_worth", defArgs s_told_worth, defBody s_told_worth, defScope s_told_worth, [], []⟩, ⟨("_weights_of", none), "_weights_of", "_weights_of", defArgs s_weights_of, defBody s_weights_of, defScope s_weights_of, [], []⟩, ⟨("turn_up", none), "turn_up", "turn_up", defArgs s_turn_up, defBody s_turn_up, defScope s_turn_up, [], []⟩, ⟨("_law_deep", none), "_law_deep", "_law_deep", defArgs s_L_deep, defBody s_L_deep, defScope s_L_deep, [], []⟩, ⟨("_law_value", none), "_law_value", "_law_value", defArgs s_L_value, defBody s_L_value, defScope s_L_value, [], []⟩, ⟨("_law_shuffled", none), "_law_shuffled", "_law_shuffled", defArgs s_L_shuffled, defBody s_L_shuffled, defScope s_L_shuffled, [], []⟩, ⟨("_law_is_shape", none), "_law_is_shape", "_law_is_shape", defArgs s_L_is_shape, defBody s_L_is_shape, defScope s_L_is_shape, [], []⟩, ⟨("is_house", none), "is_house", "is_house", defArgs s_is_house, defBody s_is_house, defScope s_is_house, [], []⟩, ⟨("is_many", none), "is_many", "is_many", defArgs s_is_many, defBody s_is_many, defScope s_is_many, [], []⟩, ⟨("told_worths", none), "told_worths", "told_worths", defArgs s_told_worths, defBody s_told_worths, defScope s_told_worths, [], []⟩, ⟨("potential_of", none), "potential_of", "potential_of", defArgs s_potential_of, defBody s_potential_of, defScope s_potential_of, [], []⟩, ⟨("_law_shape", none), "_law_shape", "_law_shape", defArgs s_L_shape, defBody s_L_shape, defScope s_L_shape, [], []⟩]
def hFn1 : List He.DefD := [⟨("_are_parents", none), "_are_parents", "_are_parents", defArgs s_are_parents, defBody s_are_parents, defScope s_are_parents, [], []⟩, ⟨("_is_part", none), "_is_part", "_is_part", defArgs s_is_part, defBody s_is_part, defScope s_is_part, [], []⟩, ⟨("need_house", none), "need_house", "need_house", defArgs s_need_house, defBody s_need_house, defScope s_need_house, [], []⟩, ⟨("is_shape", none), "is_shape", "is_shape", defArgs s_is_shape, defBody s_is_shape, defScope s_is_shape, [], []⟩, ⟨("stands_of", none), "stands_of", "stands_of", defArgs s_stands_of, defBody s_stands_of, defScope s_stands_of, [], []⟩, ⟨("weights", none), "weights", "weights", defArgs s_weights, defBody s_weights, defScope s_weights, [], []⟩, ⟨("potential", none), "potential", "potential", defArgs s_potential, defBody s_potential, defScope s_potential, [], []⟩, ⟨("handed_on", none), "handed_on", "handed_on", defArgs s_handed_on, defBody s_handed_on, defScope s_handed_on, [], []⟩, ⟨("turned_up", none), "turned_up", "turned_up", defArgs s_turned_up, defBody s_turned_up, defScope s_turned_up, [], []⟩, ⟨("_law_odd_shape", none), "_law_odd_shape", "_law_odd_shape", defArgs s_L_odd_shape, defBody s_L_odd_shape, defScope s_L_odd_shape, [], []⟩, ⟨("_part_in_order", none), "_part_in_order", "_part_in_order", defArgs s_part_in_order, defBody s_part_in_order, defScope s_part_in_order, [], []⟩, ⟨("row_in_order", none), "row_in_order", "row_in_order", defArgs s_row_in_order, defBody s_row_in_order, defScope s_row_in_order, [], []⟩, ⟨("rows", none), "rows", "rows", defArgs s_rows, defBody s_rows, defScope s_rows, [], []⟩, ⟨("forest_of", none), "forest_of", "forest_of", defArgs s_forest_of, defBody s_forest_of, defScope s_forest_of, [], []⟩, ⟨("told_forest", none), "told_forest", "told_forest", defArgs s_told_forest, defBody s_told_forest, defScope s_told_forest, [], []⟩, ⟨("law", none), "law", "law", defArgs s_law, defBody s_law, defScope s_law, [], []⟩, ⟨("Stand", some "__init__"), "__init__", "Stand.__init__", defArgs s_Stand_init, defBody s_Stand_init, defScope s_Stand_init, [], []⟩, ⟨("Forest", some "__init__"), "__init__", "Forest.__init__", defArgs s_Forest_init, defBody s_Forest_init, defScope s_Forest_init, [], []⟩, ⟨("BadForest", some "__init__"), "__init__", "BadForest.__init__", defArgs s_XBadForest, defBody s_XBadForest, defScope s_XBadForest, [], []⟩, ⟨("NoHouse", some "__init__"), "__init__", "NoHouse.__init__", defArgs s_XNoHouse, defBody s_XNoHouse, defScope s_XNoHouse, [], []⟩, ⟨("NoNumber", some "__init__"), "__init__", "NoNumber.__init__", defArgs s_XNoNumber, defBody s_XNoNumber, defScope s_XNoNumber, [], []⟩, ⟨("NoShape", some "__init__"), "__init__", "NoShape.__init__", defArgs s_XNoShape, defBody s_XNoShape, defScope s_XNoShape, [], []⟩, ⟨("NoTurn", some "__init__"), "__init__", "NoTurn.__init__", defArgs s_XNoTurn, defBody s_XNoTurn, defScope s_XNoTurn, [], []⟩]
def hFn : List He.DefD := hFn0 ++ (hFn1)
def hCk0 (K : PySem.W.Frag) : List Bool := [decide (PySem.W.findIn K (.ref (He.ga K "Forest")) "__class__" = some (some (.builtin "object.__class__"))), decide (PySem.W.mroIn K (He.ga K "Forest") (.type "object") = some true), decide (PySem.W.findIn K (.ref (He.ga K "Stand")) "__class__" = some (some (.builtin "object.__class__"))), decide (PySem.W.mroIn K (He.ga K "Stand") (.type "object") = some true), decide (PySem.W.specialIn K (.builtin "object.__class__") "__get__" = some (some (.builtin "getset_descriptor.__get__"))), decide (PySem.W.takesIn K (.builtin "object.__class__") = some true), xcB K (He.ga K "BadForest"), decide (PySem.W.findIn K (.ref (He.ga K "BadForest")) "__init__" = some (some (.ref (He.ma K (He.ga K "BadForest") "__init__")))), decide (PySem.W.typeIn K (.ref (He.ma K (He.ga K "BadForest") "__init__")) = some (.type "function")), PySem.W.keepIn K (.ref (He.ga K "BadForest")), decide (PySem.W.subIn K (.ref (He.ga K "BadForest")) (.type "BaseException") = some true), decide (PySem.W.typeIn K (.ref (He.ga K "BadForest")) = some (.type "type")), PySem.W.isClsIn K (He.ga K "BadForest"), decide (PySem.W.subIn K (.ref (He.ga K "BadForest")) (.ref (He.ga K "BadForest")) = some true), kdB K (He.ma K (He.ga K "BadForest") "__init__"), decide (PySem.W.findIn K (.ref (He.ga K "BadForest")) "__setattr__" = some (some (.builtin "object.__setattr__"))), decide (PySem.W.findIn K (.ref (He.ga K "BadForest")) "__getattribute__" = some (some (.builtin "BaseException.__getattribute__"))), decide (PySem.W.findIn K (.ref (He.ga K "BadForest")) "__getattr__" = some none), decide (PySem.W.findIn K (.ref (He.ga K "BadForest")) "part" = some none), PySem.W.hasDictIn K (He.ga K "BadForest"), xcB K (He.ga K "NoHouse"), decide (PySem.W.findIn K (.ref (He.ga K "NoHouse")) "__init__" = some (some (.ref (He.ma K (He.ga K "NoHouse") "__init__")))), decide (PySem.W.typeIn K (.ref (He.ma K (He.ga K "NoHouse") "__init__")) = some (.type "function")), PySem.W.keepIn K (.ref (He.ga K "NoHouse")), decide (PySem.W.subIn K (.ref (He.ga K "NoHouse")) (.type "BaseException") = some true), decide (PySem.W.typeIn K (.ref (He.ga K "NoHouse")) = some (.type "type")), PySem.W.isClsIn K (He.ga K "NoHouse"), decide (PySem.W.subIn K (.ref (He.ga K "NoHouse")) (.ref (He.ga K "NoHouse")) = some true), kdB K (He.ma K (He.ga K "NoHouse") "__init__"), xcB K (He.ga K "NoNumber")]
def hCk1 (K : PySem.W.Frag) : List Bool := [decide (PySem.W.findIn K (.ref (He.ga K "NoNumber")) "__init__" = some (some (.ref (He.ma K (He.ga K "NoNumber") "__init__")))), decide (PySem.W.typeIn K (.ref (He.ma K (He.ga K "NoNumber") "__init__")) = some (.type "function")), PySem.W.keepIn K (.ref (He.ga K "NoNumber")), decide (PySem.W.subIn K (.ref (He.ga K "NoNumber")) (.type "BaseException") = some true), decide (PySem.W.typeIn K (.ref (He.ga K "NoNumber")) = some (.type "type")), PySem.W.isClsIn K (He.ga K "NoNumber"), decide (PySem.W.subIn K (.ref (He.ga K "NoNumber")) (.ref (He.ga K "NoNumber")) = some true), kdB K (He.ma K (He.ga K "NoNumber") "__init__"), xcB K (He.ga K "NoShape"), decide (PySem.W.findIn K (.ref (He.ga K "NoShape")) "__init__" = some (some (.ref (He.ma K (He.ga K "NoShape") "__init__")))), decide (PySem.W.typeIn K (.ref (He.ma K (He.ga K "NoShape") "__init__")) = some (.type "function")), PySem.W.keepIn K (.ref (He.ga K "NoShape")), decide (PySem.W.subIn K (.ref (He.ga K "NoShape")) (.type "BaseException") = some true), decide (PySem.W.typeIn K (.ref (He.ga K "NoShape")) = some (.type "type")), PySem.W.isClsIn K (He.ga K "NoShape"), decide (PySem.W.subIn K (.ref (He.ga K "NoShape")) (.ref (He.ga K "NoShape")) = some true), kdB K (He.ma K (He.ga K "NoShape") "__init__"), xcB K (He.ga K "NoTurn"), decide (PySem.W.findIn K (.ref (He.ga K "NoTurn")) "__init__" = some (some (.ref (He.ma K (He.ga K "NoTurn") "__init__")))), decide (PySem.W.typeIn K (.ref (He.ma K (He.ga K "NoTurn") "__init__")) = some (.type "function")), PySem.W.keepIn K (.ref (He.ga K "NoTurn")), decide (PySem.W.subIn K (.ref (He.ga K "NoTurn")) (.type "BaseException") = some true), decide (PySem.W.typeIn K (.ref (He.ga K "NoTurn")) = some (.type "type")), PySem.W.isClsIn K (He.ga K "NoTurn"), decide (PySem.W.subIn K (.ref (He.ga K "NoTurn")) (.ref (He.ga K "NoTurn")) = some true), kdB K (He.ma K (He.ga K "NoTurn") "__init__"), decide (PySem.W.findIn K (.ref (He.ga K "NoShape")) "__getattribute__" = some (some (.builtin "BaseException.__getattribute__"))), decide (PySem.W.findIn K (.ref (He.ga K "NoShape")) "__getattr__" = some none), PySem.W.hasDictIn K (He.ga K "NoShape"), decide (PySem.W.findIn K (.ref (He.ga K "NoShape")) "__class__" = some (some (.builtin "object.__class__")))]
def hCk2 (K : PySem.W.Frag) : List Bool := [decide (PySem.W.mroIn K (He.ga K "NoShape") (.type "object") = some true), decide (PySem.W.findIn K (.ref (He.ga K "NoHouse")) "__getattribute__" = some (some (.builtin "BaseException.__getattribute__"))), decide (PySem.W.findIn K (.ref (He.ga K "NoHouse")) "__getattr__" = some none), PySem.W.hasDictIn K (He.ga K "NoHouse"), decide (PySem.W.findIn K (.ref (He.ga K "NoHouse")) "__class__" = some (some (.builtin "object.__class__"))), decide (PySem.W.mroIn K (He.ga K "NoHouse") (.type "object") = some true), decide (PySem.W.findIn K (.ref (He.ga K "NoTurn")) "__getattribute__" = some (some (.builtin "BaseException.__getattribute__"))), decide (PySem.W.findIn K (.ref (He.ga K "NoTurn")) "__getattr__" = some none), PySem.W.hasDictIn K (He.ga K "NoTurn"), decide (PySem.W.findIn K (.ref (He.ga K "NoTurn")) "__class__" = some (some (.builtin "object.__class__"))), decide (PySem.W.mroIn K (He.ga K "NoTurn") (.type "object") = some true), decide (PySem.W.findIn K (.ref (He.ga K "NoNumber")) "__getattribute__" = some (some (.builtin "BaseException.__getattribute__"))), decide (PySem.W.findIn K (.ref (He.ga K "NoNumber")) "__getattr__" = some none), PySem.W.hasDictIn K (He.ga K "NoNumber"), decide (PySem.W.findIn K (.ref (He.ga K "NoNumber")) "__class__" = some (some (.builtin "object.__class__"))), decide (PySem.W.mroIn K (He.ga K "NoNumber") (.type "object") = some true), PySem.W.isClsIn K (He.ga K "ForestError"), decide (PySem.W.typeIn K (.ref (He.ga K "ForestError")) = some (.type "type")), decide (PySem.W.subIn K (.ref (He.ga K "ForestError")) (.type "BaseException") = some true), decide (PySem.W.kitOne K (.ref (He.ga K "Forest")) (.type "int") = some false), decide (PySem.W.kitOne K (.ref (He.ga K "Forest")) (.type "bool") = some false), decide (PySem.W.kitOne K (.ref (He.ga K "Forest")) (.type "tuple") = some false), decide (PySem.W.kitOne K (.ref (He.ga K "Forest")) (.ref (He.ga K "Forest")) = some true), decide (PySem.W.kitOne K (.ref (He.ga K "Stand")) (.type "int") = some false), decide (PySem.W.kitOne K (.ref (He.ga K "Stand")) (.type "bool") = some false), decide (PySem.W.kitOne K (.ref (He.ga K "Stand")) (.type "tuple") = some false), decide (PySem.W.kitOne K (.ref (He.ga K "Stand")) (.ref (He.ga K "Forest")) = some false), decide (PySem.W.kitOne K (.type "NoneType") (.ref (He.ga K "Forest")) = some false), decide (PySem.W.kitOne K (.type "int") (.ref (He.ga K "Forest")) = some false), decide (PySem.W.kitOne K (.type "bool") (.ref (He.ga K "Forest")) = some false)]
def hCk3 (K : PySem.W.Frag) : List Bool := [decide (PySem.W.kitOne K (.type "tuple") (.ref (He.ga K "Forest")) = some false), decide (PySem.W.kitOne K (.type "list") (.ref (He.ga K "Forest")) = some false), decide (PySem.W.kitOne K (.type "str") (.ref (He.ga K "Forest")) = some false), decide (PySem.W.kitOne K (.type "dict") (.ref (He.ga K "Forest")) = some false), decide (PySem.W.kitOne K (.ref (He.ga K "NoShape")) (.ref (He.ga K "NoShape")) = some true), decide (PySem.W.kitOne K (.ref (He.ga K "NoShape")) (.ref (He.ga K "NoHouse")) = some false), decide (PySem.W.kitOne K (.ref (He.ga K "NoShape")) (.ref (He.ga K "NoTurn")) = some false), decide (PySem.W.kitOne K (.ref (He.ga K "NoShape")) (.ref (He.ga K "NoNumber")) = some false), decide (PySem.W.kitOne K (.ref (He.ga K "NoShape")) (.type "ValueError") = some true), decide (PySem.W.kitOne K (.ref (He.ga K "NoHouse")) (.ref (He.ga K "NoShape")) = some false), decide (PySem.W.kitOne K (.ref (He.ga K "NoHouse")) (.ref (He.ga K "NoHouse")) = some true), decide (PySem.W.kitOne K (.ref (He.ga K "NoHouse")) (.ref (He.ga K "NoTurn")) = some false), decide (PySem.W.kitOne K (.ref (He.ga K "NoHouse")) (.ref (He.ga K "NoNumber")) = some false), decide (PySem.W.kitOne K (.ref (He.ga K "NoHouse")) (.type "ValueError") = some true), decide (PySem.W.kitOne K (.ref (He.ga K "NoTurn")) (.ref (He.ga K "NoShape")) = some false), decide (PySem.W.kitOne K (.ref (He.ga K "NoTurn")) (.ref (He.ga K "NoHouse")) = some false), decide (PySem.W.kitOne K (.ref (He.ga K "NoTurn")) (.ref (He.ga K "NoTurn")) = some true), decide (PySem.W.kitOne K (.ref (He.ga K "NoTurn")) (.ref (He.ga K "NoNumber")) = some false), decide (PySem.W.kitOne K (.ref (He.ga K "NoTurn")) (.type "ValueError") = some true), decide (PySem.W.kitOne K (.ref (He.ga K "NoNumber")) (.ref (He.ga K "NoShape")) = some false), decide (PySem.W.kitOne K (.ref (He.ga K "NoNumber")) (.ref (He.ga K "NoHouse")) = some false), decide (PySem.W.kitOne K (.ref (He.ga K "NoNumber")) (.ref (He.ga K "NoTurn")) = some false), decide (PySem.W.kitOne K (.ref (He.ga K "NoNumber")) (.ref (He.ga K "NoNumber")) = some true), decide (PySem.W.kitOne K (.ref (He.ga K "NoNumber")) (.type "ValueError") = some true), decide (¬ ((He.ga K "potential") = (He.ga K "rows"))), decide (¬ ((He.ga K "potential") = (He.ga K "told_forest"))), decide (¬ ((He.ga K "potential") = (He.ga K "weights"))), decide (¬ ((He.ga K "rows") = (He.ga K "told_forest"))), decide (¬ ((He.ga K "rows") = (He.ga K "weights"))), decide (¬ ((He.ga K "told_forest") = (He.ga K "weights")))]
def hCk4 (K : PySem.W.Frag) : List Bool := [decide (PySem.W.subIn K (.ref (He.ga K "BadForest")) (.ref (He.ga K "ForestError")) = some true), decide (PySem.W.subIn K (.ref (He.ga K "NoHouse")) (.ref (He.ga K "ForestError")) = some true), decide (PySem.W.subIn K (.ref (He.ga K "NoNumber")) (.ref (He.ga K "ForestError")) = some true), decide (PySem.W.subIn K (.ref (He.ga K "NoShape")) (.ref (He.ga K "ForestError")) = some true), decide (PySem.W.subIn K (.ref (He.ga K "NoTurn")) (.ref (He.ga K "ForestError")) = some true)]
def hCk (K : PySem.W.Frag) : List Bool := hCk0 K ++ (hCk1 K ++ (hCk2 K ++ (hCk3 K ++ (hCk4 K))))
def hTs : List He.Tab := []
def hEx (K : PySem.W.Frag) : Bool := (hCk K).all id
def hNames0 : List Str := ["ForestError", "BadForest", "NoHouse", "NoNumber", "NoShape", "NoTurn", "MOST_HOUSES", "is_integer", "is_between", "is_house", "is_many", "Forest", "_are_parents", "come_to_roots", "_are_worths", "Stand", "is_shape", "_is_part", "_has_its_sons", "rows", "told_forest", "rank", "weights", "potential", "handed_on", "turned_up", "stands_of", "shape_of", "need_house", "is_top"]
def hNames1 : List Str := ["row_in_order", "_part_in_order", "forest_of", "told_worths", "_told_worth", "line_up", "_weights_of", "potential_of", "hand_on", "turn_up", "_take_place", "_law_hand", "_law_draw", "_law_deep", "_law_number", "_law_is_integer", "_law_value", "_law_shuffled", "_law_house", "_law_shape", "_law_is_son", "_law_is_shape", "_law_word", "_law_odd_shape"]
def hNames : List Str := hNames0 ++ (hNames1)
def hAs0 : List Addr := [nat_lit 3, nat_lit 6, nat_lit 4, nat_lit 24, nat_lit 44, nat_lit 63, nat_lit 82, nat_lit 101, nat_lit 120, nat_lit 129, nat_lit 136, nat_lit 143, nat_lit 150, nat_lit 174, nat_lit 183, nat_lit 188, nat_lit 193, nat_lit 210, nat_lit 219, nat_lit 224, nat_lit 229, nat_lit 234, nat_lit 241, nat_lit 248, nat_lit 255, nat_lit 262, nat_lit 269, nat_lit 276, nat_lit 281, nat_lit 286, nat_lit 293, nat_lit 300, nat_lit 307, nat_lit 314, nat_lit 321, nat_lit 326, nat_lit 333, nat_lit 340, nat_lit 347, nat_lit 352]
def hAs1 : List Addr := [nat_lit 357, nat_lit 364, nat_lit 371, nat_lit 376, nat_lit 383, nat_lit 390, nat_lit 397, nat_lit 404, nat_lit 411, nat_lit 418, nat_lit 425, nat_lit 430, nat_lit 437, nat_lit 442, nat_lit 449, nat_lit 456, nat_lit 463, nat_lit 0, nat_lit 23, nat_lit 43, nat_lit 62, nat_lit 81, nat_lit 100, nat_lit 119, nat_lit 128, nat_lit 135, nat_lit 142, nat_lit 149, nat_lit 173, nat_lit 182, nat_lit 187, nat_lit 192, nat_lit 209, nat_lit 218, nat_lit 223, nat_lit 228, nat_lit 233, nat_lit 240, nat_lit 247, nat_lit 254]
def hAs2 : List Addr := [nat_lit 261, nat_lit 268, nat_lit 275, nat_lit 280, nat_lit 285, nat_lit 292, nat_lit 299, nat_lit 306, nat_lit 313, nat_lit 320, nat_lit 325, nat_lit 332, nat_lit 339, nat_lit 346, nat_lit 351, nat_lit 356, nat_lit 363, nat_lit 370, nat_lit 375, nat_lit 382, nat_lit 389, nat_lit 396, nat_lit 403, nat_lit 410, nat_lit 417, nat_lit 424, nat_lit 429, nat_lit 436, nat_lit 441, nat_lit 448, nat_lit 455, nat_lit 462, nat_lit 22, nat_lit 25, nat_lit 41, nat_lit 42, nat_lit 60, nat_lit 61, nat_lit 79, nat_lit 80]
def hAs3 : List Addr := [nat_lit 98, nat_lit 99, nat_lit 117, nat_lit 118, nat_lit 123, nat_lit 124, nat_lit 125, nat_lit 126, nat_lit 127, nat_lit 130, nat_lit 131, nat_lit 132, nat_lit 133, nat_lit 134, nat_lit 137, nat_lit 138, nat_lit 139, nat_lit 140, nat_lit 141, nat_lit 144, nat_lit 145, nat_lit 146, nat_lit 147, nat_lit 148, nat_lit 164, nat_lit 171, nat_lit 172, nat_lit 175, nat_lit 176, nat_lit 179, nat_lit 180, nat_lit 181, nat_lit 184, nat_lit 185, nat_lit 186, nat_lit 189, nat_lit 190, nat_lit 191, nat_lit 207, nat_lit 208]
def hAs4 : List Addr := [nat_lit 211, nat_lit 212, nat_lit 215, nat_lit 216, nat_lit 217, nat_lit 220, nat_lit 221, nat_lit 222, nat_lit 225, nat_lit 226, nat_lit 227, nat_lit 230, nat_lit 231, nat_lit 232, nat_lit 235, nat_lit 236, nat_lit 237, nat_lit 238, nat_lit 239, nat_lit 242, nat_lit 243, nat_lit 244, nat_lit 245, nat_lit 246, nat_lit 249, nat_lit 250, nat_lit 251, nat_lit 252, nat_lit 253, nat_lit 256, nat_lit 257, nat_lit 258, nat_lit 259, nat_lit 260, nat_lit 263, nat_lit 264, nat_lit 265, nat_lit 266, nat_lit 267, nat_lit 270]
def hAs5 : List Addr := [nat_lit 271, nat_lit 272, nat_lit 273, nat_lit 274, nat_lit 277, nat_lit 278, nat_lit 279, nat_lit 282, nat_lit 283, nat_lit 284, nat_lit 287, nat_lit 288, nat_lit 289, nat_lit 290, nat_lit 291, nat_lit 294, nat_lit 295, nat_lit 296, nat_lit 297, nat_lit 298, nat_lit 301, nat_lit 302, nat_lit 303, nat_lit 304, nat_lit 305, nat_lit 308, nat_lit 309, nat_lit 310, nat_lit 311, nat_lit 312, nat_lit 315, nat_lit 316, nat_lit 317, nat_lit 318, nat_lit 319, nat_lit 322, nat_lit 323, nat_lit 324, nat_lit 327, nat_lit 328]
def hAs6 : List Addr := [nat_lit 329, nat_lit 330, nat_lit 331, nat_lit 334, nat_lit 335, nat_lit 336, nat_lit 337, nat_lit 338, nat_lit 341, nat_lit 342, nat_lit 343, nat_lit 344, nat_lit 345, nat_lit 348, nat_lit 349, nat_lit 350, nat_lit 353, nat_lit 354, nat_lit 355, nat_lit 358, nat_lit 359, nat_lit 360, nat_lit 361, nat_lit 362, nat_lit 365, nat_lit 366, nat_lit 367, nat_lit 368, nat_lit 369, nat_lit 372, nat_lit 373, nat_lit 374, nat_lit 377, nat_lit 378, nat_lit 379, nat_lit 380, nat_lit 381, nat_lit 384, nat_lit 385, nat_lit 386]
def hAs7 : List Addr := [nat_lit 387, nat_lit 388, nat_lit 391, nat_lit 392, nat_lit 393, nat_lit 394, nat_lit 395, nat_lit 398, nat_lit 399, nat_lit 400, nat_lit 401, nat_lit 402, nat_lit 405, nat_lit 406, nat_lit 407, nat_lit 408, nat_lit 409, nat_lit 412, nat_lit 413, nat_lit 414, nat_lit 415, nat_lit 416, nat_lit 419, nat_lit 420, nat_lit 421, nat_lit 422, nat_lit 423, nat_lit 426, nat_lit 427, nat_lit 428, nat_lit 431, nat_lit 432, nat_lit 433, nat_lit 434, nat_lit 435, nat_lit 438, nat_lit 439, nat_lit 440, nat_lit 443, nat_lit 444]
def hAs8 : List Addr := [nat_lit 445, nat_lit 446, nat_lit 447, nat_lit 450, nat_lit 451, nat_lit 452, nat_lit 453, nat_lit 454, nat_lit 457, nat_lit 458, nat_lit 459, nat_lit 460, nat_lit 461, nat_lit 40, nat_lit 59, nat_lit 78, nat_lit 97, nat_lit 116, nat_lit 163, nat_lit 170, nat_lit 206]
def hAs : List Addr := hAs0 ++ (hAs1 ++ (hAs2 ++ (hAs3 ++ (hAs4 ++ (hAs5 ++ (hAs6 ++ (hAs7 ++ (hAs8))))))))
def hTf : List He.Defn := [("law", none)]
abbrev hk : PySem.W.Hook := hookL hAs hFa hFn hTs hTf hEx
def hob (s : PySem.W.SharedT) : He.AlX := obsL hAs hFa hFn hTs hTf hEx (HandSHeadRun.getT s)
theorem hob_eq (s : PySem.W.SharedT) : hob s = hk.obs s.abs := obsL_eq (HandSHeadRun.getT_eq s)
abbrev HR (w : World) : Prop := HandSHeadRun.RunEq (PySem.W.OpenLaw.row PySem.Challenge.rw_cutlinked_k10_shapes_refused) (PySem.W.view (PySem.W.OpenLaw.row PySem.Challenge.rw_cutlinked_k10_shapes_refused).prog [59]) hk hob 200000 hNames w
set_option maxHeartbeats 0 in
theorem hrunF (w : World) : HR (w.withFollow "special-get-raises" false) := by
  intro os
  kernel_rfl
set_option maxHeartbeats 0 in
theorem hrunT (w : World) : HR (w.withFollow "special-get-raises" true) := by
  intro os
  kernel_rfl
theorem hrun (w : World) : HR w := PySem.W.byRow2 "special-get-raises" (P := HR) hrunF hrunT w
end W3
namespace M3
open PySem PySem.Spec PyProof.Rows L2
inductive P
  | non | bl (b : Bool) | int (i : Int) | str (s : Str)
  | tup (l : List P) | lst (l : List P) | dic (l : List (P × P)) | ins (C : Addr) (l : List (Str × P))
  | con (v : V) | scr (l : List Int)
/-- data, or an object by its number -/
inductive D
  | dat (p : P) | obj (i : Nat)
/-- what stands at a number -/
inductive O
  | lst (l : List D) | ins (C : Addr) (l : List (Str × D)) | dic (l : List (Key × D)) | tup (l : List D)
/-- a tuple, a list to be read, that never changes -/
def TupAt (K : PySem.W.Frag) (ι X : List Addr) (H : Hp) (a : Addr) (xs : List V) : Prop := (a ∉ ι ∧ a ∉ X ∧ Rd H a (.tup xs)) ∨
    ∃ (o : Obj) (its : Array Value) (n : Nat), K.lookup a = some o ∧ o.cls = .type "tuple" ∧ o.data = .seq its n ∧ its.size ≤ sizeLine ∧ Vals xs its.toList
def LstAt (K : PySem.W.Frag) (ι X : List Addr) (H : Hp) (a : Addr) (xs : List V) : Prop := (a ∉ ι ∧ a ∉ X ∧ Rd H a (.lst xs)) ∨
    ∃ (o : Obj) (its : Array Value) (n : Nat), K.lookup a = some o ∧ o.cls = .type "list" ∧ o.dict = none ∧ o.data = .seq its n ∧ its.size ≤ sizeLine ∧ Vals xs its.toList
theorem TupAt.sq {K : PySem.W.Frag} {ι X : List Addr} {H : Hp} {a : Addr} {xs : List V} (t : TupAt K ι X H a xs) : SqT K H a xs := t.imp (fun x => x.2.2) id
theorem LstAt.sq {K : PySem.W.Frag} {ι X : List Addr} {H : Hp} {a : Addr} {xs : List V} (t : LstAt K ι X H a xs) : SqL K H a xs := t.imp (fun x => x.2.2) id
section
variable (K : PySem.W.Frag) (ι X : List Addr) (H : Hp)
mutual
def RepP : P → V → Prop
  | .non, v => v = .non
  | .bl b, v => v = .bl b
  | .int i, v => v = .int i
  | .str s, v => v = .str s
  | .tup l, v => ∃ a xs, v = .ref a ∧ TupAt K ι X H a xs ∧ RepPs l xs
  | .lst l, v => ∃ a xs, v = .ref a ∧ a ∉ ι ∧ a ∉ X ∧ H a = some (.lst xs) ∧ RepPs l xs
  | .dic l, v => ∃ a xs, v = .ref a ∧ a ∉ ι ∧ a ∉ X ∧ H a = some (.dK xs) ∧ RepKs l xs
  | .ins C l, v => ∃ a dx xs, v = .ref a ∧ a ∉ ι ∧ a ∉ X ∧ H a = some (.ins C dx xs) ∧ RepFs l xs
  | .con w, v => v = w
  | .scr l, v => ∃ a, v = .ref a ∧ LstAt K ι X H a (l.map V.int)
def RepPs : List P → List V → Prop
  | [], xs => xs = []
  | p :: ps, xs => ∃ y ys, xs = y :: ys ∧ RepP p y ∧ RepPs ps ys
def RepKs : List (P × P) → List (Key × V) → Prop
  | [], xs => xs = []
  | (k, p) :: ps, xs => ∃ c y ys, xs = (c, y) :: ys ∧ RepP k (kV c) ∧ RepP p y ∧ RepKs ps ys
def RepFs : List (Str × P) → List (Str × V) → Prop
  | [], xs => xs = []
  | (f, p) :: ps, xs => ∃ y ys, xs = (f, y) :: ys ∧ RepP p y ∧ RepFs ps ys
end
def RepD : D → V → Prop
  | .dat p, v => RepP K ι X H p v
  | .obj i, v => ∃ a, ι[i]? = some a ∧ v = .ref a
def RepDs : List D → List V → Prop
  | [], xs => xs = []
  | p :: ps, xs => ∃ y ys, xs = y :: ys ∧ RepD K ι X H p y ∧ RepDs ps ys
def RepDF : List (Str × D) → List (Str × V) → Prop
  | [], xs => xs = []
  | (f, p) :: ps, xs => ∃ y ys, xs = (f, y) :: ys ∧ RepD K ι X H p y ∧ RepDF ps ys
def RepDK : List (Key × D) → List (Key × V) → Prop
  | [], xs => xs = []
  | (f, p) :: ps, xs => ∃ y ys, xs = (f, y) :: ys ∧ RepD K ι X H p y ∧ RepDK ps ys
def RepO : O → Addr → Prop
  | .lst l, a => ∃ xs, H a = some (.lst xs) ∧ RepDs K ι X H l xs
  | .ins C l, a => ∃ dx xs, H a = some (.ins C dx xs) ∧ RepDF K ι X H l xs
  | .dic l, a => ∃ xs, H a = some (.dK xs) ∧ RepDK K ι X H l xs
  | .tup l, a => ∃ xs, H a = some (.tup xs) ∧ RepDs K ι X H l xs
end
abbrev Store := List O
/-- the tables of code objects that a law's lambdas are told in -/
class TabsP where
  T : List (Addr × Str)
/-- no table -/
def NT (o : HO) : Prop := ∀ ps, o ≠ .tbl ps
theorem nt_lst {l : List V} : NT (.lst l) := fun ps z => by cases z
theorem nt_tup {l : List V} : NT (.tup l) := fun ps z => by cases z
theorem nt_dK {l : List (Key × V)} : NT (.dK l) := fun ps z => by cases z
theorem nt_ins {C dx : Addr} {l : List (Str × V)} : NT (.ins C dx l) := fun ps z => by cases z
theorem nt_frz {o u} : NT (.frz o u) := fun ps z => by cases z
/-- nothing but perhaps a table stands there -/
def Free (H : Hp) (p : Addr) : Prop := ∀ o, H p = some o → ¬ NT o
theorem Free.of {H : Hp} {p : Addr} (h : H p = none) : Free H p := fun o e => by rw [h] at e; cases e
theorem Free.ne {H : Hp} {p b : Addr} {o : HO} (h : Free H p) (e : H b = some o) (z : NT o) : b ≠ p := fun q => by subst q; exact h o e z
variable [TabsP]
/-- the store lies in the heap; X: lists that are being made -/
structure Rel (K : PySem.W.Frag) (ι X : List Addr) (S : Store) (H : Hp) : Prop where
  len : ι.length = S.length
  nd : ι.Nodup
  at_ : ∀ (i : Nat) o a, S[i]? = some o → ι[i]? = some a → RepO K ι X H o a
  ex : ∀ a ∈ X, a ∉ ι ∧ ∃ o, H a = some o ∧ NT o
  tabs : LamX.Tabs TabsP.T H
/-- what stays -/
structure Ext (ι : List Addr) (H : Hp) (ι' : List Addr) (H' : Hp) : Prop where
  pre : ∃ t, ι' = ι ++ t
  old : ∀ b o, b ∉ ι → H b = some o → NT o → H' b = some o
  new : ∀ b, b ∈ ι' → b ∉ ι → ∀ o, H b = some o → ¬ NT o
  tab : LamX.Tabs TabsP.T H → LamX.Tabs TabsP.T H'
theorem Ext.refl {ι : List Addr} {H : Hp} : Ext ι H ι H := ⟨⟨[], by simp⟩, fun _ _ _ e _ => e, fun b h n => absurd h n, id⟩
theorem Ext.nin {ι ι' : List Addr} {H H' : Hp} (x : Ext ι H ι' H') {a : Addr} {o : HO} (n : a ∉ ι) (e : H a = some o) (z : NT o) : a ∉ ι' := fun m => x.new a m n o e z
theorem Ext.trans {ι ι1 ι2 : List Addr} {H H1 H2 : Hp} (x : Ext ι H ι1 H1) (y : Ext ι1 H1 ι2 H2) : Ext ι H ι2 H2 := by
  obtain ⟨t, et⟩ := x.pre
  obtain ⟨u, eu⟩ := y.pre
  refine ⟨⟨t ++ u, by rw [eu, et, List.append_assoc]⟩, fun b o n e z => y.old b o (x.nin n e z) (x.old b o n e z) z, fun b m n o e z => ?_, fun h => y.tab (x.tab h)⟩
  by_cases q : b ∈ ι1
  · exact x.new b q n o e z
  · exact y.new b m q o (x.old b o n e z) z
theorem Ext.at {ι ι' : List Addr} {H H' : Hp} (x : Ext ι H ι' H') {i : Nat} {a : Addr} (e : ι[i]? = some a) : ι'[i]? = some a := by
  obtain ⟨t, rfl⟩ := x.pre
  rw [List.getElem?_append_left (List.getElem?_eq_some_iff.mp e).1]
  exact e
theorem rd_ext {ι ι' : List Addr} {H H' : Hp} {a : Addr} {u : HO} (x : Ext ι H ι' H') (n : a ∉ ι) (r : Rd H a u) (z : NT u) : Rd H' a u ∧ a ∉ ι' := by
  rcases r with r | ⟨o, r⟩
  · exact ⟨.inl (x.old _ _ n r z), x.nin n r z⟩
  · exact ⟨.inr ⟨o, x.old _ _ n r nt_frz⟩, x.nin n r nt_frz⟩
theorem TupAt.ext {K : PySem.W.Frag} {ι ι' X : List Addr} {H H' : Hp} {a : Addr} {xs : List V} (x : Ext ι H ι' H') (r : TupAt K ι X H a xs) : TupAt K ι' X H' a xs :=
  r.imp (fun ⟨n, m, r⟩ => let ⟨r, n⟩ := rd_ext x n r (by intro ps z; cases z); ⟨n, m, r⟩) id
theorem LstAt.ext {K : PySem.W.Frag} {ι ι' X : List Addr} {H H' : Hp} {a : Addr} {xs : List V} (x : Ext ι H ι' H') (r : LstAt K ι X H a xs) : LstAt K ι' X H' a xs :=
  r.imp (fun ⟨n, m, r⟩ => let ⟨r, n⟩ := rd_ext x n r (by intro ps z; cases z); ⟨n, m, r⟩) id
mutual
theorem RepP.ext {K : PySem.W.Frag} {ι ι' X : List Addr} {H H' : Hp} (x : Ext ι H ι' H') : ∀ {p : P} {v : V}, RepP K ι X H p v → RepP K ι' X H' p v
  | .non, _, r => by rw [RepP] at r ⊢; exact r
  | .bl _, _, r => by rw [RepP] at r ⊢; exact r
  | .int _, _, r => by rw [RepP] at r ⊢; exact r
  | .str _, _, r => by rw [RepP] at r ⊢; exact r
  | .con _, _, r => by rw [RepP] at r ⊢; exact r
  | .tup _, _, r => by
    rw [RepP] at r ⊢
    obtain ⟨a, xs, e, f, g⟩ := r
    exact ⟨a, xs, e, f.ext x, RepPs.ext x g⟩
  | .lst _, _, r => by
    rw [RepP] at r ⊢
    obtain ⟨a, xs, e, n, m, f, g⟩ := r
    exact ⟨a, xs, e, x.nin n f (by intro ps z; cases z), m, x.old _ _ n f (by intro ps z; cases z), RepPs.ext x g⟩
  | .dic _, _, r => by
    rw [RepP] at r ⊢
    obtain ⟨a, xs, e, n, m, f, g⟩ := r
    exact ⟨a, xs, e, x.nin n f (by intro ps z; cases z), m, x.old _ _ n f (by intro ps z; cases z), RepKs.ext x g⟩
  | .ins _ _, _, r => by
    rw [RepP] at r ⊢
    obtain ⟨a, dx, xs, e, n, m, f, g⟩ := r
    exact ⟨a, dx, xs, e, x.nin n f (by intro ps z; cases z), m, x.old _ _ n f (by intro ps z; cases z), RepFs.ext x g⟩
  | .scr _, _, r => by
    rw [RepP] at r ⊢
    obtain ⟨a, e, f⟩ := r
    exact ⟨a, e, f.ext x⟩
theorem RepPs.ext {K : PySem.W.Frag} {ι ι' X : List Addr} {H H' : Hp} (x : Ext ι H ι' H') : ∀ {p : List P} {v : List V}, RepPs K ι X H p v → RepPs K ι' X H' p v
  | [], _, r => by rw [RepPs] at r ⊢; exact r
  | _ :: _, _, r => by
    rw [RepPs] at r ⊢
    obtain ⟨y, ys, e, f, g⟩ := r
    exact ⟨y, ys, e, RepP.ext x f, RepPs.ext x g⟩
theorem RepKs.ext {K : PySem.W.Frag} {ι ι' X : List Addr} {H H' : Hp} (x : Ext ι H ι' H') : ∀ {p : List (P × P)} {v : List (Key × V)}, RepKs K ι X H p v → RepKs K ι' X H' p v
  | [], _, r => by rw [RepKs] at r ⊢; exact r
  | (_, _) :: _, _, r => by
    rw [RepKs] at r ⊢
    obtain ⟨c, y, ys, e, f, g, h⟩ := r
    exact ⟨c, y, ys, e, RepP.ext x f, RepP.ext x g, RepKs.ext x h⟩
theorem RepFs.ext {K : PySem.W.Frag} {ι ι' X : List Addr} {H H' : Hp} (x : Ext ι H ι' H') : ∀ {p : List (Str × P)} {v : List (Str × V)}, RepFs K ι X H p v → RepFs K ι' X H' p v
  | [], _, r => by rw [RepFs] at r ⊢; exact r
  | (_, _) :: _, _, r => by
    rw [RepFs] at r ⊢
    obtain ⟨y, ys, e, f, g⟩ := r
    exact ⟨y, ys, e, RepP.ext x f, RepFs.ext x g⟩
end
theorem RepD.ext {K : PySem.W.Frag} {ι ι' X : List Addr} {H H' : Hp} (x : Ext ι H ι' H') : ∀ {p : D} {v : V}, RepD K ι X H p v → RepD K ι' X H' p v
  | .dat _, _, r => RepP.ext x r
  | .obj _, _, ⟨a, e, h⟩ => ⟨a, x.at e, h⟩
theorem RepDs.ext {K : PySem.W.Frag} {ι ι' X : List Addr} {H H' : Hp} (x : Ext ι H ι' H') : ∀ {p : List D} {v : List V}, RepDs K ι X H p v → RepDs K ι' X H' p v
  | [], _, r => r
  | _ :: _, _, ⟨y, ys, e, f, g⟩ => ⟨y, ys, e, f.ext x, RepDs.ext x g⟩
theorem RepDF.ext {K : PySem.W.Frag} {ι ι' X : List Addr} {H H' : Hp} (x : Ext ι H ι' H') : ∀ {p : List (Str × D)} {v : List (Str × V)}, RepDF K ι X H p v → RepDF K ι' X H' p v
  | [], _, r => r
  | (_, _) :: _, _, ⟨y, ys, e, f, g⟩ => ⟨y, ys, e, f.ext x, RepDF.ext x g⟩
theorem RepDK.ext {K : PySem.W.Frag} {ι ι' X : List Addr} {H H' : Hp} (x : Ext ι H ι' H') : ∀ {p : List (Key × D)} {v : List (Key × V)}, RepDK K ι X H p v → RepDK K ι' X H' p v
  | [], _, r => r
  | (_, _) :: _, _, ⟨y, ys, e, f, g⟩ => ⟨y, ys, e, f.ext x, RepDK.ext x g⟩
structure OutP (ι X : List Addr) (H : Hp) (ι' X' : List Addr) (H' : Hp) : Prop where
  ok : ∀ a o, a ∉ ι → a ∉ X → H a = some o → NT o → H' a = some o ∧ a ∉ ι' ∧ a ∉ X'
structure Out1 (ι X : List Addr) (H : Hp) (ι' X' : List Addr) (H' : Hp) : Prop where
  at_ : ∀ {i : Nat} {a : Addr}, ι[i]? = some a → ι'[i]? = some a
  ok : ∀ a o, a ∉ ι → a ∉ X → H a = some o → NT o → H' a = some o ∧ a ∉ ι' ∧ a ∉ X'
theorem TupAt.out {K : PySem.W.Frag} {ι X ι' X' : List Addr} {H H' : Hp} {a : Addr} {xs : List V} (x : OutP ι X H ι' X' H') (r : TupAt K ι X H a xs) : TupAt K ι' X' H' a xs :=
  r.imp (fun ⟨n, m, r⟩ => by
    rcases r with r | ⟨o, r⟩
    · obtain ⟨p, q, s⟩ := x.ok _ _ n m r (by intro ps z; cases z)
      exact ⟨q, s, .inl p⟩
    · obtain ⟨p, q, s⟩ := x.ok _ _ n m r (by intro ps z; cases z)
      exact ⟨q, s, .inr ⟨o, p⟩⟩) id
theorem LstAt.out {K : PySem.W.Frag} {ι X ι' X' : List Addr} {H H' : Hp} {a : Addr} {xs : List V} (x : OutP ι X H ι' X' H') (r : LstAt K ι X H a xs) : LstAt K ι' X' H' a xs :=
  r.imp (fun ⟨n, m, r⟩ => by
    rcases r with r | ⟨o, r⟩
    · obtain ⟨p, q, s⟩ := x.ok _ _ n m r (by intro ps z; cases z)
      exact ⟨q, s, .inl p⟩
    · obtain ⟨p, q, s⟩ := x.ok _ _ n m r (by intro ps z; cases z)
      exact ⟨q, s, .inr ⟨o, p⟩⟩) id
mutual
theorem RepP.out {K : PySem.W.Frag} {ι X ι' X' : List Addr} {H H' : Hp} (x : OutP ι X H ι' X' H') : ∀ {p : P} {v : V}, RepP K ι X H p v → RepP K ι' X' H' p v
  | .non, _, r => by rw [RepP] at r ⊢; exact r
  | .bl _, _, r => by rw [RepP] at r ⊢; exact r
  | .int _, _, r => by rw [RepP] at r ⊢; exact r
  | .str _, _, r => by rw [RepP] at r ⊢; exact r
  | .con _, _, r => by rw [RepP] at r ⊢; exact r
  | .tup _, _, r => by
    rw [RepP] at r ⊢
    obtain ⟨a, xs, e, f, g⟩ := r
    exact ⟨a, xs, e, f.out x, RepPs.out x g⟩
  | .lst _, _, r => by
    rw [RepP] at r ⊢
    obtain ⟨a, xs, e, n, m, f, g⟩ := r
    obtain ⟨p, q, s⟩ := x.ok _ _ n m f (by intro ps z; cases z)
    exact ⟨a, xs, e, q, s, p, RepPs.out x g⟩
  | .dic _, _, r => by
    rw [RepP] at r ⊢
    obtain ⟨a, xs, e, n, m, f, g⟩ := r
    obtain ⟨p, q, s⟩ := x.ok _ _ n m f (by intro ps z; cases z)
    exact ⟨a, xs, e, q, s, p, RepKs.out x g⟩
  | .ins _ _, _, r => by
    rw [RepP] at r ⊢
    obtain ⟨a, dx, xs, e, n, m, f, g⟩ := r
    obtain ⟨p, q, s⟩ := x.ok _ _ n m f (by intro ps z; cases z)
    exact ⟨a, dx, xs, e, q, s, p, RepFs.out x g⟩
  | .scr _, _, r => by
    rw [RepP] at r ⊢
    obtain ⟨a, e, f⟩ := r
    exact ⟨a, e, f.out x⟩
theorem RepPs.out {K : PySem.W.Frag} {ι X ι' X' : List Addr} {H H' : Hp} (x : OutP ι X H ι' X' H') : ∀ {p : List P} {v : List V}, RepPs K ι X H p v → RepPs K ι' X' H' p v
  | [], _, r => by rw [RepPs] at r ⊢; exact r
  | _ :: _, _, r => by
    rw [RepPs] at r ⊢
    obtain ⟨y, ys, e, f, g⟩ := r
    exact ⟨y, ys, e, RepP.out x f, RepPs.out x g⟩
theorem RepKs.out {K : PySem.W.Frag} {ι X ι' X' : List Addr} {H H' : Hp} (x : OutP ι X H ι' X' H') : ∀ {p : List (P × P)} {v : List (Key × V)}, RepKs K ι X H p v → RepKs K ι' X' H' p v
  | [], _, r => by rw [RepKs] at r ⊢; exact r
  | (_, _) :: _, _, r => by
    rw [RepKs] at r ⊢
    obtain ⟨c, y, ys, e, f, g, h⟩ := r
    exact ⟨c, y, ys, e, RepP.out x f, RepP.out x g, RepKs.out x h⟩
theorem RepFs.out {K : PySem.W.Frag} {ι X ι' X' : List Addr} {H H' : Hp} (x : OutP ι X H ι' X' H') : ∀ {p : List (Str × P)} {v : List (Str × V)}, RepFs K ι X H p v → RepFs K ι' X' H' p v
  | [], _, r => by rw [RepFs] at r ⊢; exact r
  | (_, _) :: _, _, r => by
    rw [RepFs] at r ⊢
    obtain ⟨y, ys, e, f, g⟩ := r
    exact ⟨y, ys, e, RepP.out x f, RepFs.out x g⟩
end
section
variable {K : PySem.W.Frag} {ι X ι' X' : List Addr} {H H' : Hp} (x : Out1 ι X H ι' X' H')
include x
theorem Out1.p : OutP ι X H ι' X' H' := ⟨x.ok⟩
theorem RepD.out : ∀ {p : D} {v : V}, RepD K ι X H p v → RepD K ι' X' H' p v
  | .dat _, _, r => RepP.out (Out1.p x) r
  | .obj _, _, ⟨a, e, h⟩ => ⟨a, x.at_ e, h⟩
theorem RepDs.out : ∀ {p : List D} {v : List V}, RepDs K ι X H p v → RepDs K ι' X' H' p v
  | [], _, r => r
  | _ :: _, _, ⟨y, ys, e, f, g⟩ => ⟨y, ys, e, RepD.out x f, RepDs.out g⟩
theorem RepDF.out : ∀ {p : List (Str × D)} {v : List (Str × V)}, RepDF K ι X H p v → RepDF K ι' X' H' p v
  | [], _, r => r
  | (_, _) :: _, _, ⟨y, ys, e, f, g⟩ => ⟨y, ys, e, RepD.out x f, RepDF.out g⟩
theorem RepDK.out : ∀ {p : List (Key × D)} {v : List (Key × V)}, RepDK K ι X H p v → RepDK K ι' X' H' p v
  | [], _, r => r
  | (_, _) :: _, _, ⟨y, ys, e, f, g⟩ => ⟨y, ys, e, RepD.out x f, RepDK.out g⟩
end
theorem Out1.ext {ι ι' X : List Addr} {H H' : Hp} (x : Ext ι H ι' H') : Out1 ι X H ι' X H' := ⟨fun e => x.at e, fun a o n m e z => ⟨x.old a o n e z, x.nin n e z, m⟩⟩
end M3
namespace M3
open PySem PySem.Spec PyProof.Rows L2
variable [TabsP]
inductive R (α : Type)
  | ok (a : α) (S : Store) | exc (C : Addr) (x : Option (Str × P)) (S : Store) | fail
def R.bind {α β : Type} (r : R α) (f : α → Store → R β) : R β := match r with
  | .ok a S => f a S
  | .exc C x S => .exc C x S
  | .fail => .fail
@[simp] theorem R.bind_ok {α β : Type} {a : α} {S : Store} {f : α → Store → R β} : (R.ok a S).bind f = f a S := rfl
@[simp] theorem R.bind_exc {α β : Type} {C : Addr} {x : Option (Str × P)} {S : Store} {f : α → Store → R β} : (R.exc C x S : R α).bind f = .exc C x S := rfl
@[simp] theorem R.bind_fail {α β : Type} {f : α → Store → R β} : (R.fail : R α).bind f = .fail := rfl
abbrev DEnv := List (Option D)
abbrev DE := DEnv → Store → R D
abbrev DA := DEnv → Store → R (List D)
abbrev DT := DEnv → Store → R Bool
/-- a statement's end -/
inductive Out
  | nx (δ : DEnv) | rt (d : D) | bk (δ : DEnv) | ct (δ : DEnv) | ex (C : Addr) (x : Option (Str × P)) (δ : DEnv)
abbrev DS := DEnv → Store → R Out
section
variable (K : PySem.W.Frag)
def RepX (ι X : List Addr) (H : Hp) : Option (Str × P) → Option Addr → Prop
  | none, da => da = none
  | some (f, p), da => ∃ d v, da = some d ∧ H d = some (.xd [(f, v)]) ∧ RepP K ι X H p v
def RepE (ι X : List Addr) (H : Hp) (δ : DEnv) (σ : L2.St) : Prop := δ.length = σ.length ∧ ∀ (i : Nat) d, δ[i]? = some (some d) → ∃ v, σ[i]? = some (some v) ∧ RepD K ι X H d v
abbrev WK := Value → Option Addr → Hp → Prop
def Post {α β : Type} (X ι : List Addr) (H : Hp) (W : WK) (r : R α) (Rp : List Addr → Hp → α → β → Prop) (Q : β → Hp → Prop) : Prop := match r with
  | .ok a S' => ∀ ι' H' v, Ext ι H ι' H' → Rel K ι' X S' H' → Rp ι' H' a v → Q v H'
  | .exc C x S' => ∀ ι' H' da, Ext ι H ι' H' → Rel K ι' X S' H' → RepX K ι' X H' x da → W (.ref C) da H'
  | .fail => False
end
section
variable {K : PySem.W.Frag} {X ι : List Addr} {H : Hp} {α β γ ε : Type} {W : WK}
theorem Post.ext {r : R α} {Rp : List Addr → Hp → α → β → Prop} {Q : β → Hp → Prop} {ι1 : List Addr} {H1 : Hp} (x : Ext ι H ι1 H1) (h : Post K X ι H W r Rp Q) : Post K X ι1 H1 W r Rp Q := by
  cases r with
  | ok a S => exact fun ι' H' v y => h ι' H' v (x.trans y)
  | exc C z S => exact fun ι' H' v y => h ι' H' v (x.trans y)
  | fail => exact h
theorem Post.bind {r : R α} {f : α → Store → R γ} {Rp : List Addr → Hp → γ → ε → Prop} {Q : ε → Hp → Prop} {Rp1 : List Addr → Hp → α → β → Prop} {Q1 : β → Hp → Prop} (h : Post K X ι H W (r.bind f) Rp Q)
    (k : ∀ ι1 H1 a S1 v, Ext ι H ι1 H1 → Rel K ι1 X S1 H1 → Rp1 ι1 H1 a v → Post K X ι1 H1 W (f a S1) Rp Q → Q1 v H1) : Post K X ι H W r Rp1 Q1 := by
  cases r with
  | ok a S => exact fun ι' H' v x rel rp => k ι' H' a S v x rel rp (Post.ext x h)
  | exc C z S => exact h
  | fail => exact h
theorem Post.mono {r : R α} {Rp : List Addr → Hp → α → β → Prop} {Q : β → Hp → Prop} {Rp1 : List Addr → Hp → α → ε → Prop} {Q1 : ε → Hp → Prop} (h : Post K X ι H W r Rp Q)
    (k : ∀ ι1 H1 a v, Ext ι H ι1 H1 → Rp1 ι1 H1 a v → ∃ u, Rp ι1 H1 a u ∧ (Q u H1 → Q1 v H1)) : Post K X ι H W r Rp1 Q1 := by
  cases r with
  | ok a S => exact fun ι' H' v x rel rp => let ⟨u, a, b⟩ := k ι' H' _ v x rp; b (h ι' H' u x rel a)
  | exc C z S => exact h
  | fail => exact h
end
theorem RepE.ext {K : PySem.W.Frag} {ι ι' X : List Addr} {H H' : Hp} {δ : DEnv} {σ : L2.St} (x : Ext ι H ι' H') (r : RepE K ι X H δ σ) : RepE K ι' X H' δ σ := ⟨r.1, fun i d e => let ⟨v, a, b⟩ := r.2 i d e; ⟨v, a, b.ext x⟩⟩
theorem RepE.out {K : PySem.W.Frag} {ι ι' X X' : List Addr} {H H' : Hp} {δ : DEnv} {σ : L2.St} (x : Out1 ι X H ι' X' H') (r : RepE K ι X H δ σ) : RepE K ι' X' H' δ σ := ⟨r.1, fun i d e => let ⟨v, a, b⟩ := r.2 i d e; ⟨v, a, b.out x⟩⟩
theorem RepE.set {K : PySem.W.Frag} {ι X : List Addr} {H : Hp} {δ : DEnv} {σ : L2.St} {d : D} {v : V} {i : Nat} (r : RepE K ι X H δ σ) (q : RepD K ι X H d v) : RepE K ι X H (δ.set i (some d)) (σ.set i (some v)) := by
  refine ⟨by rw [List.length_set, List.length_set]; exact r.1, fun j e h => ?_⟩
  by_cases z : i = j
  · subst z
    have hi : i < δ.length := by have := (List.getElem?_eq_some_iff.mp h).1; rwa [List.length_set] at this
    rw [List.getElem?_set_self hi] at h
    cases h
    exact ⟨v, List.getElem?_set_self (by rw [← r.1]; exact hi), q⟩
  · rw [List.getElem?_set_ne z] at h
    obtain ⟨u, a, b⟩ := r.2 j e h
    exact ⟨u, by rw [List.getElem?_set_ne z]; exact a, b⟩
theorem RepE.wipe1 {K : PySem.W.Frag} {ι X : List Addr} {H : Hp} {δ : DEnv} {σ : L2.St} {i : Nat} (r : RepE K ι X H δ σ) : RepE K ι X H (δ.set i none) (σ.set i none) := by
  refine ⟨by rw [List.length_set, List.length_set]; exact r.1, fun j e h => ?_⟩
  by_cases z : i = j
  · subst z
    have hi : i < δ.length := by have := (List.getElem?_eq_some_iff.mp h).1; rwa [List.length_set] at this
    rw [List.getElem?_set_self hi] at h
    cases h
  · rw [List.getElem?_set_ne z] at h
    obtain ⟨u, a, b⟩ := r.2 j e h
    exact ⟨u, by rw [List.getElem?_set_ne z]; exact a, b⟩
def wipeD (δ : DEnv) : List Nat → DEnv
  | [] => δ
  | v :: vs => (wipeD δ vs).set v none
theorem RepE.wipe {K : PySem.W.Frag} {ι X : List Addr} {H : Hp} {δ : DEnv} {σ : L2.St} (r : RepE K ι X H δ σ) : ∀ vs, RepE K ι X H (wipeD δ vs) (wipe σ vs)
  | [] => r
  | v :: vs => (RepE.wipe r vs).wipe1
section
variable (K : PySem.W.Frag) (W : L2.St → WK)
def SE (t : TE) (m : DE) : Prop := ∀ ι X S H σ δ Q, Rel K ι X S H → RepE K ι X H δ σ → Post K X ι H (W σ) (m δ S) (fun ι' H' d v => RepD K ι' X H' d v) Q → t σ H Q
def SA (t : TA) (m : DA) : Prop := ∀ ι X S H σ δ Q, Rel K ι X S H → RepE K ι X H δ σ → Post K X ι H (W σ) (m δ S) (fun ι' H' d v => RepDs K ι' X H' d v) Q → t σ H Q
def ST (t : TT) (m : DT) : Prop := ∀ ι X S H σ δ Q, Rel K ι X S H → RepE K ι X H δ σ → Post K X ι H (W σ) (m δ S) (fun _ _ d v => v = d) Q → t σ H Q
/-- a new list, that nothing else knows -/
def PostL (X ι : List Addr) (H : Hp) (W : WK) (r : R (List D)) (Q : V → Hp → Prop) : Prop := match r with
  | .ok ds S' => ∀ ι' H' p xs, Ext ι H ι' H' → Rel K ι' (p :: X) S' H' → Free H p → H' p = some (.lst xs) → RepDs K ι' (p :: X) H' ds xs → Q (.ref p) H'
  | .exc C x S' => ∀ ι' H' da, Ext ι H ι' H' → Rel K ι' X S' H' → RepX K ι' X H' x da → W (.ref C) da H'
  | .fail => False
def SL (t : TE) (m : DA) : Prop := ∀ ι X S H σ δ Q, Rel K ι X S H → RepE K ι X H δ σ → PostL K X ι H (W σ) (m δ S) Q → t σ H Q
def PostS (X ι : List Addr) (H : Hp) (r : R Out) (E : Ends) : Prop := match r with
  | .ok (.nx δ) S' => ∀ ι' H' σ, Ext ι H ι' H' → Rel K ι' X S' H' → RepE K ι' X H' δ σ → E.nx σ H'
  | .ok (.bk δ) S' => ∀ ι' H' σ, Ext ι H ι' H' → Rel K ι' X S' H' → RepE K ι' X H' δ σ → E.bk σ H'
  | .ok (.ct δ) S' => ∀ ι' H' σ, Ext ι H ι' H' → Rel K ι' X S' H' → RepE K ι' X H' δ σ → E.ct σ H'
  | .ok (.rt d) S' => ∀ ι' H' v, Ext ι H ι' H' → Rel K ι' X S' H' → RepD K ι' X H' d v → E.rt v H'
  | .ok (.ex C x δ) S' => ∀ ι' H' da σ, Ext ι H ι' H' → Rel K ι' X S' H' → RepX K ι' X H' x da → RepE K ι' X H' δ σ → W σ (.ref C) da H'
  | .exc _ _ _ => False
  | .fail => False
def SS (t : TS) (m : DS) : Prop := ∀ ι X S H σ δ E, Rel K ι X S H → RepE K ι X H δ σ → PostS K W X ι H (m δ S) E → t E σ H
end
theorem ext_free {ι ι' : List Addr} {H H' : Hp} (x : Ext ι H ι' H') {p : Addr} (n : p ∉ ι') (e : Free H' p) : Free H p := fun u h z => by
  have n1 : p ∉ ι := fun m => by
    obtain ⟨t, et⟩ := x.pre
    exact n (by rw [et]; exact List.mem_append_left _ m)
  exact e u (x.old p u n1 h z) z
theorem PostS.ext {K : PySem.W.Frag} {W : L2.St → WK} {X ι : List Addr} {H : Hp} {r : R Out} {E : Ends} {ι1 : List Addr} {H1 : Hp} (x : Ext ι H ι1 H1) (h : PostS K W X ι H r E) : PostS K W X ι1 H1 r E := by
  cases r with
  | ok o S => cases o with
    | nx => exact fun ι' H' v y => h ι' H' v (x.trans y)
    | bk => exact fun ι' H' v y => h ι' H' v (x.trans y)
    | ct => exact fun ι' H' v y => h ι' H' v (x.trans y)
    | rt => exact fun ι' H' v y => h ι' H' v (x.trans y)
    | ex => exact fun ι' H' v σ y => h ι' H' v σ (x.trans y)
  | exc C z S => exact h
  | fail => exact h
/-- an expression's result within a statement -/
def R.st {α : Type} (r : R α) (δ : DEnv) (f : α → Store → R Out) : R Out := match r with
  | .ok a S => f a S
  | .exc C x S => .ok (.ex C x δ) S
  | .fail => .fail
@[simp] theorem R.st_ok {α : Type} {a : α} {S : Store} {δ : DEnv} {f : α → Store → R Out} : (R.ok a S).st δ f = f a S := rfl
@[simp] theorem R.st_exc {α : Type} {C : Addr} {x : Option (Str × P)} {S : Store} {δ : DEnv} {f : α → Store → R Out} : (R.exc C x S : R α).st δ f = .ok (.ex C x δ) S := rfl
@[simp] theorem R.st_fail {α : Type} {δ : DEnv} {f : α → Store → R Out} : (R.fail : R α).st δ f = .fail := rfl
theorem PostS.st {K : PySem.W.Frag} {W : L2.St → WK} {X ι : List Addr} {H : Hp} {α β : Type} {r : R α} {δ : DEnv} {σ : L2.St} {f : α → Store → R Out} {E : Ends} {Rp : List Addr → Hp → α → β → Prop} {Q : β → Hp → Prop} (re : RepE K ι X H δ σ) (h : PostS K W X ι H (r.st δ f) E)
    (k : ∀ ι1 H1 a S1 v, Ext ι H ι1 H1 → Rel K ι1 X S1 H1 → Rp ι1 H1 a v → PostS K W X ι1 H1 (f a S1) E → Q v H1) : Post K X ι H (W σ) r Rp Q := by
  cases r with
  | ok a S => exact fun ι' H' v x rel rp => k ι' H' a S v x rel rp (PostS.ext x h)
  | exc C z S => exact fun ι' H' da x rel rx => h ι' H' da σ x rel rx (re.ext x)
  | fail => exact h
end M3
namespace M3
open PySem PySem.Spec PyProof.Rows L2
variable [TabsP]
def oR {α : Type} (o : Option α) (S : Store) : R α := match o with
  | some a => .ok a S
  | none => .fail
@[simp] theorem oR_some {α : Type} {a : α} {S : Store} : oR (some a) S = .ok a S := rfl
@[simp] theorem oR_none {α : Type} {S : Store} : (oR none S : R α) = .fail := rfl
def mVar (i : Nat) : DE := fun δ S => match δ[i]? with
  | some (some d) => .ok d S
  | _ => .fail
def mC (p : P) : DE := fun _ S => .ok (.dat p) S
def mOp (f : Store → D → D → Option D) (a b : DE) : DE := fun δ S => (a δ S).bind fun x S1 => (b δ S1).bind fun y S2 => oR (f S2 x y) S2
def mUn (f : Store → D → Option D) (a : DE) : DE := fun δ S => (a δ S).bind fun x S1 => oR (f S1 x) S1
def mNil : DA := fun _ S => .ok [] S
def mCons (a : DE) (r : DA) : DA := fun δ S => (a δ S).bind fun x S1 => (r δ S1).bind fun xs S2 => .ok (x :: xs) S2
/-- all are data -/
def datAll : List D → Option (List P)
  | [] => some []
  | .dat p :: ds => (datAll ds).map (p :: ·)
  | .obj _ :: _ => none
def mTup (a : DA) : DE := fun δ S => (a δ S).bind fun ds S1 => match datAll ds with
  | some ps => if ps.length ≤ 100000 then .ok (.dat (.tup ps)) S1 else .fail
  | none => .fail
def mLst (a : DA) : DA := fun δ S => (a δ S).bind fun ds S1 => if ds.length ≤ 100000 then .ok ds S1 else .fail
/-- a new list that will not change -/
def mFrz (a : DA) : DE := fun δ S => (a δ S).bind fun ds S1 => match datAll ds with
  | some ps => .ok (.dat (.lst ps)) S1
  | none => .fail
/-- a new list that may change -/
def mTrk (a : DA) : DE := fun δ S => (a δ S).bind fun ds S1 => .ok (.obj S1.length) (S1 ++ [.lst ds])
def asB : D → Option Bool
  | .dat (.bl b) => some b
  | _ => none
def mAnd (a b : DE) : DE := fun δ S => (a δ S).bind fun x S1 => match asB x with
  | some true => b δ S1
  | some false => .ok (.dat (.bl false)) S1
  | none => .fail
def mOr (a b : DE) : DE := fun δ S => (a δ S).bind fun x S1 => match asB x with
  | some true => .ok (.dat (.bl true)) S1
  | some false => b δ S1
  | none => .fail
def mNot (a : DE) : DE := fun δ S => (a δ S).bind fun x S1 => match asB x with
  | some b => .ok (.dat (.bl (!b))) S1
  | none => .fail
def mTst (a : DE) : DT := fun δ S => (a δ S).bind fun x S1 => oR (asB x) S1
def mAndT (a b : DT) : DT := fun δ S => (a δ S).bind fun x S1 => match x with
  | true => b δ S1
  | false => .ok false S1
def mOrT (a b : DT) : DT := fun δ S => (a δ S).bind fun x S1 => match x with
  | true => .ok true S1
  | false => b δ S1
def mNotT (a : DT) : DT := fun δ S => (a δ S).bind fun x S1 => .ok (!x) S1
def mIf (c : DT) (a b : DE) : DE := fun δ S => (c δ S).bind fun x S1 => match x with
  | true => a δ S1
  | false => b δ S1
def mChain (f g : Store → D → D → Option D) (a b c : DE) : DE := fun δ S => (a δ S).bind fun x S1 => (b δ S1).bind fun y S2 => (oR (f S2 x y) S2).bind fun z S3 => match asB z with
  | some true => (c δ S3).bind fun w S4 => oR (g S4 y w) S4
  | some false => .ok (.dat (.bl false)) S3
  | none => .fail
def mCall (f : Store → List D → Option D) (a : DA) : DE := fun δ S => (a δ S).bind fun ds S1 => oR (f S1 ds) S1
/-- a call of a def -/
def mDef (n : Nat) (f : List D → Store → R D) (a : DA) : DE := fun δ S => (a δ S).bind fun ds S1 => if ds.length = n then f ds S1 else .fail
def mNext : DS := fun δ S => .ok (.nx δ) S
def mSeq (a b : DS) : DS := fun δ S => match a δ S with
  | .ok (.nx δ1) S1 => b δ1 S1
  | r => r
def mRet (a : DE) : DS := fun δ S => (a δ S).st δ fun d S1 => .ok (.rt d) S1
def mRetN : DS := fun δ S => .ok (.rt (.dat .non)) S
def mDrop (a : DE) : DS := fun δ S => (a δ S).st δ fun _ S1 => .ok (.nx δ) S1
def mIfS (c : DT) (a b : DS) : DS := fun δ S => (c δ S).st δ fun x S1 => match x with
  | true => a δ S1
  | false => b δ S1
def mBrk : DS := fun δ S => .ok (.bk δ) S
def mCnt : DS := fun δ S => .ok (.ct δ) S
def mPar (i j : Nat) (a : DA) : DS := fun δ S => (a δ S).st δ fun ds S1 => match ds with
  | [x, y] => .ok (.nx ((δ.set i (some x)).set j (some y))) S1
  | _ => .fail
/-- targets -/
abbrev DG := D → DEnv → Store → R DEnv
abbrev DGs := List D → DEnv → Store → R DEnv
def gmName (i : Nat) : DG := fun d δ S => .ok (δ.set i (some d)) S
def gmNil : DGs := fun ds δ S => match ds with
  | [] => .ok δ S
  | _ => .fail
def gmCons (g : DG) (r : DGs) : DGs := fun ds δ S => match ds with
  | d :: ds => (g d δ S).bind fun δ1 S1 => r ds δ1 S1
  | [] => .fail
def gmTup (n : Nat) (g : DGs) : DG := fun d δ S => match d with
  | .dat (.tup ps) => if ps.length = n then g (ps.map .dat) δ S else .fail
  | .obj i => (match S[i]? with
    | some (.tup l) => if l.length = n then g l δ S else .fail
    | _ => .fail)
  | _ => .fail
def mAsg (a : DE) (g : DG) : DS := fun δ S => (a δ S).st δ fun d S1 => (g d δ S1).st δ fun δ1 S2 => .ok (.nx δ1) S2
/-- a turn's end: go on, or leave -/
def mTurn (o : R Out) (next : DEnv → Store → R Out) : R Out := match o with
  | .ok (.nx δ) S => next δ S
  | .ok (.ct δ) S => next δ S
  | .ok (.bk δ) S => .ok (.nx δ) S
  | r => r
def mWhileN (c : DT) (b : DS) : Nat → DS
  | 0 => fun _ _ => .fail
  | n + 1 => fun δ S => (c δ S).st δ fun x S1 => match x with
    | true => mTurn (b δ S1) (mWhileN c b n)
    | false => .ok (.nx δ) S1
def FUEL : Nat := 1000000000
def mWhile (c : DT) (b : DS) : DS := mWhileN c b FUEL
def mForL (g : DG) (b : DS) : List D → DS
  | [] => fun δ S => .ok (.nx δ) S
  | d :: ds => fun δ S => mTurn ((g d δ S).st δ b) (mForL g b ds)
/-- over a list that may change; its length does not -/
def mForO (g : DG) (b : DS) (o n : Nat) : Nat → Nat → DS
  | 0, _ => fun δ S => match S[o]? with
    | some (.lst l) => if l.length = n then .ok (.nx δ) S else .fail
    | _ => .fail
  | k + 1, i => fun δ S => match S[o]? with
    | some (.lst l) => if l.length = n then (match l[i]? with
      | some d => mTurn ((g d δ S).st δ b) (mForO g b o n k (i + 1))
      | none => .fail) else .fail
    | _ => .fail
/-- what is walked: items that stay, or an object -/
inductive Wk | items (l : List D) | ob (o : Nat)
abbrev DI := DEnv → Store → R Wk
def mFor (w : DI) (g : DG) (b : DS) : DS := fun δ S => (w δ S).st δ fun k S1 => match k with
  | .items l => mForL g b l δ S1
  | .ob o => match S1[o]? with
    | some (.lst l) => mForO g b o l.length l.length 0 δ S1
    | _ => .fail
/-- comprehensions: what is raised within them is not carried -/
def R.bnf {α β : Type} (r : R α) (f : α → Store → R β) : R β := match r with
  | .ok a S => f a S
  | _ => .fail
@[simp] theorem R.bnf_ok {α β : Type} {a : α} {S : Store} {f : α → Store → R β} : (R.ok a S).bnf f = f a S := rfl
@[simp] theorem R.bnf_exc {α β : Type} {C : Addr} {x : Option (Str × P)} {S : Store} {f : α → Store → R β} : (R.exc C x S : R α).bnf f = .fail := rfl
@[simp] theorem R.bnf_fail {α β : Type} {f : α → Store → R β} : (R.fail : R α).bnf f = .fail := rfl
def mLcL (g : DG) (t : DT) (e : DE) (vs : List Nat) (δ0 : DEnv) : List D → List D → Store → R (List D)
  | [], acc, S => .ok acc S
  | d :: ds, acc, S => (g d (wipeD δ0 vs) S).bnf fun δ1 S1 => (t δ1 S1).bnf fun b S2 => match b with
    | true => (e δ1 S2).bnf fun y S3 => if acc.length < 100000 then mLcL g t e vs δ0 ds (acc ++ [y]) S3 else .fail
    | false => mLcL g t e vs δ0 ds acc S2
def mLcO (g : DG) (t : DT) (e : DE) (vs : List Nat) (δ0 : DEnv) (o n : Nat) : Nat → Nat → List D → Store → R (List D)
  | 0, _, acc, S => match S[o]? with
    | some (.lst l) => if l.length = n then .ok acc S else .fail
    | _ => .fail
  | k + 1, i, acc, S => match S[o]? with
    | some (.lst l) => if l.length = n then (match l[i]? with
      | some d => (g d (wipeD δ0 vs) S).bnf fun δ1 S1 => (t δ1 S1).bnf fun b S2 => match b with
        | true => (e δ1 S2).bnf fun y S3 => if acc.length < 100000 then mLcO g t e vs δ0 o n k (i + 1) (acc ++ [y]) S3 else .fail
        | false => mLcO g t e vs δ0 o n k (i + 1) acc S2
      | none => .fail) else .fail
    | _ => .fail
def mYes : DT := fun _ S => .ok true S
def mLc (w : DI) (g : DG) (t : DT) (e : DE) (vs : List Nat) : DA := fun δ S => (w δ S).bind fun k S1 => match k with
  | .items l => (mLcL g t e vs δ l [] S1).bnf fun ds S2 => .ok ds S2
  | .ob o => match S1[o]? with
    | some (.lst l) => (mLcO g t e vs δ o l.length l.length 0 [] S1).bnf fun ds S2 => .ok ds S2
    | _ => .fail
def mBody (N : Nat) (b : DS) (ds : List D) (S : Store) : R D := match b (ds.map some ++ List.replicate (N - ds.length) none) S with
  | .ok (.nx _) S' => .ok (.dat .non) S'
  | .ok (.rt d) S' => .ok d S'
  | .ok (.ex C x _) S' => .exc C x S'
  | _ => .fail
/-- fields of data -/
def datF : List (Str × D) → Option (List (Str × P))
  | [] => some []
  | (f, .dat p) :: ds => (datF ds).map ((f, p) :: ·)
  | (_, .obj _) :: _ => none
/-- an object taken out of its store -/
def frz1 (S : Store) (i : Nat) : Option P := match S[i]? with
  | some (.lst l) => (datAll l).map .lst
  | some (.ins C l) => (datF l).map (.ins C)
  | _ => none
def D.lt (n : Nat) : D → Bool
  | .dat _ => true
  | .obj i => decide (i < n)
def O.lt (n : Nat) : O → Bool
  | .lst l => l.all (D.lt n)
  | .ins _ l => l.all fun p => p.2.lt n
  | .dic l => l.all fun p => p.2.lt n
  | .tup l => l.all (D.lt n)
/-- a def that sees data alone, and leaves nothing: its objects are its own -/
def mPure (f : List D → Store → R D) (ds : List D) (S : Store) : R D := match datAll ds with
  | none => .fail
  | some _ => match f ds [] with
    | .ok (.dat p) _ => .ok (.dat p) S
    | .ok (.obj i) S' => (match frz1 S' i with
        | some p => .ok (.dat p) S
        | none => .fail)
    | .exc C x _ => .exc C x S
    | .fail => .fail
/-- a def whose own objects go when it ends -/
def mScope (f : List D → Store → R D) (ds : List D) (S : Store) : R D := match f ds S with
  | .ok (.dat p) S' => if (S'.take S.length).all (O.lt S.length) = true then .ok (.dat p) (S'.take S.length) else .fail
  | .ok (.obj i) S' => if (S'.take S.length).all (O.lt S.length) = true then (if i < S.length then .ok (.obj i) (S'.take S.length) else match frz1 S' i with
      | some p => .ok (.dat p) (S'.take S.length)
      | none => .fail) else .fail
  | .exc C x S' => if (S'.take S.length).all (O.lt S.length) = true then .exc C x (S'.take S.length) else .fail
  | .fail => .fail
/-- a new instance, then its __init__ -/
def mkC (C : Addr) (f : List D → Store → R D) (ds : List D) (S : Store) : R D := (f (.obj S.length :: ds) (S ++ [.ins C []])).bind fun d S' => match d with
  | .dat .non => .ok (.obj S.length) S'
  | _ => .fail
end M3
namespace M3
open PySem PySem.Spec PyProof.Rows L2
variable [TabsP]
theorem nd_inj {α : Type} : ∀ {l : List α} {i j : Nat} {a : α}, l.Nodup → l[i]? = some a → l[j]? = some a → i = j
  | [], i, j, a, _, e, _ => by simp at e
  | b :: l, 0, 0, a, _, _, _ => rfl
  | b :: l, 0, j + 1, a, nd, e, f => by
    have e1 : b = a := by simpa using e
    subst e1
    exact absurd (List.mem_of_getElem? (by simpa using f)) (List.nodup_cons.mp nd).1
  | b :: l, i + 1, 0, a, nd, e, f => by
    have e1 : b = a := by simpa using f
    subst e1
    exact absurd (List.mem_of_getElem? (by simpa using e)) (List.nodup_cons.mp nd).1
  | b :: l, i + 1, j + 1, a, nd, e, f => congrArg (· + 1) (nd_inj (l := l) (i := i) (j := j) (a := a) (List.nodup_cons.mp nd).2 (by simpa using e) (by simpa using f))
section
variable {K : PySem.W.Frag} {ι X : List Addr} {S : Store} {H : Hp}
theorem Rel.obj (r : Rel K ι X S H) {i : Nat} {a : Addr} (e : ι[i]? = some a) : ∃ o, S[i]? = some o ∧ RepO K ι X H o a := by
  have hi : i < S.length := by rw [← r.len]; exact (List.getElem?_eq_some_iff.mp e).1
  exact ⟨S[i], List.getElem?_eq_getElem hi, r.at_ i _ a (List.getElem?_eq_getElem hi) e⟩
/-- neither a table nor a code object -/
def Pl (u : HO) : Prop := NT u ∧ ∀ f, u ≠ .ext f
theorem RepO.pl {o : O} {a : Addr} (r : RepO K ι X H o a) : ∃ u, H a = some u ∧ Pl u := by
  cases o with
  | lst l => obtain ⟨xs, e, _⟩ := r; exact ⟨_, e, nt_lst, fun f z => by cases z⟩
  | ins C l => obtain ⟨dx, xs, e, _⟩ := r; exact ⟨_, e, nt_ins, fun f z => by cases z⟩
  | dic l => obtain ⟨xs, e, _⟩ := r; exact ⟨_, e, nt_dK, fun f z => by cases z⟩
  | tup l => obtain ⟨xs, e, _⟩ := r; exact ⟨_, e, nt_tup, fun f z => by cases z⟩
theorem RepO.some {o : O} {a : Addr} (r : RepO K ι X H o a) : ∃ u, H a = some u := let ⟨u, e, _⟩ := r.pl; ⟨u, e⟩
theorem Rel.pl (r : Rel K ι X S H) {a : Addr} (m : a ∈ ι) : ∃ u, H a = some u ∧ Pl u := by
  obtain ⟨i, hi, e⟩ := List.getElem_of_mem m
  obtain ⟨o, _, q⟩ := r.obj (List.getElem?_eq_some_iff.mpr ⟨hi, e⟩)
  exact q.pl
theorem Rel.mem (r : Rel K ι X S H) {a : Addr} (m : a ∈ ι) : ∃ u, H a = some u := let ⟨u, e, _⟩ := r.pl m; ⟨u, e⟩
theorem Rel.nin (r : Rel K ι X S H) {p : Addr} (hp : H p = none) : p ∉ ι ∧ p ∉ X := by
  constructor
  · intro m
    obtain ⟨u, e⟩ := r.mem m
    rw [hp] at e
    cases e
  · intro m
    obtain ⟨_, u, e, _⟩ := r.ex p m
    rw [hp] at e
    cases e
theorem Rel.ninF (r : Rel K ι X S H) {p : Addr} (hp : Free H p) : p ∉ ι ∧ p ∉ X :=
  ⟨fun m => let ⟨u, e, z⟩ := r.pl m; hp u e z.1, fun m => let ⟨_, u, e, z⟩ := r.ex p m; hp u e z⟩
theorem tabs_new {p : Addr} {o : HO} (hp : H p = none) (t : LamX.Tabs TabsP.T H) : LamX.Tabs TabsP.T (upd H p o) := t.ext fun b u e => by rw [upd_ne (ne_of_none e hp)]; exact e
theorem tabs_put {a : Addr} {u w : HO} (ha : H a = some u) (pl : Pl u) (t : LamX.Tabs TabsP.T H) : LamX.Tabs TabsP.T (upd H a w) := fun p hp => by
  obtain ⟨ps, h1, h2, h3⟩ := t p hp
  refine ⟨ps, by rw [upd_ne (fun z => by rw [z, ha] at h1; exact pl.1 ps (Option.some.inj h1))]; exact h1, h2, fun pos cv hc => ?_⟩
  obtain ⟨c, e1, e2⟩ := h3 pos cv hc
  refine ⟨c, e1, ?_⟩
  rw [upd_ne (fun z => by
    rw [z, ha] at e2
    have := Option.some.inj e2
    unfold LamX.CodeO at this
    exact pl.2 _ this)]
  exact e2
theorem RepO.out {ι' X' : List Addr} {H' : Hp} {o : O} {a : Addr} (x : Out1 ι X H ι' X' H') (e : H' a = H a) (r : RepO K ι X H o a) : RepO K ι' X' H' o a := by
  cases o with
  | lst l => obtain ⟨xs, f, g⟩ := r; exact ⟨xs, by rw [e]; exact f, g.out x⟩
  | ins C l => obtain ⟨dx, xs, f, g⟩ := r; exact ⟨dx, xs, by rw [e]; exact f, g.out x⟩
  | dic l => obtain ⟨xs, f, g⟩ := r; exact ⟨xs, by rw [e]; exact f, g.out x⟩
  | tup l => obtain ⟨xs, f, g⟩ := r; exact ⟨xs, by rw [e]; exact f, g.out x⟩
theorem ext_alloc {p : Addr} {o : HO} (r : Rel K ι X S H) (hp : H p = none) : Ext ι H ι (upd H p o) :=
  ⟨⟨[], by simp⟩, fun b u _ e _ => by rw [upd_ne (ne_of_none e hp)]; exact e, fun b m n => absurd m n, tabs_new hp⟩
/-- a new object that is not tracked -/
theorem Rel.alloc {p : Addr} {o : HO} (r : Rel K ι X S H) (hp : H p = none) : Rel K ι X S (upd H p o) := by
  have x := Out1.ext (X := X) (ext_alloc (o := o) r hp)
  refine ⟨r.len, r.nd, fun i u a e f => ?_, fun a m => ⟨(r.ex a m).1, ?_⟩, tabs_new hp r.tabs⟩
  · have q := r.at_ i u a e f
    obtain ⟨w, hw⟩ := q.some
    exact q.out x (upd_ne (ne_of_none hw hp))
  · obtain ⟨_, u, e, z⟩ := r.ex a m
    exact ⟨u, by rw [upd_ne (ne_of_none e hp)]; exact e, z⟩
/-- a change that is seen nowhere else -/
theorem Rel.keep {ι' X' : List Addr} {H' : Hp} (r : Rel K ι X S H) (x : Out1 ι X H ι' X' H') (hi : ι' = ι) (k : ∀ a ∈ ι, H' a = H a) (hX : ∀ a ∈ X', a ∉ ι' ∧ ∃ o, H' a = some o ∧ NT o) (ht : LamX.Tabs TabsP.T H') : Rel K ι' X' S H' := by
  subst hi
  exact ⟨r.len, r.nd, fun i u a e f => (r.at_ i u a e f).out x (k a (List.mem_of_getElem? f)), hX, ht⟩
/-- an object changes -/
theorem Rel.put {i : Nat} {a : Addr} {o : O} {u : HO} (r : Rel K ι X S H) (e : ι[i]? = some a) (new : RepO K ι X (upd H a u) o a) : Rel K ι X (S.set i o) (upd H a u) ∧ Ext ι H ι (upd H a u) := by
  have ma : a ∈ ι := List.mem_of_getElem? e
  obtain ⟨u0, hu0, pl0⟩ := r.pl ma
  have x : Ext ι H ι (upd H a u) := ⟨⟨[], by simp⟩, fun b w n h _ => by rw [upd_ne (fun z => n (by rw [z]; exact ma))]; exact h, fun b m n => absurd m n, tabs_put hu0 pl0⟩
  refine ⟨⟨by rw [List.length_set]; exact r.len, r.nd, fun j w b hw hb => ?_, fun b m => ⟨(r.ex b m).1, ?_⟩, tabs_put hu0 pl0 r.tabs⟩, x⟩
  · by_cases z : i = j
    · subst z
      have hi : i < S.length := by have := (List.getElem?_eq_some_iff.mp hw).1; rwa [List.length_set] at this
      rw [List.getElem?_set_self hi] at hw
      cases hw
      rw [e] at hb
      cases hb
      exact new
    · rw [List.getElem?_set_ne z] at hw
      have ne : b ≠ a := fun q => by
        subst q
        exact z (nd_inj r.nd e hb)
      exact (r.at_ j w b hw hb).out (Out1.ext x) (upd_ne ne)
  · obtain ⟨n, w, h, z⟩ := r.ex b m
    exact ⟨w, by rw [upd_ne (fun z => n (by rw [z]; exact ma))]; exact h, z⟩
/-- a new object that is tracked -/
theorem Rel.track {Y : List Addr} {a : Addr} {o : O} {ι0 : List Addr} {H0 : Hp} (x : Ext ι0 H0 ι H) (h0 : Free H0 a) (r : Rel K ι X S H) (n : a ∉ ι) (m : a ∉ Y) (hY : ∀ b ∈ Y, b ∈ X) (hr : RepO K (ι ++ [a]) Y H o a)
    (k : ∀ b ∈ ι, ∀ w, RepO K ι X H w b → RepO K (ι ++ [a]) Y H w b) : Rel K (ι ++ [a]) Y (S ++ [o]) H ∧ Ext ι0 H0 (ι ++ [a]) H := by
  refine ⟨⟨by rw [List.length_append, List.length_append, r.len]; rfl, ?_, fun i w b hw hb => ?_, fun b mb => ⟨fun q => ?_, (r.ex b (hY b mb)).2⟩, r.tabs⟩, ?_⟩
  · refine List.nodup_append.mpr ⟨r.nd, by simp, fun b mb c mc => ?_⟩
    rw [List.mem_singleton.mp mc]
    exact fun q => n (q ▸ mb)
  · by_cases z : i < S.length
    · rw [List.getElem?_append_left z] at hw
      rw [List.getElem?_append_left (by rw [r.len]; exact z)] at hb
      exact k b (List.mem_of_getElem? hb) w (r.at_ i w b hw hb)
    · rw [List.getElem?_append_right (by omega)] at hw
      rw [List.getElem?_append_right (by rw [r.len]; omega), r.len] at hb
      have zi : i - S.length = 0 := by
        have := (List.getElem?_eq_some_iff.mp hw).1
        simp at this
        omega
      rw [zi] at hw hb
      cases hw
      cases hb
      exact hr
  · rcases List.mem_append.mp q with q | q
    · exact (r.ex b (hY b mb)).1 q
    · rw [List.mem_singleton.mp q] at mb
      exact m mb
  · obtain ⟨t, et⟩ := x.pre
    refine ⟨⟨t ++ [a], by rw [et, List.append_assoc]⟩, x.old, fun b mb nb => ?_, x.tab⟩
    rcases List.mem_append.mp mb with q | q
    · exact x.new b q nb
    · rw [List.mem_singleton.mp q]
      exact h0
end
section
variable {K : PySem.W.Frag} {W : L2.St → WK}
theorem se_var {i : Nat} : SE K W (tVar i) (mVar i) := by
  intro ι X S H σ δ Q rel re h
  unfold mVar at h
  split at h
  · rename_i d e
    obtain ⟨v, e2, rv⟩ := re.2 i d e
    exact ⟨v, e2, h ι H v Ext.refl rel rv⟩
  · exact h.elim
theorem se_c {v : V} {p : P} (hv : ∀ ι X H, RepP K ι X H p v) : SE K W (tC v) (mC p) := fun ι X S H σ δ Q rel re h => h ι H v Ext.refl rel (hv ι X H)
theorem rp_non {ι X : List Addr} {H : Hp} : RepP K ι X H .non .non := by rw [RepP]
theorem rp_bl {ι X : List Addr} {H : Hp} {b : Bool} : RepP K ι X H (.bl b) (.bl b) := by rw [RepP]
theorem rp_int {ι X : List Addr} {H : Hp} {b : Int} : RepP K ι X H (.int b) (.int b) := by rw [RepP]
theorem rp_str {ι X : List Addr} {H : Hp} {b : Str} : RepP K ι X H (.str b) (.str b) := by rw [RepP]
theorem rp_con {ι X : List Addr} {H : Hp} {b : V} : RepP K ι X H (.con b) b := by rw [RepP]
theorem rd_non {ι X : List Addr} {H : Hp} : RepD K ι X H (.dat .non) .non := by
  show RepP K ι X H _ _
  rw [RepP]
theorem rd_bl {ι X : List Addr} {H : Hp} {b : Bool} : RepD K ι X H (.dat (.bl b)) (.bl b) := by
  show RepP K ι X H _ _
  rw [RepP]
theorem rd_int {ι X : List Addr} {H : Hp} {b : Int} : RepD K ι X H (.dat (.int b)) (.int b) := by
  show RepP K ι X H _ _
  rw [RepP]
theorem rd_str {ι X : List Addr} {H : Hp} {b : Str} : RepD K ι X H (.dat (.str b)) (.str b) := by
  show RepP K ι X H _ _
  rw [RepP]
theorem se_int {i : Int} : SE K W (tC (.int i)) (mC (.int i)) := se_c fun _ _ _ => rp_int
theorem se_bl {i : Bool} : SE K W (tC (.bl i)) (mC (.bl i)) := se_c fun _ _ _ => rp_bl
theorem se_non : SE K W (tC .non) (mC .non) := se_c fun _ _ _ => rp_non
theorem se_str {i : Str} : SE K W (tC (.str i)) (mC (.str i)) := se_c fun _ _ _ => rp_str
theorem se_con {v : V} : SE K W (tC v) (mC (.con v)) := se_c fun _ _ _ => rp_con
/-- an operator by values, answered by a function of data -/
def R2S (K : PySem.W.Frag) (r : R2) (f : Store → D → D → Option D) : Prop := ∀ ι X S H x y v u d Q, Rel K ι X S H → RepD K ι X H x v → RepD K ι X H y u → f S x y = some d →
  (∀ H' w, Ext ι H ι H' → Rel K ι X S H' → RepD K ι X H' d w → Q w H') → r v u H Q
def R1S (K : PySem.W.Frag) (r : V → Hp → VK → Prop) (f : Store → D → Option D) : Prop := ∀ ι X S H x v d Q, Rel K ι X S H → RepD K ι X H x v → f S x = some d →
  (∀ H' w, Ext ι H ι H' → Rel K ι X S H' → RepD K ι X H' d w → Q w H') → r v H Q
def RCS (K : PySem.W.Frag) (r : List V → Hp → VK → Prop) (f : Store → List D → Option D) : Prop := ∀ ι X S H ds vs d Q, Rel K ι X S H → RepDs K ι X H ds vs → f S ds = some d →
  (∀ H' w, Ext ι H ι H' → Rel K ι X S H' → RepD K ι X H' d w → Q w H') → r vs H Q
theorem post_oR {X ι : List Addr} {S : Store} {H : Hp} {W : WK} {o : Option D} {Q : V → Hp → Prop} (h : Post K X ι H W (oR o S) (fun ι' H' d v => RepD K ι' X H' d v) Q) :
    ∃ d, o = some d ∧ ∀ H' w, Ext ι H ι H' → Rel K ι X S H' → RepD K ι X H' d w → Q w H' := by
  cases o with
  | none => exact h.elim
  | some d => exact ⟨d, rfl, fun H' w x r q => h ι H' w x r q⟩
theorem se_op {r : R2} {f : Store → D → D → Option D} {ta tb : TE} {a b : DE} (hr : R2S K r f) (ha : SE K W ta a) (hb : SE K W tb b) : SE K W (tOp r ta tb) (mOp f a b) := by
  intro ι X S H σ δ Q rel re h
  refine ha ι X S H σ δ _ rel re (Post.bind h fun ι1 H1 x S1 v x1 rel1 rv h1 => ?_)
  refine hb ι1 X S1 H1 σ δ _ rel1 (re.ext x1) (Post.bind h1 fun ι2 H2 y S2 u x2 rel2 ru h2 => ?_)
  obtain ⟨d, e, k⟩ := post_oR h2
  exact hr ι2 X S2 H2 x y v u d Q rel2 (rv.ext x2) ru e k
theorem se_un {r : V → Hp → VK → Prop} {f : Store → D → Option D} {ta : TE} {a : DE} (hr : R1S K r f) (ha : SE K W ta a) : SE K W (tUn r ta) (mUn f a) := by
  intro ι X S H σ δ Q rel re h
  refine ha ι X S H σ δ _ rel re (Post.bind h fun ι1 H1 x S1 v x1 rel1 rv h1 => ?_)
  obtain ⟨d, e, k⟩ := post_oR h1
  exact hr ι1 X S1 H1 x v d Q rel1 rv e k
theorem sa_nil : SA K W tNil mNil := fun ι X S H σ δ Q rel re h => h ι H [] Ext.refl rel rfl
theorem sa_cons {ta : TE} {tr : TA} {a : DE} {r : DA} (ha : SE K W ta a) (hr : SA K W tr r) : SA K W (tCons ta tr) (mCons a r) := by
  intro ι X S H σ δ Q rel re h
  refine ha ι X S H σ δ _ rel re (Post.bind h fun ι1 H1 x S1 v x1 rel1 rv h1 => ?_)
  refine hr ι1 X S1 H1 σ δ _ rel1 (re.ext x1) (Post.bind h1 fun ι2 H2 y S2 u x2 rel2 ru h2 => ?_)
  exact h2 ι2 H2 _ Ext.refl rel2 ⟨v, u, rfl, rv.ext x2, ru⟩
theorem se_call {r : List V → Hp → VK → Prop} {f : Store → List D → Option D} {t : TA} {a : DA} (hr : RCS K r f) (ha : SA K W t a) : SE K W (tCB r t) (mCall f a) := by
  intro ι X S H σ δ Q rel re h
  refine ha ι X S H σ δ _ rel re (Post.bind h fun ι1 H1 x S1 v x1 rel1 rv h1 => ?_)
  obtain ⟨d, e, k⟩ := post_oR h1
  exact hr ι1 X S1 H1 x v d Q rel1 rv e k
theorem datAll_rep {ι X : List Addr} {H : Hp} : ∀ {ds : List D} {ps : List P} {vs : List V}, datAll ds = some ps → RepDs K ι X H ds vs → RepPs K ι X H ps vs
  | [], ps, vs, e, r => by
    cases e
    rw [RepPs]
    exact r
  | .dat p :: ds, ps, vs, e, ⟨y, ys, ev, f, g⟩ => by
    unfold datAll at e
    cases q : datAll ds with
    | none => rw [q] at e; cases e
    | some qs =>
      rw [q] at e
      cases e
      rw [RepPs]
      exact ⟨y, ys, ev, f, datAll_rep q g⟩
  | .obj _ :: ds, ps, vs, e, r => by cases e
theorem repDs_dat {ι X : List Addr} {H : Hp} : ∀ {ps : List P} {vs : List V}, RepPs K ι X H ps vs → RepDs K ι X H (ps.map .dat) vs
  | [], vs, r => by rw [RepPs] at r; exact r
  | p :: ps, vs, r => by
    rw [RepPs] at r
    obtain ⟨y, ys, e, f, g⟩ := r
    exact ⟨y, ys, e, f, repDs_dat g⟩
@[simp] theorem datAll_map (ps : List P) : datAll (ps.map .dat) = some ps := by
  induction ps with
  | nil => rfl
  | cons p ps ih => rw [List.map_cons, datAll, ih]; rfl
theorem repPs_len {ι X : List Addr} {H : Hp} : ∀ {ps : List P} {vs : List V}, RepPs K ι X H ps vs → vs.length = ps.length
  | [], vs, r => by rw [RepPs] at r; rw [r]; rfl
  | p :: ps, vs, r => by
    rw [RepPs] at r
    obtain ⟨y, ys, e, f, g⟩ := r
    rw [e, List.length_cons, List.length_cons, repPs_len g]
theorem repDs_len {ι X : List Addr} {H : Hp} : ∀ {ps : List D} {vs : List V}, RepDs K ι X H ps vs → vs.length = ps.length
  | [], vs, r => by rw [show vs = [] from r]; rfl
  | p :: ps, vs, ⟨y, ys, e, f, g⟩ => by rw [e, List.length_cons, List.length_cons, repDs_len g]
theorem small {n : Nat} (h : n ≤ 100000) : n ≤ sizeLine := Nat.le_trans h (by decide)
theorem smalls {n : Nat} (h : n < 100000) : n < sizeLine := Nat.lt_of_lt_of_le h (by decide)
/-- a new tuple -/
theorem new_tup {ι X : List Addr} {S : Store} {H : Hp} {ps : List P} {vs : List V} {Q : V → Hp → Prop} (rel : Rel K ι X S H) (r : RepPs K ι X H ps vs) {p : Addr} (hp : H p = none)
    (k : ∀ H' w, Ext ι H ι H' → Rel K ι X S H' → RepD K ι X H' (.dat (.tup ps)) w → Q w H') : Q (.ref p) (upd H p (.tup vs)) := by
  have x := ext_alloc (o := .tup vs) rel hp
  obtain ⟨n, m⟩ := rel.nin hp
  refine k _ _ x (rel.alloc hp) ?_
  show RepP K ι X _ _ _
  rw [RepP]
  exact ⟨p, vs, rfl, .inl ⟨n, m, .inl upd_same⟩, r.ext x⟩
theorem new_lst {ι X : List Addr} {S : Store} {H : Hp} {ps : List P} {vs : List V} {Q : V → Hp → Prop} (rel : Rel K ι X S H) (r : RepPs K ι X H ps vs) {p : Addr} (hp : H p = none)
    (k : ∀ H' w, Ext ι H ι H' → Rel K ι X S H' → RepD K ι X H' (.dat (.lst ps)) w → Q w H') : Q (.ref p) (upd H p (.lst vs)) := by
  have x := ext_alloc (o := .lst vs) rel hp
  obtain ⟨n, m⟩ := rel.nin hp
  refine k _ _ x (rel.alloc hp) ?_
  show RepP K ι X _ _ _
  rw [RepP]
  exact ⟨p, vs, rfl, n, m, upd_same, r.ext x⟩
theorem se_tup {t : TA} {a : DA} (ha : SA K W t a) : SE K W (tTup t) (mTup a) := by
  intro ι X S H σ δ Q rel re h
  refine ha ι X S H σ δ _ rel re (Post.bind h fun ι1 H1 ds S1 vs x1 rel1 rv h1 => ?_)
  cases e : datAll ds with
  | none => simp only [e] at h1; exact h1.elim
  | some ps =>
    simp only [e] at h1
    have rp := datAll_rep e rv
    by_cases hl : ps.length ≤ 100000
    · rw [if_pos hl] at h1
      refine ⟨small (by rw [repPs_len rp]; exact hl), fun p hp => ?_⟩
      exact new_tup rel1 rp hp fun H' w x r q => h1 ι1 H' w x r q
    · rw [if_neg hl] at h1
      exact h1.elim
theorem Out1.more {ι X : List Addr} {H : Hp} {p : Addr} {o : HO} (hp : H p = none) : Out1 ι X H ι (p :: X) (upd H p o) := ⟨fun e => e, fun a u n m e _ => by
  have ne : a ≠ p := ne_of_none e hp
  refine ⟨by rw [upd_ne ne]; exact e, n, fun z => ?_⟩
  rcases List.mem_cons.mp z with z | z
  · exact ne z
  · exact m z⟩
theorem Out1.less {ι X : List Addr} {H : Hp} {p : Addr} : Out1 ι (p :: X) H ι X H := ⟨fun e => e, fun a u n m e _ => ⟨e, n, fun z => m (List.mem_cons_of_mem _ z)⟩⟩
theorem Rel.more {ι X : List Addr} {S : Store} {H : Hp} {p : Addr} {o : HO} (r : Rel K ι X S H) (hp : H p = none) (nt : NT o := by intro ps z; cases z) : Rel K ι (p :: X) S (upd H p o) := by
  refine r.keep (Out1.more hp) rfl (fun a m => ?_) (fun a m => ?_) (tabs_new hp r.tabs)
  · obtain ⟨u, e⟩ := r.mem m
    exact upd_ne (ne_of_none e hp)
  · rcases List.mem_cons.mp m with z | z
    · subst z
      exact ⟨(r.nin hp).1, _, upd_same, nt⟩
    · obtain ⟨n, u, e, z2⟩ := r.ex a z
      exact ⟨n, u, by rw [upd_ne (ne_of_none e hp)]; exact e, z2⟩
theorem Rel.less {ι X : List Addr} {S : Store} {H : Hp} {p : Addr} (r : Rel K ι (p :: X) S H) : Rel K ι X S H :=
  r.keep Out1.less rfl (fun _ _ => rfl) (fun a m => r.ex a (List.mem_cons_of_mem _ m)) r.tabs
/-- the new list is tracked -/
theorem Out1.trk {ι X : List Addr} {H : Hp} {p : Addr} : Out1 ι (p :: X) H (ι ++ [p]) X H := by
  refine ⟨fun {i a} e => ?_, fun a u n m e _ => ⟨e, fun z => ?_, fun z => m (List.mem_cons_of_mem _ z)⟩⟩
  · rw [List.getElem?_append_left (List.getElem?_eq_some_iff.mp e).1]
    exact e
  · rcases List.mem_append.mp z with z | z
    · exact n z
    · rw [List.mem_singleton.mp z] at m
      exact m List.mem_cons_self
theorem Rel.trk {ι0 ι X : List Addr} {S : Store} {H0 H : Hp} {p : Addr} {o : O} (r : Rel K ι (p :: X) S H) (x : Ext ι0 H0 ι H) (h0 : Free H0 p) (hX : p ∉ X) (ro : RepO K ι (p :: X) H o p) :
    Rel K (ι ++ [p]) X (S ++ [o]) H ∧ Ext ι0 H0 (ι ++ [p]) H := by
  have n := (r.ex p List.mem_cons_self).1
  exact Rel.track x h0 r n hX (fun b m => List.mem_cons_of_mem _ m) (ro.out Out1.trk rfl) fun b mb w q => q.out Out1.trk rfl
theorem sl_lst {t : TA} {a : DA} (ha : SA K W t a) : SL K W (tLst t) (mLst a) := by
  intro ι X S H σ δ Q rel re h
  refine ha ι X S H σ δ (fun vs H1 => vs.length ≤ sizeLine ∧ ∀ p, H1 p = none → Q (.ref p) (upd H1 p (.lst vs))) rel re ?_
  unfold mLst at h
  cases e : a δ S with
  | fail => rw [e] at h; exact h
  | exc C x S1 => rw [e] at h; exact h
  | ok ds S1 =>
    rw [e, R.bind_ok] at h
    intro ι1 H1 vs x1 rel1 rv
    by_cases hl : ds.length ≤ 100000
    · rw [if_pos hl] at h
      refine ⟨small (by rw [repDs_len rv]; exact hl), fun p hp => ?_⟩
      have x := ext_alloc (o := .lst vs) rel1 hp
      exact h ι1 _ p vs (x1.trans x) (rel1.more hp) (ext_free x1 (rel1.nin hp).1 (Free.of hp)) upd_same (rv.out (Out1.more hp))
    · rw [if_neg hl] at h
      exact h.elim
theorem se_frz {t : TE} {a : DA} (ha : SL K W t a) : SE K W t (mFrz a) := by
  intro ι X S H σ δ Q rel re h
  refine ha ι X S H σ δ Q rel re ?_
  unfold mFrz at h
  cases e : a δ S with
  | fail => rw [e] at h; exact h
  | exc C x S1 => rw [e] at h; exact h
  | ok ds S1 =>
    rw [e, R.bind_ok] at h
    intro ι1 H1 p xs x1 rel1 h0 ep rv
    cases q : datAll ds with
    | none => simp only [q] at h; exact h.elim
    | some ps =>
      simp only [q] at h
      refine h ι1 H1 _ x1 rel1.less ?_
      show RepP K ι1 X _ _ _
      rw [RepP]
      have hX : p ∉ X := fun m => by
        obtain ⟨_, u, e, z⟩ := rel.ex p m
        exact h0 u e z
      exact ⟨p, xs, rfl, (rel1.ex p List.mem_cons_self).1, hX, ep, datAll_rep q (rv.out Out1.less)⟩
theorem se_trk {t : TE} {a : DA} (ha : SL K W t a) : SE K W t (mTrk a) := by
  intro ι X S H σ δ Q rel re h
  refine ha ι X S H σ δ Q rel re ?_
  unfold mTrk at h
  cases e : a δ S with
  | fail => rw [e] at h; exact h
  | exc C x S1 => rw [e] at h; exact h
  | ok ds S1 =>
    rw [e, R.bind_ok] at h
    intro ι1 H1 p xs x1 rel1 h0 ep rv
    have hX : p ∉ X := fun m => by
      obtain ⟨_, u, e, z⟩ := rel.ex p m
      exact h0 u e z
    obtain ⟨r2, x2⟩ := rel1.trk (o := .lst ds) x1 h0 hX ⟨xs, ep, rv⟩
    refine h _ H1 _ x2 r2 ⟨p, ?_, rfl⟩
    rw [← rel1.len, List.getElem?_append_right (Nat.le_refl _), Nat.sub_self]
    rfl
end
end M3
namespace M3
open PySem PySem.Spec PyProof.Rows L2
variable [TabsP]
section
variable {K : PySem.W.Frag} {W : L2.St → WK}
theorem asB_rep {ι X : List Addr} {H : Hp} {d : D} {v : V} {b : Bool} (e : asB d = some b) (r : RepD K ι X H d v) : v = .bl b := by
  unfold asB at e
  split at e
  · cases e
    have r : RepP K ι X H (.bl _) v := r
    rw [RepP] at r
    exact r
  · cases e
theorem se_and {ta tb : TE} {a b : DE} (ha : SE K W ta a) (hb : SE K W tb b) : SE K W (tAndV ta tb) (mAnd a b) := by
  intro ι X S H σ δ Q rel re h
  refine ha ι X S H σ δ _ rel re (Post.bind h fun ι1 H1 x S1 v x1 rel1 rv h1 => ?_)
  cases e : asB x with
  | none => simp only [e] at h1; exact h1.elim
  | some c =>
    simp only [e] at h1
    refine ⟨c, asB_rep e rv, ?_⟩
    cases c with
    | true => exact hb ι1 X S1 H1 σ δ Q rel1 (re.ext x1) h1
    | false => exact h1 ι1 H1 _ Ext.refl rel1 rd_bl
theorem se_or {ta tb : TE} {a b : DE} (ha : SE K W ta a) (hb : SE K W tb b) : SE K W (tOrV ta tb) (mOr a b) := by
  intro ι X S H σ δ Q rel re h
  refine ha ι X S H σ δ _ rel re (Post.bind h fun ι1 H1 x S1 v x1 rel1 rv h1 => ?_)
  cases e : asB x with
  | none => simp only [e] at h1; exact h1.elim
  | some c =>
    simp only [e] at h1
    refine ⟨c, asB_rep e rv, ?_⟩
    cases c with
    | true => exact h1 ι1 H1 _ Ext.refl rel1 rd_bl
    | false => exact hb ι1 X S1 H1 σ δ Q rel1 (re.ext x1) h1
theorem se_not {ta : TE} {a : DE} (ha : SE K W ta a) : SE K W (tNotV ta) (mNot a) := by
  intro ι X S H σ δ Q rel re h
  refine ha ι X S H σ δ _ rel re (Post.bind h fun ι1 H1 x S1 v x1 rel1 rv h1 => ?_)
  cases e : asB x with
  | none => simp only [e] at h1; exact h1.elim
  | some c =>
    simp only [e] at h1
    exact ⟨c, asB_rep e rv, h1 ι1 H1 _ Ext.refl rel1 rd_bl⟩
theorem post_oT {X ι : List Addr} {S : Store} {H : Hp} {W : WK} {o : Option Bool} {Q : Bool → Hp → Prop} (rel : Rel K ι X S H) (h : Post K X ι H W (oR o S) (fun _ _ d v => v = d) Q) : ∃ b, o = some b ∧ Q b H := by
  cases o with
  | none => exact h.elim
  | some d => exact ⟨d, rfl, h ι H d Ext.refl rel rfl⟩
theorem st_tst {ta : TE} {a : DE} (ha : SE K W ta a) : ST K W (tB ta) (mTst a) := by
  intro ι X S H σ δ Q rel re h
  refine ha ι X S H σ δ _ rel re (Post.bind h fun ι1 H1 x S1 v x1 rel1 rv h1 => ?_)
  obtain ⟨b, e, q⟩ := post_oT rel1 h1
  exact ⟨b, asB_rep e rv, q⟩
theorem st_test {ta : TE} {a : DE} (ha : SE K W ta a) : ST K W (tTest ta) (mTst a) := by
  intro ι X S H σ δ Q rel re h
  refine ha ι X S H σ δ _ rel re (Post.bind h fun ι1 H1 x S1 v x1 rel1 rv h1 => ?_)
  obtain ⟨b, e, q⟩ := post_oT rel1 h1
  exact ⟨b, asB_rep e rv, q⟩
theorem st_and {ta tb : TT} {a b : DT} (ha : ST K W ta a) (hb : ST K W tb b) : ST K W (tAnd ta tb) (mAndT a b) := by
  intro ι X S H σ δ Q rel re h
  refine ha ι X S H σ δ _ rel re (Post.bind h fun ι1 H1 x S1 v x1 rel1 rv h1 => ?_)
  subst rv
  cases v with
  | true => exact hb ι1 X S1 H1 σ δ Q rel1 (re.ext x1) h1
  | false => exact h1 ι1 H1 _ Ext.refl rel1 rfl
theorem st_or {ta tb : TT} {a b : DT} (ha : ST K W ta a) (hb : ST K W tb b) : ST K W (tOr ta tb) (mOrT a b) := by
  intro ι X S H σ δ Q rel re h
  refine ha ι X S H σ δ _ rel re (Post.bind h fun ι1 H1 x S1 v x1 rel1 rv h1 => ?_)
  subst rv
  cases v with
  | true => exact h1 ι1 H1 _ Ext.refl rel1 rfl
  | false => exact hb ι1 X S1 H1 σ δ Q rel1 (re.ext x1) h1
theorem st_not {ta : TT} {a : DT} (ha : ST K W ta a) : ST K W (tNot ta) (mNotT a) := by
  intro ι X S H σ δ Q rel re h
  refine ha ι X S H σ δ _ rel re (Post.bind h fun ι1 H1 x S1 v x1 rel1 rv h1 => ?_)
  subst rv
  exact h1 ι1 H1 _ Ext.refl rel1 rfl
theorem se_chain {r r' : R2} {f g : Store → D → D → Option D} {ta tb tc : TE} {a b c : DE} (hr : R2S K r f) (hr' : R2S K r' g) (ha : SE K W ta a) (hb : SE K W tb b) (hc : SE K W tc c) : SE K W (tChain r r' ta tb tc) (mChain f g a b c) := by
  intro ι X S H σ δ Q rel re h
  refine ha ι X S H σ δ _ rel re (Post.bind h fun ι1 H1 x S1 v x1 rel1 rv h1 => ?_)
  refine hb ι1 X S1 H1 σ δ _ rel1 (re.ext x1) (Post.bind h1 fun ι2 H2 y S2 u x2 rel2 ru h2 => ?_)
  cases e : f S2 x y with
  | none => simp only [e] at h2; exact h2.elim
  | some z =>
    simp only [e, oR_some, R.bind_ok] at h2
    refine hr ι2 X S2 H2 x y v u z _ rel2 (rv.ext x2) ru e fun H3 w x3 rel3 rw3 => ?_
    cases q : asB z with
    | none => simp only [q] at h2; exact h2.elim
    | some k =>
      simp only [q] at h2
      refine ⟨k, asB_rep q rw3, ?_⟩
      cases k with
      | false => exact (h2.ext x3) ι2 H3 _ Ext.refl rel3 rd_bl
      | true =>
        refine hc ι2 X S2 H3 σ δ _ rel3 ((re.ext x1).ext (x2.trans x3)) (Post.bind (h2.ext x3) fun ι4 H4 w' S4 v4 x4 rel4 rv4 h4 => ?_)
        obtain ⟨d, e5, k5⟩ := post_oR h4
        exact hr' ι4 X S4 H4 y w' u v4 d Q rel4 (ru.ext (x3.trans x4)) rv4 e5 k5
theorem ss_next : SS K W tNext mNext := fun ι X S H σ δ E rel re h => h ι H σ Ext.refl rel re
theorem ss_retN : SS K W tRetN mRetN := fun ι X S H σ δ E rel re h => h ι H _ Ext.refl rel rd_non
theorem ss_seq {t u : TS} {a b : DS} (ha : SS K W t a) (hb : SS K W u b) : SS K W (tSeq t u) (mSeq a b) := by
  intro ι X S H σ δ E rel re h
  refine ha ι X S H σ δ _ rel re ?_
  unfold mSeq at h
  cases e : a δ S with
  | fail => rw [e] at h; exact h
  | exc C x S1 => rw [e] at h; exact h
  | ok o S1 =>
    rw [e] at h
    cases o with
    | nx δ1 => exact fun ι1 H1 σ1 x1 rel1 re1 => hb ι1 X S1 H1 σ1 δ1 E rel1 re1 (PostS.ext x1 h)
    | rt d => exact h
    | bk δ1 => exact h
    | ct δ1 => exact h
    | ex C x δ1 => exact h
theorem ss_ret {t : TE} {a : DE} (ha : SE K W t a) : SS K W (tRet t) (mRet a) := by
  intro ι X S H σ δ E rel re h
  exact ha ι X S H σ δ _ rel re (PostS.st re h fun ι1 H1 d S1 v x1 rel1 rv h1 => h1 ι1 H1 v Ext.refl rel1 rv)
theorem ss_drop {t : TE} {a : DE} (ha : SE K W t a) : SS K W (tDrop t) (mDrop a) := by
  intro ι X S H σ δ E rel re h
  exact ha ι X S H σ δ _ rel re (PostS.st re h fun ι1 H1 d S1 v x1 rel1 rv h1 => h1 ι1 H1 σ Ext.refl rel1 (re.ext x1))
/-- x = e, whatever form its reading has -/
theorem ss_asg {t : TE} {g : TG} {a : DE} {m : DG} (ha : SE K W t a)
    (hg : ∀ ι X S H σ δ d v (N : L2.St → Hp → Prop), Rel K ι X S H → RepE K ι X H δ σ → RepD K ι X H d v → Post K X ι H (W σ) (m d δ S) (fun ι' H' δ' σ' => RepE K ι' X H' δ' σ') N → g v σ H N) : SS K W (tAsg t g) (mAsg a m) := by
  intro ι X S H σ δ E rel re h
  refine ha ι X S H σ δ _ rel re (PostS.st re h fun ι1 H1 d S1 v x1 rel1 rv h1 => ?_)
  refine hg ι1 X S1 H1 σ δ d v _ rel1 (re.ext x1) rv ?_
  exact PostS.st (re.ext x1) h1 fun ι2 H2 δ2 S2 σ2 x2 rel2 re2 h2 => h2 ι2 H2 σ2 Ext.refl rel2 re2
/-- a target -/
def SG (K : PySem.W.Frag) (W : L2.St → WK) (g : TG) (m : DG) : Prop := ∀ ι X S H σ δ d v (N : L2.St → Hp → Prop), Rel K ι X S H → RepE K ι X H δ σ → RepD K ι X H d v → Post K X ι H (W σ) (m d δ S) (fun ι' H' δ' σ' => RepE K ι' X H' δ' σ') N → g v σ H N
def SGs (K : PySem.W.Frag) (W : L2.St → WK) (g : TGs) (m : DGs) : Prop := ∀ ι X S H σ δ d v (N : L2.St → Hp → Prop), Rel K ι X S H → RepE K ι X H δ σ → RepDs K ι X H d v → Post K X ι H (W σ) (m d δ S) (fun ι' H' δ' σ' => RepE K ι' X H' δ' σ') N → g v σ H N
theorem sg_name {i : Nat} : SG K W (gName i) (gmName i) := fun ι X S H σ δ d v N rel re rv h => h ι H _ Ext.refl rel (re.set rv)
/-- targets that fail in nothing may be read under any wish -/
theorem sgs_nil : SGs K W gNil gmNil := fun ι X S H σ δ d v N rel re rv h => by
  cases d with
  | nil => exact ⟨rv, h ι H _ Ext.refl rel re⟩
  | cons a b => exact h.elim
theorem sgs_cons {g : TG} {m : DG} {gs : TGs} {ms : DGs} (hw : ∀ σ σ', W σ = W σ') (hg : SG K W g m) (hs : SGs K W gs ms) : SGs K W (gCons g gs) (gmCons m ms) := fun ι X S H σ δ d v N rel re rv h => by
  cases d with
  | nil => exact h.elim
  | cons a b =>
    obtain ⟨y, ys, e, f, k⟩ := rv
    refine ⟨y, ys, e, hg ι X S H σ δ a y _ rel re f (Post.bind h fun ι1 H1 δ1 S1 σ1 x1 rel1 re1 h1 => ?_)⟩
    refine hs ι1 X S1 H1 σ1 δ1 b ys N rel1 re1 (k.ext x1) ?_
    rw [← hw σ σ1]
    exact h1
theorem sg_tup {n : Nat} {gs : TGs} {ms : DGs} (hs : SGs K W gs ms) : SG K W (gTup K n gs) (gmTup n ms) := fun ι X S H σ δ d v N rel re rv h => by
  unfold gmTup at h
  split at h
  · rename_i ps
    have rv : RepP K ι X H (.tup ps) v := rv
    rw [RepP] at rv
    obtain ⟨a, xs, e, f, k⟩ := rv
    split at h
    · rename_i hl
      exact ⟨a, xs, e, f.sq, by rw [repPs_len k]; exact hl, hs ι X S H σ δ _ xs N rel re (repDs_dat k) h⟩
    · exact h.elim
  · rename_i i
    obtain ⟨a, ea, rfl⟩ := rv
    split at h
    · rename_i l es
      obtain ⟨xs, f, k⟩ := rel.at_ i _ a es ea
      split at h
      · rename_i hl
        exact ⟨a, xs, rfl, .inl (.inl f), by rw [repDs_len k]; exact hl, hs ι X S H σ δ _ xs N rel re k h⟩
      · exact h.elim
    · exact h.elim
  · exact h.elim
theorem ss_asgG {t : TE} {g : TG} {a : DE} {m : DG} (ha : SE K W t a) (hg : SG K W g m) : SS K W (tAsg t g) (mAsg a m) := ss_asg ha hg
theorem ss_ifS {tc : TT} {t u : TS} {c : DT} {a b : DS} (hc : ST K W tc c) (ha : SS K W t a) (hb : SS K W u b) : SS K W (tIfS tc t u) (mIfS c a b) := by
  intro ι X S H σ δ E rel re h
  refine hc ι X S H σ δ _ rel re (PostS.st re h fun ι1 H1 x S1 v x1 rel1 rv h1 => ?_)
  subst rv
  cases v with
  | true => exact ha ι1 X S1 H1 σ δ E rel1 (re.ext x1) h1
  | false => exact hb ι1 X S1 H1 σ δ E rel1 (re.ext x1) h1
/-- what a turn of a loop is to reach -/
theorem turn_ok {X ι : List Addr} {H : Hp} {o : R Out} {nxt : DEnv → Store → R Out} {E : Ends} (h : PostS K W X ι H (mTurn o nxt) E) {N : L2.St → Hp → Prop}
    (k : ∀ ι' H' σ δ S, Ext ι H ι' H' → Rel K ι' X S H' → RepE K ι' X H' δ σ → PostS K W X ι' H' (nxt δ S) E → N σ H') : PostS K W X ι H o { E with nx := N, ct := N, bk := E.nx } := by
  cases o with
  | fail => exact h
  | exc C x S => exact h
  | ok o S => cases o with
    | nx δ => exact fun ι' H' σ x rel re => k ι' H' σ δ S x rel re (PostS.ext x h)
    | ct δ => exact fun ι' H' σ x rel re => k ι' H' σ δ S x rel re (PostS.ext x h)
    | bk δ => exact h
    | rt d => exact h
    | ex C x δ => exact h
theorem ss_while {tc : TT} {tb : TS} {c : DT} {b : DS} (hc : ST K W tc c) (hb : SS K W tb b) : SS K W (tWhile tc tb) (mWhile c b) := by
  intro ι X S H σ δ E rel re h
  refine ⟨fun m σ' H' => ∃ ι1 δ1 S1, Rel K ι1 X S1 H' ∧ RepE K ι1 X H' δ1 σ' ∧ PostS K W X ι1 H' (mWhileN c b m δ1 S1) E, ⟨FUEL, ι, δ, S, rel, re, h⟩, ?_⟩
  rintro m σ1 H1 ⟨ι1, δ1, S1, rel1, re1, h1⟩
  cases m with
  | zero => exact h1.elim
  | succ n =>
    unfold mWhileN at h1
    refine hc ι1 X S1 H1 σ1 δ1 _ rel1 re1 (PostS.st re1 h1 fun ι2 H2 x S2 v x2 rel2 rv h2 => ?_)
    subst rv
    cases v with
    | false => exact h2 ι2 H2 σ1 Ext.refl rel2 (re1.ext x2)
    | true =>
      rw [if_pos rfl]
      refine ⟨fun σ' H' => ∃ ι1 δ1 S1, Rel K ι1 X S1 H' ∧ RepE K ι1 X H' δ1 σ' ∧ PostS K W X ι1 H' (mWhileN c b n δ1 S1) E, fun σ' H' q => ⟨n, Nat.lt_succ_self n, q⟩, ?_⟩
      refine hb ι2 X S2 H2 σ1 δ1 _ rel2 (re1.ext x2) (turn_ok h2 fun ι3 H3 σ3 δ3 S3 x3 rel3 re3 h3 => ⟨ι3, δ3, S3, rel3, re3, h3⟩)
end
end M3
namespace M3
open PySem PySem.Spec PyProof.Rows L2
variable [TabsP]
section
variable {K : PySem.W.Frag}
theorem Out1.trans {ι X ι1 X1 ι2 X2 : List Addr} {H H1 H2 : Hp} (x : Out1 ι X H ι1 X1 H1) (y : Out1 ι1 X1 H1 ι2 X2 H2) : Out1 ι X H ι2 X2 H2 :=
  ⟨fun e => y.at_ (x.at_ e), fun a o n m e z => let ⟨p, q, r⟩ := x.ok a o n m e z; y.ok a o q r p z⟩
theorem Out1.refl {ι X : List Addr} {H : Hp} : Out1 ι X H ι X H := ⟨fun e => e, fun a o n m e nt => ⟨e, n, m⟩⟩
/-- a walk of these items, whatever changes that data do not see -/
structure ItNow (K : PySem.W.Frag) (J : It) (l : List D) (ι X : List Addr) (H : Hp) : Prop where
  go : ∀ i, i < l.length → J.go i H
  stop : J.stop l.length H
  yld : ∀ i x H' d S, J.yld i H x H' → l[i]? = some d → Rel K ι X S H → Rel K ι X S H' ∧ Ext ι H ι H' ∧ RepD K ι X H' d x
def ItOk (K : PySem.W.Frag) (J : It) (l : List D) (ι X : List Addr) (H : Hp) : Prop := ∀ ι' X' H', Out1 ι X H ι' X' H' → ItNow K J l ι' X' H'
theorem ItOk.out {J : It} {l : List D} {ι X ι' X' : List Addr} {H H' : Hp} (k : ItOk K J l ι X H) (x : Out1 ι X H ι' X' H') : ItOk K J l ι' X' H' := fun ι2 X2 H2 y => k ι2 X2 H2 (x.trans y)
theorem ItOk.now {J : It} {l : List D} {ι X : List Addr} {H : Hp} (k : ItOk K J l ι X H) : ItNow K J l ι X H := k ι X H Out1.refl
variable {W : L2.St → WK}
def PostI (K : PySem.W.Frag) (X ι : List Addr) (H : Hp) (W : WK) (r : R Wk) (Q : It → Hp → Prop) : Prop := match r with
  | .ok (.items l) S' => ∀ ι' H' J, Ext ι H ι' H' → Rel K ι' X S' H' → ItOk K J l ι' X H' → Q J H'
  | .ok (.ob o) S' => ∀ ι' H' a, Ext ι H ι' H' → Rel K ι' X S' H' → ι'[o]? = some a → Q (Itl K a) H'
  | .exc C x S' => ∀ ι' H' da, Ext ι H ι' H' → Rel K ι' X S' H' → RepX K ι' X H' x da → W (.ref C) da H'
  | .fail => False
def SI (K : PySem.W.Frag) (W : L2.St → WK) (t : TI) (m : DI) : Prop := ∀ ι X S H σ δ Q, Rel K ι X S H → RepE K ι X H δ σ → PostI K X ι H (W σ) (m δ S) Q → t σ H Q
theorem PostI.ext {X ι : List Addr} {H : Hp} {W : WK} {r : R Wk} {Q : It → Hp → Prop} {ι1 : List Addr} {H1 : Hp} (x : Ext ι H ι1 H1) (h : PostI K X ι H W r Q) : PostI K X ι1 H1 W r Q := by
  cases r with
  | ok a S => cases a with
    | items l => exact fun ι' H' v y => h ι' H' v (x.trans y)
    | ob o => exact fun ι' H' v y => h ι' H' v (x.trans y)
  | exc C z S => exact fun ι' H' v y => h ι' H' v (x.trans y)
  | fail => exact h
theorem obj_now {ι X : List Addr} {S : Store} {H : Hp} (rel : Rel K ι X S H) {o : Nat} {a : Addr} (ea : ι[o]? = some a) {l : List D} (es : S[o]? = some (.lst l)) : ∃ xs, H a = some (.lst xs) ∧ RepDs K ι X H l xs := rel.at_ o _ a es ea
theorem repDs_at {ι X : List Addr} {H : Hp} : ∀ {l : List D} {xs : List V} {i : Nat} {d : D}, RepDs K ι X H l xs → l[i]? = some d → ∃ x, xs[i]? = some x ∧ RepD K ι X H d x
  | [], xs, i, d, r, e => by simp at e
  | p :: ps, _, 0, d, ⟨y, ys, rfl, f, g⟩, e => by
    have : p = d := by simpa using e
    subst this
    exact ⟨y, rfl, f⟩
  | p :: ps, _, i + 1, d, ⟨y, ys, rfl, f, g⟩, e => repDs_at (i := i) g (by simpa using e)
theorem ss_for {wi : TI} {g : TG} {tb : TS} {w : DI} {m : DG} {b : DS} (hw : SI K W wi w) (hg : SG K W g m) (hb : SS K W tb b) : SS K W (tFor wi g tb) (mFor w m b) := by
  intro ι X S H σ δ E rel re h
  refine hw ι X S H σ δ _ rel re ?_
  unfold mFor at h
  cases e : w δ S with
  | fail => rw [e] at h; exact h
  | exc C x S1 => rw [e] at h; exact fun ι' H' da x rel rx => h ι' H' da σ x rel rx (re.ext x)
  | ok k S1 =>
    rw [e, R.st_ok] at h
    cases k with
    | items l =>
      simp only at h
      intro ι1 H1 J x1 rel1 it
      refine ⟨fun i n σ' H' => ∃ ι2 δ2 S2, n = l.length - i ∧ i ≤ l.length ∧ Ext ι1 H1 ι2 H' ∧ Rel K ι2 X S2 H' ∧ RepE K ι2 X H' δ2 σ' ∧ PostS K W X ι2 H' (mForL m b (l.drop i) δ2 S2) E,
        ⟨l.length, ι1, δ, S1, rfl, Nat.zero_le _, Ext.refl, rel1, re.ext x1, PostS.ext x1 h⟩, ?_⟩
      rintro i n σ2 H2 ⟨ι2, δ2, S2, rfl, hi, x2, rel2, re2, h2⟩
      have now := (it.out (Out1.ext x2)).now
      by_cases hl : i < l.length
      · have ed : l.drop i = l[i] :: l.drop (i + 1) := List.drop_eq_getElem_cons hl
        have eg : l[i]? = some l[i] := List.getElem?_eq_getElem hl
        rw [ed] at h2
        generalize l[i] = d at h2 eg
        refine .inr ⟨now.go i hl, fun σ' H' => ∃ ι3 δ3 S3, Ext ι1 H1 ι3 H' ∧ Rel K ι3 X S3 H' ∧ RepE K ι3 X H' δ3 σ' ∧ PostS K W X ι3 H' (mForL m b (l.drop (i + 1)) δ3 S3) E,
          fun σ' H' ⟨ι3, δ3, S3, q⟩ => ⟨_, Nat.sub_lt_sub_left hl (Nat.lt_succ_self i), ι3, δ3, S3, rfl, hl, q⟩, fun x H3 y => ?_⟩
        obtain ⟨rel3, x3, rd⟩ := now.yld i x H3 d S2 y eg rel2
        unfold mForL at h2
        have h3 := turn_ok (PostS.ext x3 h2) (N := fun σ' H' => ∃ ι3 δ3 S3, Ext ι1 H1 ι3 H' ∧ Rel K ι3 X S3 H' ∧ RepE K ι3 X H' δ3 σ' ∧ PostS K W X ι3 H' (mForL m b (l.drop (i + 1)) δ3 S3) E)
          fun ι' H' σ' δ' S' x4 rel4 re4 h4 => ⟨ι', δ', S', (x2.trans x3).trans x4, rel4, re4, h4⟩
        have re3 := re2.ext x3
        refine hg ι2 X S2 H3 σ2 δ2 d x _ rel3 re3 rd (PostS.st re3 h3 fun ι5 H5 δ5 S5 σ5 x5 rel5 re5 h5 => ?_)
        exact hb ι5 X S5 H5 σ5 δ5 _ rel5 re5 h5
      · have ei : i = l.length := by omega
        subst ei
        rw [List.drop_length] at h2
        exact .inl ⟨now.stop, h2 ι2 H2 σ2 Ext.refl rel2 re2⟩
    | ob o =>
      simp only at h
      intro ι1 H1 a x1 rel1 ea
      cases es : S1[o]? with
      | none => rw [es] at h; exact h.elim
      | some ob =>
        cases ob with
        | ins C fs => simp only [es] at h; exact h.elim
        | dic fs => simp only [es] at h; exact h.elim
        | tup fs => simp only [es] at h; exact h.elim
        | lst l =>
          simp only [es] at h
          refine ⟨fun i n σ' H' => ∃ ι2 δ2 S2, i + n = l.length ∧ Ext ι1 H1 ι2 H' ∧ Rel K ι2 X S2 H' ∧ RepE K ι2 X H' δ2 σ' ∧ PostS K W X ι2 H' (mForO m b o l.length n i δ2 S2) E,
            ⟨l.length, ι1, δ, S1, by omega, Ext.refl, rel1, re.ext x1, PostS.ext x1 h⟩, ?_⟩
          rintro i n σ2 H2 ⟨ι2, δ2, S2, hi, x2, rel2, re2, h2⟩
          have ea2 := x2.at ea
          cases n with
          | zero =>
            unfold mForO at h2
            cases es2 : S2[o]? with
            | none => simp only [es2] at h2; exact h2.elim
            | some ob =>
              cases ob with
              | ins C fs => simp only [es2] at h2; exact h2.elim
              | dic fs => simp only [es2] at h2; exact h2.elim
              | tup fs => simp only [es2] at h2; exact h2.elim
              | lst l2 =>
                simp only [es2] at h2
                by_cases hl : l2.length = l.length
                · rw [if_pos hl] at h2
                  obtain ⟨xs, ex, rx⟩ := obj_now rel2 ea2 es2
                  exact .inl ⟨⟨xs, SqL.of ex, by rw [repDs_len rx]; omega⟩, h2 ι2 H2 σ2 Ext.refl rel2 re2⟩
                · rw [if_neg hl] at h2; exact h2.elim
          | succ n =>
            unfold mForO at h2
            cases es2 : S2[o]? with
            | none => simp only [es2] at h2; exact h2.elim
            | some ob =>
              cases ob with
              | ins C fs => simp only [es2] at h2; exact h2.elim
              | dic fs => simp only [es2] at h2; exact h2.elim
              | tup fs => simp only [es2] at h2; exact h2.elim
              | lst l2 =>
                simp only [es2] at h2
                by_cases hl : l2.length = l.length
                · rw [if_pos hl] at h2
                  cases ed : l2[i]? with
                  | none => simp only [ed] at h2; exact h2.elim
                  | some d =>
                    simp only [ed] at h2
                    obtain ⟨xs, ex, rx⟩ := obj_now rel2 ea2 es2
                    obtain ⟨y, ey, ry⟩ := repDs_at rx ed
                    refine .inr ⟨⟨xs, y, SqL.of ex, ey⟩, fun σ' H' => ∃ ι3 δ3 S3, Ext ι1 H1 ι3 H' ∧ Rel K ι3 X S3 H' ∧ RepE K ι3 X H' δ3 σ' ∧ PostS K W X ι3 H' (mForO m b o l.length n (i + 1) δ3 S3) E,
                      fun σ' H' ⟨ι3, δ3, S3, q⟩ => ⟨n, Nat.lt_succ_self n, ι3, δ3, S3, by omega, q⟩, fun x H3 yy => ?_⟩
                    obtain ⟨rfl, yy⟩ := yy
                    have exy : x = y := by
                      have := yy xs (SqL.of ex)
                      rw [ey] at this
                      exact (Option.some.inj this).symm
                    subst exy
                    have h3 := turn_ok h2 (N := fun σ' H' => ∃ ι3 δ3 S3, Ext ι1 H1 ι3 H' ∧ Rel K ι3 X S3 H' ∧ RepE K ι3 X H' δ3 σ' ∧ PostS K W X ι3 H' (mForO m b o l.length n (i + 1) δ3 S3) E)
                      fun ι' H' σ' δ' S' x4 rel4 re4 h4 => ⟨ι', δ', S', x2.trans x4, rel4, re4, h4⟩
                    refine hg ι2 X S2 _ σ2 δ2 d x _ rel2 re2 ry (PostS.st re2 h3 fun ι5 H5 δ5 S5 σ5 x5 rel5 re5 h5 => ?_)
                    exact hb ι5 X S5 H5 σ5 δ5 _ rel5 re5 h5
                · rw [if_neg hl] at h2; exact h2.elim
end
end M3
namespace M3
open PySem PySem.Spec PyProof.Rows L2
variable [TabsP]
/-- within a comprehension nothing may be raised -/
def WF : L2.St → WK := fun _ _ _ _ => False
theorem wipe_set {σ : L2.St} {i : Nat} {x : Option V} : ∀ {vs : List Nat}, i ∈ vs → wipe (σ.set i x) vs = wipe σ vs
  | [], h => by cases h
  | v :: vs, h => by
    unfold wipe
    by_cases m : i ∈ vs
    · rw [wipe_set m]
    · rcases List.mem_cons.mp h with rfl | h
      · have go : ∀ us : List Nat, i ∉ us → wipe (σ.set i x) us = (wipe σ us).set i x := by
          intro us
          induction us with
          | nil => intro _; rfl
          | cons u us ih =>
            intro hn
            unfold wipe
            rw [ih (fun z => hn (List.mem_cons_of_mem _ z)), List.set_comm _ _ (fun z => hn (by rw [z]; exact List.mem_cons_self))]
        rw [go vs m, List.set_set]
      · exact absurd h m
section
variable {K : PySem.W.Frag} {W : L2.St → WK}
/-- a target that sets names among vs alone -/
def SGv (K : PySem.W.Frag) (vs : List Nat) (g : TG) (m : DG) : Prop := ∀ ι X S H σ δ d v (N : L2.St → Hp → Prop), Rel K ι X S H → RepE K ι X H δ σ → RepD K ι X H d v →
  Post K X ι H (WF σ) (m d δ S) (fun ι' H' δ' σ' => RepE K ι' X H' δ' σ' ∧ L2.wipe σ' vs = L2.wipe σ vs) N → g v σ H N
theorem sgv_name {i : Nat} {vs : List Nat} (h : i ∈ vs) : SGv K vs (gName i) (gmName i) := fun ι X S H σ δ d v N rel re rv hq => hq ι H _ Ext.refl rel ⟨re.set rv, wipe_set h⟩
theorem Post.bnf {X ι : List Addr} {H : Hp} {α β γ : Type} {r : R α} {f : α → Store → R β} {T : R β → Prop} {Rp : List Addr → Hp → α → γ → Prop} {Q1 : γ → Hp → Prop} {W : WK} (h : T (r.bnf f)) (hf : ¬ T .fail)
    (k : ∀ ι1 H1 a S1 v, Ext ι H ι1 H1 → Rel K ι1 X S1 H1 → Rp ι1 H1 a v → T (f a S1) → Q1 v H1) : Post K X ι H W r Rp Q1 := by
  cases r with
  | ok a S => exact fun ι' H' v x rel rp => k ι' H' a S v x rel rp h
  | exc C z S => exact (hf h).elim
  | fail => exact (hf h).elim
theorem st_yes : ST K W tYes mYes := fun ι X S H σ δ Q rel re h => h ι H true Ext.refl rel rfl
theorem repDs_snoc {ι X : List Addr} {H : Hp} : ∀ {ds : List D} {xs : List V} {d : D} {v : V}, RepDs K ι X H ds xs → RepD K ι X H d v → RepDs K ι X H (ds ++ [d]) (xs ++ [v])
  | [], xs, d, v, r, q => by
    rw [show xs = [] from r]
    exact ⟨v, [], rfl, q, rfl⟩
  | p :: ps, _, d, v, ⟨y, ys, rfl, f, g⟩, q => ⟨y, ys ++ [v], rfl, f, repDs_snoc g q⟩
/-- the list that is being made grows -/
theorem Out1.mine {ι X : List Addr} {H : Hp} {p : Addr} {o : HO} (m : p ∈ X) : Out1 ι X H ι X (upd H p o) := ⟨fun e => e, fun a u n k e nt => ⟨by rw [upd_ne (fun z => k (by rw [z]; exact m))]; exact e, n, k⟩⟩
theorem Rel.mine {ι X : List Addr} {S : Store} {H : Hp} {p : Addr} {o : HO} (r : Rel K ι X S H) (m : p ∈ X) {acc : List V} (hp : H p = some (.lst acc)) (nt : NT o := by intro ps z; cases z) : Rel K ι X S (upd H p o) := by
  refine r.keep (Out1.mine m) rfl (fun a ma => upd_ne (fun z => (r.ex p m).1 (by rw [← z]; exact ma))) (fun a ma => ?_) (tabs_put hp ⟨nt_lst, fun f z => by cases z⟩ r.tabs)
  obtain ⟨n, u, e, zu⟩ := r.ex a ma
  refine ⟨n, ?_⟩
  by_cases z : a = p
  · exact ⟨o, by rw [z]; exact upd_same, nt⟩
  · exact ⟨u, by rw [upd_ne z]; exact e, zu⟩
theorem ext_mine {ι ι' : List Addr} {H H' : Hp} {p : Addr} {o : HO} (x : Ext ι H ι' H') (h0 : Free H p) (ht : LamX.Tabs TabsP.T H' → LamX.Tabs TabsP.T (upd H' p o)) : Ext ι H ι' (upd H' p o) :=
  ⟨x.pre, fun b u n e z => by rw [upd_ne (h0.ne e z)]; exact x.old b u n e z, x.new, fun t => ht (x.tab t)⟩
/-- at the list D, what is to come -/
def LcT (K : PySem.W.Frag) (X ι : List Addr) (H : Hp) (Q : VK) (r : R (List D)) : Prop := match r with
  | .ok ds S' => ∀ ι' H' p xs, Ext ι H ι' H' → Rel K ι' (p :: X) S' H' → Free H p → H' p = some (.lst xs) → RepDs K ι' (p :: X) H' ds xs → Q (.ref p) H'
  | _ => False
/-- one item of a comprehension -/
theorem lc_item {vs : List Nat} {g : TG} {m : DG} {tt : TT} {t : DT} {te : TE} {e : DE} {σ : L2.St} {δ : DEnv} (hg : SGv K vs g m) (ht : ST K WF tt t) (he : SE K WF te e)
    {X ι0 ι : List Addr} {H0 H : Hp} {S : Store} {Dd : Addr} {d : D} {x : V} {acc : List V} {accD : List D} {T : R (List D) → Prop} (hf : ¬ T .fail) {k : List D → Store → R (List D)} {Nx : Hp → Prop}
    (x0 : Ext ι0 H0 ι H) (h0 : Free H0 Dd) (rel : Rel K ι (Dd :: X) S H) (re : RepE K ι (Dd :: X) H (wipeD δ vs) (wipe σ vs)) (rd : RepD K ι (Dd :: X) H d x) (ha : H Dd = some (.lst acc)) (ra : RepDs K ι (Dd :: X) H accD acc)
    (h : T ((m d (wipeD δ vs) S).bnf fun δ1 S1 => (t δ1 S1).bnf fun b S2 => match b with
        | true => (e δ1 S2).bnf fun y S3 => if accD.length < 100000 then k (accD ++ [y]) S3 else .fail
        | false => k accD S2))
    (fin : ∀ ι' H' S' accD' acc', Ext ι0 H0 ι' H' → Rel K ι' (Dd :: X) S' H' → H' Dd = some (.lst acc') → RepDs K ι' (Dd :: X) H' accD' acc' → T (k accD' S') → Nx H') :
    g x (wipe σ vs) H fun σ2 H2 => wipe σ2 vs = wipe σ vs ∧ tt σ2 H2 fun b H3 =>
      if b = true then te σ2 H3 fun y H4 => ∃ acc, H4 Dd = some (.lst acc) ∧ acc.length < sizeLine ∧ Nx (upd H4 Dd (.lst (acc ++ [y]))) else Nx H3 := by
  refine hg ι (Dd :: X) S H _ _ d x _ rel re rd (Post.bnf h hf fun ι1 H1 δ1 S1 σ1 x1 rel1 re1 h1 => ?_)
  refine ⟨re1.2.trans ?_, ?_⟩
  · have go : ∀ us vs : List Nat, (∀ v ∈ us, v ∈ vs) → wipe (wipe σ vs) us = wipe σ vs := by
      intro us vs hs
      induction us with
      | nil => rfl
      | cons u us ih =>
        unfold wipe
        rw [ih fun v hv => hs v (List.mem_cons_of_mem _ hv)]
        have go2 : ∀ vs : List Nat, u ∈ vs → (wipe σ vs).set u none = wipe σ vs := by
          intro vs
          induction vs with
          | nil => intro h; cases h
          | cons v vs ih2 =>
            intro hm
            unfold wipe
            by_cases q : u = v
            · subst q
              rw [List.set_set]
            · rcases List.mem_cons.mp hm with z | z
              · exact absurd z q
              · rw [List.set_comm _ _ (Ne.symm q), ih2 z]
        have := go2 vs (hs u List.mem_cons_self)
        cases vs with
        | nil => exact this
        | cons v vs => exact this
    exact go vs vs fun v hv => hv
  refine ht ι1 (Dd :: X) S1 H1 σ1 δ1 _ rel1 re1.1 (Post.bnf h1 hf fun ι2 H2 b S2 v x2 rel2 rv h2 => ?_)
  subst rv
  have dn : Dd ∉ ι := (rel.ex Dd List.mem_cons_self).1
  have dn1 : Dd ∉ ι1 := (rel1.ex Dd List.mem_cons_self).1
  have dn2 : Dd ∉ ι2 := (rel2.ex Dd List.mem_cons_self).1
  have ha2 := x2.old _ _ dn1 (x1.old _ _ dn ha nt_lst) nt_lst
  cases v with
  | false => exact fin ι2 H2 S2 accD acc ((x0.trans x1).trans x2) rel2 ha2 ((ra.ext x1).ext x2) h2
  | true =>
    rw [if_pos rfl]
    refine he ι2 (Dd :: X) S2 H2 σ1 δ1 _ rel2 (re1.1.ext x2) (Post.bnf h2 hf fun ι3 H3 y S3 w x3 rel3 ry h3 => ?_)
    have ha3 := x3.old _ _ dn2 ha2 nt_lst
    have ra3 := ((ra.ext x1).ext x2).ext x3
    by_cases hl : accD.length < 100000
    · rw [if_pos hl] at h3
      refine ⟨acc, ha3, smalls (by rw [repDs_len ra3]; exact hl), ?_⟩
      refine fin ι3 _ S3 (accD ++ [y]) (acc ++ [w]) (ext_mine (((x0.trans x1).trans x2).trans x3) h0 (tabs_put ha3 ⟨nt_lst, fun f z => by cases z⟩)) (rel3.mine List.mem_cons_self ha3 nt_lst) upd_same ?_ h3
      exact (repDs_snoc ra3 ry).out (Out1.mine List.mem_cons_self)
    · rw [if_neg hl] at h3
      exact (hf h3).elim
theorem sl_lc {wi : TI} {w : DI} {g : TG} {m : DG} {tt : TT} {t : DT} {te : TE} {e : DE} {vs : List Nat} (hw : SI K W wi w) (hg : SGv K vs g m) (ht : ST K WF tt t) (he : SE K WF te e) : SL K W (tLc wi g tt te vs) (mLc w m t e vs) := by
  intro ι X S H σ δ Q rel re h
  refine hw ι X S H σ δ _ rel re ?_
  unfold mLc at h
  cases ew : w δ S with
  | fail => rw [ew] at h; exact h
  | exc C x S1 => rw [ew] at h; exact h
  | ok k S1 =>
    rw [ew, R.bind_ok] at h
    cases k with
    | items l =>
      simp only at h
      intro ι1 H1 J x1 rel1 it Dd hD
      have h0 : Free H Dd := ext_free x1 (rel1.nin hD).1 (Free.of hD)
      have hf : ¬ LcT K X ι H Q .fail := fun z => z
      have h' : LcT K X ι H Q (mLcL m t e vs δ l [] S1) := by
        cases q : mLcL m t e vs δ l [] S1 with
        | ok ds S' => rw [q] at h; exact h
        | exc C x S' => rw [q] at h; exact h
        | fail => rw [q] at h; exact h
      have reD : RepE K ι1 (Dd :: X) (upd H1 Dd (.lst [])) δ σ := (re.ext x1).out (Out1.more hD)
      refine ⟨fun i n H' => ∃ ι2 S2 accD acc, n = l.length - i ∧ i ≤ l.length ∧ Ext ι1 H1 ι2 H' ∧ Rel K ι2 (Dd :: X) S2 H' ∧ H' Dd = some (.lst acc) ∧ RepDs K ι2 (Dd :: X) H' accD acc ∧ LcT K X ι H Q (mLcL m t e vs δ (l.drop i) accD S2),
        ⟨l.length, ι1, S1, [], [], rfl, Nat.zero_le _, ext_mine Ext.refl (Free.of hD) (tabs_new hD), rel1.more hD, upd_same, rfl, h'⟩, ?_⟩
      rintro i n H2 ⟨ι2, S2, accD, acc, rfl, hi, x2, rel2, ha, ra, h2⟩
      have dn2 : Dd ∉ ι2 := (rel2.ex Dd List.mem_cons_self).1
      have o2 : Out1 ι1 X H1 ι2 (Dd :: X) H2 := ⟨fun e => x2.at e, fun a u n k e nt => ⟨x2.old a u n e nt, x2.nin n e nt, fun z => by
        rcases List.mem_cons.mp z with z | z
        · rw [z, hD] at e; cases e
        · exact k z⟩⟩
      have now := (it.out o2).now
      by_cases hl : i < l.length
      · have ed : l.drop i = l[i] :: l.drop (i + 1) := List.drop_eq_getElem_cons hl
        have eg : l[i]? = some l[i] := List.getElem?_eq_getElem hl
        rw [ed] at h2
        generalize l[i] = d at h2 eg
        refine .inr ⟨now.go i hl, fun H' => ∃ ι3 S3 accD acc, Ext ι1 H1 ι3 H' ∧ Rel K ι3 (Dd :: X) S3 H' ∧ H' Dd = some (.lst acc) ∧ RepDs K ι3 (Dd :: X) H' accD acc ∧ LcT K X ι H Q (mLcL m t e vs δ (l.drop (i + 1)) accD S3),
          fun H' ⟨ι3, S3, a, b, q⟩ => ⟨_, Nat.sub_lt_sub_left hl (Nat.lt_succ_self i), ι3, S3, a, b, rfl, hl, q⟩, fun x H3 y => ?_⟩
        obtain ⟨rel3, x3, rd⟩ := now.yld i x H3 d S2 y eg rel2
        unfold mLcL at h2
        have ha3 := x3.old _ _ dn2 ha nt_lst
        have re3 : RepE K ι2 (Dd :: X) H3 (wipeD δ vs) (wipe σ vs) := (((re.ext x1).out o2).ext x3).wipe vs
        exact lc_item hg ht he hf (x2.trans x3) (Free.of hD) rel3 re3 rd ha3 (ra.ext x3) h2 fun ι' H' S' accD' acc' x4 rel4 ha4 ra4 h4 => ⟨ι', S', accD', acc', x4, rel4, ha4, ra4, h4⟩
      · have ei : i = l.length := by omega
        subst ei
        rw [List.drop_length] at h2
        exact .inl ⟨now.stop, h2 ι2 H2 Dd acc (x1.trans x2) rel2 h0 ha ra⟩
    | ob o =>
      simp only at h
      intro ι1 H1 a x1 rel1 ea Dd hD
      have h0 : Free H Dd := ext_free x1 (rel1.nin hD).1 (Free.of hD)
      have hf : ¬ LcT K X ι H Q .fail := fun z => z
      cases es : S1[o]? with
      | none => rw [es] at h; exact h.elim
      | some ob =>
        cases ob with
        | ins C fs => simp only [es] at h; exact h.elim
        | dic fs => simp only [es] at h; exact h.elim
        | tup fs => simp only [es] at h; exact h.elim
        | lst l =>
          simp only [es] at h
          have h' : LcT K X ι H Q (mLcO m t e vs δ o l.length l.length 0 [] S1) := by
            cases q : mLcO m t e vs δ o l.length l.length 0 [] S1 with
            | ok ds S' => rw [q] at h; exact h
            | exc C x S' => rw [q] at h; exact h
            | fail => rw [q] at h; exact h
          refine ⟨fun i n H' => ∃ ι2 S2 accD acc, i + n = l.length ∧ Ext ι1 H1 ι2 H' ∧ Rel K ι2 (Dd :: X) S2 H' ∧ H' Dd = some (.lst acc) ∧ RepDs K ι2 (Dd :: X) H' accD acc ∧ LcT K X ι H Q (mLcO m t e vs δ o l.length n i accD S2),
            ⟨l.length, ι1, S1, [], [], by omega, ext_mine Ext.refl (Free.of hD) (tabs_new hD), rel1.more hD, upd_same, rfl, h'⟩, ?_⟩
          rintro i n H2 ⟨ι2, S2, accD, acc, hi, x2, rel2, ha, ra, h2⟩
          have dn2 : Dd ∉ ι2 := (rel2.ex Dd List.mem_cons_self).1
          have o2 : Out1 ι1 X H1 ι2 (Dd :: X) H2 := ⟨fun e => x2.at e, fun a u n k e nt => ⟨x2.old a u n e nt, x2.nin n e nt, fun z => by
            rcases List.mem_cons.mp z with z | z
            · rw [z, hD] at e; cases e
            · exact k z⟩⟩
          have ea2 := x2.at ea
          cases n with
          | zero =>
            unfold mLcO at h2
            cases es2 : S2[o]? with
            | none => simp only [es2] at h2; exact h2.elim
            | some ob =>
              cases ob with
              | ins C fs => simp only [es2] at h2; exact h2.elim
              | dic fs => simp only [es2] at h2; exact h2.elim
              | tup fs => simp only [es2] at h2; exact h2.elim
              | lst l2 =>
                simp only [es2] at h2
                by_cases hl : l2.length = l.length
                · rw [if_pos hl] at h2
                  obtain ⟨xs, ex, rx⟩ := obj_now rel2 ea2 es2
                  exact .inl ⟨⟨xs, SqL.of ex, by rw [repDs_len rx]; omega⟩, h2 ι2 H2 Dd acc (x1.trans x2) rel2 h0 ha ra⟩
                · rw [if_neg hl] at h2; exact h2.elim
          | succ n =>
            unfold mLcO at h2
            cases es2 : S2[o]? with
            | none => simp only [es2] at h2; exact h2.elim
            | some ob =>
              cases ob with
              | ins C fs => simp only [es2] at h2; exact h2.elim
              | dic fs => simp only [es2] at h2; exact h2.elim
              | tup fs => simp only [es2] at h2; exact h2.elim
              | lst l2 =>
                simp only [es2] at h2
                by_cases hl : l2.length = l.length
                · rw [if_pos hl] at h2
                  cases ed : l2[i]? with
                  | none => simp only [ed] at h2; exact h2.elim
                  | some d =>
                    simp only [ed] at h2
                    obtain ⟨xs, ex, rx⟩ := obj_now rel2 ea2 es2
                    obtain ⟨y, ey, ry⟩ := repDs_at rx ed
                    refine .inr ⟨⟨xs, y, SqL.of ex, ey⟩, fun H' => ∃ ι3 S3 accD acc, Ext ι1 H1 ι3 H' ∧ Rel K ι3 (Dd :: X) S3 H' ∧ H' Dd = some (.lst acc) ∧ RepDs K ι3 (Dd :: X) H' accD acc ∧ LcT K X ι H Q (mLcO m t e vs δ o l.length n (i + 1) accD S3),
                      fun H' ⟨ι3, S3, a, b, q⟩ => ⟨n, Nat.lt_succ_self n, ι3, S3, a, b, by omega, q⟩, fun x H3 yy => ?_⟩
                    obtain ⟨rfl, yy⟩ := yy
                    have exy : x = y := by
                      have := yy xs (SqL.of ex)
                      rw [ey] at this
                      exact (Option.some.inj this).symm
                    subst exy
                    have re3 : RepE K ι2 (Dd :: X) _ (wipeD δ vs) (wipe σ vs) := ((re.ext x1).out o2).wipe vs
                    exact lc_item hg ht he hf x2 (Free.of hD) rel2 re3 ry ha ra h2 fun ι' H' S' accD' acc' x4 rel4 ha4 ra4 h4 => ⟨ι', S', accD', acc', x4, rel4, ha4, ra4, h4⟩
                · rw [if_neg hl] at h2; exact h2.elim
end
end M3
namespace M3
open PySem PySem.Spec PyProof.Rows L2
variable [TabsP]
/-- a def of the text, as the top has left it -/
structure Def (K : PySem.W.Frag) (mg : Str → Option Value) (x : Str) (st : Stmt) (ps : List Str) : Prop where
  ex : ∃ f fd, Fun K x x st f fd ∧ mg x = some (.ref f) ∧ Binds K fd ps []
/-- a def to be called -/
structure Cal (P : Program) (w : World) (K : PySem.W.Frag) (mg : Str → Option Value) (base : Heap) (k : Nat) (x : Str) (ps : List Str) (sp : Sp) : Prop where
  ex : ∃ f fd, FnOk P w K mg base (L2.CX P w) k f fd ps sp ∧ mg x = some (.ref f) ∧ PySem.W.keepIn K (.ref f) = true ∧ Binds K fd ps []
theorem Cal.imp {P : Program} {w : World} {K : PySem.W.Frag} {mg : Str → Option Value} {base : Heap} {k : Nat} {x : Str} {ps : List Str} {sp sp' : Sp} (C : Cal P w K mg base k x ps sp) (h : ∀ vs H Q E, sp' vs H Q E → sp vs H Q E) : Cal P w K mg base k x ps sp' :=
  let ⟨f, fd, F, r⟩ := C.ex; ⟨f, fd, F.imp h, r⟩
theorem Cal.mono {P : Program} {w : World} {K : PySem.W.Frag} {mg : Str → Option Value} {base : Heap} {j k : Nat} {x : Str} {ps : List Str} {sp : Sp} (C : Cal P w K mg base j x ps sp) (h : j ≤ k) : Cal P w K mg base k x ps sp :=
  let ⟨f, fd, F, r⟩ := C.ex; ⟨f, fd, F.mono h, r⟩
theorem Def.cal {P : Program} {w : World} {K : PySem.W.Frag} {mg : Str → Option Value} {base : Heap} {k : Nat} {x : Str} {st : Stmt} {N ps : List Str} {sp : Sp} (D : Def K mg x st ps) (S : FnScope N ps (defScope st)) (len : ∀ vs H Q E, sp vs H Q E → vs.length = ps.length)
    (hbody : ∀ (f : Addr) (cdv : Value) (A : Around) (outer : List PySem.Env) (s : Shared) (H : Hp) (vs : List V) (Q : VK) (E : XK), Room k (A.deeper (envOfC x (defScope st) s.heap.objs.size f cdv)) → sp vs H Q E →
      ∃ t, PSs (cxOf (L2.CX P w) P w K mg base N x (defScope st) f cdv A outer s H E) (defBody st) t ∧ t { nx := fun _ H' => Q .non H', rt := Q } (L2.start N vs) H) : Cal P w K mg base (k + 1) x ps sp := by
  obtain ⟨f, fd, F, hm, b⟩ := D.ex
  exact ⟨f, fd, F.okX S len (hbody f), hm, F.kp, b⟩
/-- a wish by slots, as the judgements have it -/
def wk (W : WX) : L2.St → WK := fun σ c d H => W c d σ H
/-- what a def promises: what its function of data says -/
def spM (K : PySem.W.Frag) (n : Nat) (m : List D → Store → R D) : Sp := fun vs H Q E => vs.length = n ∧ ∃ ι X S ds, Rel K ι X S H ∧ RepDs K ι X H ds vs ∧ Post K X ι H (fun c da H' => E c da H') (m ds S) (fun ι' H' d v => RepD K ι' X H' d v) Q
theorem spM_len {K : PySem.W.Frag} {n : Nat} {m : List D → Store → R D} {ps : List Str} (h : ps.length = n) : ∀ vs H Q E, spM K n m vs H Q E → vs.length = ps.length := fun _ _ _ _ q => q.1.trans h.symm
section
variable {K : PySem.W.Frag}
theorem repE_start {ι X : List Addr} {H : Hp} {N : List Str} : ∀ {ds : List D} {vs : List V}, RepDs K ι X H ds vs → ∀ n, RepE K ι X H (ds.map some ++ List.replicate n none) (vs.map some ++ List.replicate n none) := by
  intro ds vs r n
  have hl := repDs_len r
  refine ⟨by simp [hl], fun i d e => ?_⟩
  by_cases hi : i < ds.length
  · rw [List.getElem?_append_left (by simpa using hi), List.getElem?_map] at e
    cases q : ds[i]? with
    | none => rw [q] at e; cases e
    | some d' =>
      rw [q] at e
      cases e
      obtain ⟨x, ex, rx⟩ := repDs_at r q
      exact ⟨x, by rw [List.getElem?_append_left (by simpa [hl] using hi), List.getElem?_map, ex]; rfl, rx⟩
  · rw [List.getElem?_append_right (by simpa using hi), List.getElem?_replicate] at e
    split at e <;> cases e
theorem body_ok {n : Nat} {N : List Str} {t : TS} {b : DS} {vs : List V} {H : Hp} {Q : VK} {E : XK} (hb : SS K (wk fun cls d _ H => E cls d H) t b) (h : spM K n (mBody N.length b) vs H Q E) : t { nx := fun _ H' => Q .non H', rt := Q } (L2.start N vs) H := by
  obtain ⟨hn, ι, X, S, ds, rel, rd, hp⟩ := h
  unfold mBody at hp
  have hl := repDs_len rd
  refine hb ι X S H _ _ _ rel (by unfold L2.start; rw [hl]; exact repE_start (N := N) rd _) ?_
  cases e : b (ds.map some ++ List.replicate (N.length - ds.length) none) S with
  | fail => rw [e] at hp; exact hp
  | exc C x S' => rw [e] at hp; exact hp
  | ok o S' =>
    rw [e] at hp
    cases o with
    | nx δ => exact fun ι' H' σ x rel' re => hp ι' H' .non x rel' rd_non
    | rt d => exact fun ι' H' v x rel' rv => hp ι' H' v x rel' rv
    | bk δ => exact hp.elim
    | ct δ => exact hp.elim
    | ex C x δ => exact fun ι' H' da σ x rel' rx re => hp ι' H' da x rel' rx
theorem se_def {W : WX} {n : Nat} {m : List D → Store → R D} {t : TA} {a : DA} (ha : SA K (wk W) t a) : SE K (wk W) (tCallS (spM K n m) (WE W) t) (mDef n m a) := by
  intro ι X S H σ δ Q rel re h
  refine ha ι X S H σ δ _ rel re (Post.bind h fun ι1 H1 ds S1 vs x1 rel1 rv h1 => ?_)
  by_cases hn : ds.length = n
  · rw [if_pos hn] at h1
    exact ⟨by rw [repDs_len rv]; exact hn, ι1, X, S1, ds, rel1, rv, h1⟩
  · rw [if_neg hn] at h1
    exact h1.elim
/-- within a comprehension: nothing is raised -/
theorem se_defF {n : Nat} {m : List D → Store → R D} {t : TA} {a : DA} (ha : SA K WF t a) : SE K WF (tCall (spM K n m) [] E0 t) (mDef n m a) := by
  intro ι X S H σ δ Q rel re h
  refine ha ι X S H σ δ _ rel re (Post.bind h fun ι1 H1 ds S1 vs x1 rel1 rv h1 => ?_)
  rw [List.append_nil]
  by_cases hn : ds.length = n
  · rw [if_pos hn] at h1
    exact ⟨by rw [repDs_len rv]; exact hn, ι1, X, S1, ds, rel1, rv, h1⟩
  · rw [if_neg hn] at h1
    exact h1.elim
theorem passF {P : Program} {w : World} {X : Cx} : Passes (L2.CX P w) X E0 := fun _ _ _ _ _ _ _ ⟨_, _, _, _, _, _, _, _, _, _, _, _, h⟩ => h.elim
section
variable {X : Cx} {k j : Nat} {x : Str} {ps : List Str} {sp : Sp} {e : Expr} {es : List Expr} {t : TA} {p pos : Pos} {W : WX}
theorem pcal (C : Cal X.prog X.w X.K X.mg X.base k x ps sp) (hr : Room j X.A) (hk : k ≤ j) (hg : Gl X x) (tk : Takes X W) (ha : PA X (e :: es) t) (hdb : (x == ("__debug__" : Str)) = false := by decide) (he : starEach (e :: es) X.env = (false, eval e X.env) :: starEach es X.env := by rfl) (hpl : (backTo pos (starEach es X.env)).any (·.1) = false := by rfl) :
    PE X (.Call (.Name x p) (e :: es) [] pos) (tCallS sp (WE W) t) := by
  obtain ⟨f, fd, F, hm, kp, b⟩ := C.ex
  exact pe_callS F (hr.mono hk) hg hm kp b (fun σ => passAt tk σ) ha hdb he hpl
theorem pcalF (C : Cal X.prog X.w X.K X.mg X.base k x ps sp) (hr : Room j X.A) (hk : k ≤ j) (hg : Gl X x) (ha : PA X (e :: es) t) (hdb : (x == ("__debug__" : Str)) = false := by decide) (he : starEach (e :: es) X.env = (false, eval e X.env) :: starEach es X.env := by rfl) (hpl : (backTo pos (starEach es X.env)).any (·.1) = false := by rfl) :
    PE X (.Call (.Name x p) (e :: es) [] pos) (tCall sp [] E0 t) := by
  obtain ⟨f, fd, F, hm, kp, b⟩ := C.ex
  exact pe_call F (hr.mono hk) hg hm kp b .nil passF ha hdb he hpl
end
theorem datAll_repD {ι X ι' X' : List Addr} {H H' : Hp} (x : OutP ι X H ι' X' H') : ∀ {ds : List D} {ps : List P} {vs : List V}, datAll ds = some ps → RepDs K ι X H ds vs → RepDs K ι' X' H' ds vs
  | [], ps, vs, e, r => r
  | .dat p :: ds, ps, vs, e, ⟨y, ys, ev, f, g⟩ => by
    unfold datAll at e
    cases q : datAll ds with
    | none => rw [q] at e; cases e
    | some qs => exact ⟨y, ys, ev, RepP.out x f, datAll_repD x q g⟩
  | .obj _ :: ds, ps, vs, e, r => by cases e
theorem datF_rep {ι X ι' X' : List Addr} {H H' : Hp} (x : OutP ι X H ι' X' H') : ∀ {ds : List (Str × D)} {ps : List (Str × P)} {vs : List (Str × V)}, datF ds = some ps → RepDF K ι X H ds vs → RepFs K ι' X' H' ps vs
  | [], ps, vs, e, r => by
    cases e
    rw [RepFs]
    exact r
  | (f, .dat p) :: ds, ps, vs, e, ⟨y, ys, ev, h, g⟩ => by
    unfold datF at e
    cases q : datF ds with
    | none => rw [q] at e; cases e
    | some qs =>
      rw [q] at e
      cases e
      rw [RepFs]
      exact ⟨y, ys, ev, RepP.out x h, datF_rep x q g⟩
  | (_, .obj _) :: ds, ps, vs, e, r => by cases e
theorem frz1_rep {ι X ι' X' : List Addr} {S : Store} {H : Hp} (rel : Rel K ι X S H) (x : OutP ι X H ι' X' H) {i : Nat} {p : P} {a : Addr} (e : frz1 S i = some p) (ea : ι[i]? = some a) (n : a ∉ ι') (m : a ∉ X') : RepD K ι' X' H (.dat p) (.ref a) := by
  show RepP K ι' X' H p _
  unfold frz1 at e
  cases es : S[i]? with
  | none => rw [es] at e; cases e
  | some o =>
    rw [es] at e
    have ro := rel.at_ i o a es ea
    cases o with
    | lst l =>
      obtain ⟨xs, f, g⟩ := ro
      cases q : datAll l with
      | none => simp only [q] at e; cases e
      | some ps =>
        simp only [q, Option.map_some] at e
        cases e
        rw [RepP]
        exact ⟨a, xs, rfl, n, m, f, RepPs.out x (datAll_rep q g)⟩
    | ins C l =>
      obtain ⟨dx, xs, f, g⟩ := ro
      cases q : datF l with
      | none => simp only [q] at e; cases e
      | some ps =>
        simp only [q, Option.map_some] at e
        cases e
        rw [RepP]
        exact ⟨a, dx, xs, rfl, n, m, f, datF_rep x q g⟩
    | dic l => cases e
    | tup l => cases e
theorem repX_out {ι X ι' X' : List Addr} {H H' : Hp} (x : OutP ι X H ι' X' H') (k : ∀ d f v, H d = some (.xd [(f, v)]) → H' d = some (.xd [(f, v)])) {o : Option (Str × P)} {da : Option Addr} (r : RepX K ι X H o da) : RepX K ι' X' H' o da := by
  cases o with
  | none => exact r
  | some z =>
    obtain ⟨f, p⟩ := z
    obtain ⟨d, v, e, g, h⟩ := r
    exact ⟨d, v, e, k _ _ _ g, RepP.out x h⟩
theorem pure_ok {n : Nat} {f : List D → Store → R D} : ∀ vs H Q E, spM K n (mPure f) vs H Q E → spM K n f vs H Q E := by
  rintro vs H Q E ⟨hn, ι, X, S, ds, rel, rd, hp⟩
  unfold mPure at hp
  cases e : datAll ds with
  | none => rw [e] at hp; exact hp.elim
  | some ps =>
    simp only [e] at hp
    have y : OutP ι X H [] (ι ++ X) H := ⟨fun a o n m e nt => ⟨e, by simp, fun z => by
      rcases List.mem_append.mp z with z | z
      · exact n z
      · exact m z⟩⟩
    have relX : Rel K [] (ι ++ X) [] H := ⟨rfl, List.nodup_nil, fun i o a e => by simp at e, fun a m => ⟨by simp, by
      rcases List.mem_append.mp m with m | m
      · obtain ⟨u, e1, p1⟩ := rel.pl m; exact ⟨u, e1, p1.1⟩
      · exact (rel.ex a m).2⟩, rel.tabs⟩
    refine ⟨hn, [], ι ++ X, [], ds, relX, datAll_repD y e rd, ?_⟩
    -- the caller's own state, behind
    have back : ∀ ι' H', Ext [] H ι' H' → Ext ι H ι H' ∧ Rel K ι X S H' := fun ι' H' x => by
      have o1 : Out1 ι X H ι X H' := ⟨fun e => e, fun a o n m e nt => ⟨x.old a o (by simp) e nt, n, m⟩⟩
      refine ⟨⟨⟨[], by simp⟩, fun b o _ e z => x.old b o (by simp) e z, fun b m n => absurd m n, x.tab⟩, rel.keep o1 rfl (fun a m => ?_) (fun a m => ⟨(rel.ex a m).1, ?_⟩) (x.tab rel.tabs)⟩
      · obtain ⟨u, eu, pu⟩ := rel.pl m
        rw [eu, x.old a u (by simp) eu pu.1]
      · obtain ⟨_, u, eu, zu⟩ := rel.ex a m
        exact ⟨u, x.old a u (by simp) eu zu, zu⟩
    have yy : ∀ ι' H', OutP ι' (ι ++ X) H' ι X H' := fun ι' H' => ⟨fun a o n m e nt => ⟨e, fun z => m (List.mem_append_left _ z), fun z => m (List.mem_append_right _ z)⟩⟩
    cases q : f ds [] with
    | fail => rw [q] at hp; exact hp
    | exc C x S' =>
      rw [q] at hp
      exact fun ι' H' da x rel' rx => hp ι H' da (back ι' H' x).1 (back ι' H' x).2 (repX_out (yy ι' H') (fun _ _ _ z => z) rx)
    | ok d S' =>
      rw [q] at hp
      cases d with
      | dat p => exact fun ι' H' v x rel' rv => hp ι H' v (back ι' H' x).1 (back ι' H' x).2 (RepP.out (yy ι' H') rv)
      | obj i =>
        simp only at hp
        cases z : frz1 S' i with
        | none => rw [z] at hp; exact hp.elim
        | some p =>
          simp only [z] at hp
          rintro ι' H' v x rel' ⟨a, ea, rfl⟩
          have hna : Free H a := x.new a (List.mem_of_getElem? ea) (by simp)
          exact hp ι H' _ (back ι' H' x).1 (back ι' H' x).2 (frz1_rep rel' (yy ι' H') z ea (rel.ninF hna).1 (rel.ninF hna).2)
end
end M3
namespace M3
open PySem PySem.Spec PyProof.Rows L2
variable [TabsP]
section
variable {K : PySem.W.Frag}
/-- fewer are tracked -/
theorem repD_lt {ι t X : List Addr} {H : Hp} {d : D} {v : V} (e : d.lt ι.length = true) (r : RepD K (ι ++ t) X H d v) : RepD K ι X H d v := by
  cases d with
  | dat p => exact RepP.out (⟨fun a o n m e nt => ⟨e, fun z => n (List.mem_append_left _ z), m⟩⟩ : OutP (ι ++ t) X H ι X H) r
  | obj i =>
    obtain ⟨a, ea, ev⟩ := r
    have hi : i < ι.length := of_decide_eq_true e
    rw [List.getElem?_append_left hi] at ea
    exact ⟨a, ea, ev⟩
theorem repDs_lt {ι t X : List Addr} {H : Hp} : ∀ {ds : List D} {vs : List V}, ds.all (D.lt ι.length) = true → RepDs K (ι ++ t) X H ds vs → RepDs K ι X H ds vs
  | [], _, _, r => r
  | d :: ds, _, e, ⟨y, ys, ev, f, g⟩ => by
    rw [List.all_cons, Bool.and_eq_true] at e
    exact ⟨y, ys, ev, repD_lt e.1 f, repDs_lt e.2 g⟩
theorem repDF_lt {ι t X : List Addr} {H : Hp} : ∀ {ds : List (Str × D)} {vs : List (Str × V)}, ds.all (fun p => p.2.lt ι.length) = true → RepDF K (ι ++ t) X H ds vs → RepDF K ι X H ds vs
  | [], _, _, r => r
  | (_, d) :: ds, _, e, ⟨y, ys, ev, f, g⟩ => by
    rw [List.all_cons, Bool.and_eq_true] at e
    exact ⟨y, ys, ev, repD_lt e.1 f, repDF_lt e.2 g⟩
theorem repDK_lt {ι t X : List Addr} {H : Hp} : ∀ {ds : List (Key × D)} {vs : List (Key × V)}, ds.all (fun p => p.2.lt ι.length) = true → RepDK K (ι ++ t) X H ds vs → RepDK K ι X H ds vs
  | [], _, _, r => r
  | (_, d) :: ds, _, e, ⟨y, ys, ev, f, g⟩ => by
    rw [List.all_cons, Bool.and_eq_true] at e
    exact ⟨y, ys, ev, repD_lt e.1 f, repDK_lt e.2 g⟩
theorem repO_lt {ι t X : List Addr} {H : Hp} {o : O} {a : Addr} (e : o.lt ι.length = true) (r : RepO K (ι ++ t) X H o a) : RepO K ι X H o a := by
  cases o with
  | lst l => obtain ⟨xs, f, g⟩ := r; exact ⟨xs, f, repDs_lt e g⟩
  | ins C l => obtain ⟨dx, xs, f, g⟩ := r; exact ⟨dx, xs, f, repDF_lt e g⟩
  | dic l => obtain ⟨xs, f, g⟩ := r; exact ⟨xs, f, repDK_lt e g⟩
  | tup l => obtain ⟨xs, f, g⟩ := r; exact ⟨xs, f, repDs_lt e g⟩
theorem scope_rel {ι ι' X : List Addr} {S S' : Store} {H H' : Hp} (rel : Rel K ι X S H) (x : Ext ι H ι' H') (rel' : Rel K ι' X S' H') (e : (S'.take S.length).all (O.lt S.length) = true) : Ext ι H ι H' ∧ Rel K ι X (S'.take S.length) H' := by
  obtain ⟨t, rfl⟩ := x.pre
  refine ⟨⟨⟨[], by simp⟩, x.old, fun b m n => absurd m n, x.tab⟩, ?_, rel.nd, fun i o a eo ea => ?_, fun a m => ⟨fun z => (rel'.ex a m).1 (List.mem_append_left _ z), (rel'.ex a m).2⟩, rel'.tabs⟩
  · have h1 := rel'.len
    rw [List.length_append] at h1
    rw [List.length_take, ← rel.len]
    omega
  · have hi := (List.getElem?_eq_some_iff.mp ea).1
    have mo : o ∈ S'.take S.length := List.mem_of_getElem? eo
    have eo2 : S'[i]? = some o := by
      rw [List.getElem?_take] at eo
      split at eo
      · exact eo
      · cases eo
    have q := rel'.at_ i o a eo2 (by rw [List.getElem?_append_left hi]; exact ea)
    rw [← rel.len] at e
    exact repO_lt (List.all_eq_true.mp e o (by rw [rel.len]; exact mo)) q
theorem scope_ok {n : Nat} {f : List D → Store → R D} : ∀ vs H Q E, spM K n (mScope f) vs H Q E → spM K n f vs H Q E := by
  rintro vs H Q E ⟨hn, ι, X, S, ds, rel, rd, hp⟩
  refine ⟨hn, ι, X, S, ds, rel, rd, ?_⟩
  unfold mScope at hp
  cases q : f ds S with
  | fail => rw [q] at hp; exact hp
  | exc C x S' =>
    rw [q] at hp
    simp only at hp
    by_cases e : (S'.take S.length).all (O.lt S.length) = true
    · rw [if_pos e] at hp
      intro ι' H' da x' rel' rx
      obtain ⟨x2, rel2⟩ := scope_rel rel x' rel' e
      obtain ⟨t, et⟩ := x'.pre
      refine hp ι H' da x2 rel2 (repX_out ⟨fun a o n m e nt => ⟨e, fun z => n (by rw [et]; exact List.mem_append_left _ z), m⟩⟩ (fun _ _ _ z => z) rx)
    · rw [if_neg e] at hp; exact hp.elim
  | ok d S' =>
    rw [q] at hp
    cases d with
    | dat p =>
      simp only at hp
      by_cases e : (S'.take S.length).all (O.lt S.length) = true
      · rw [if_pos e] at hp
        intro ι' H' v x' rel' rv
        obtain ⟨x2, rel2⟩ := scope_rel rel x' rel' e
        obtain ⟨t, et⟩ := x'.pre
        exact hp ι H' v x2 rel2 (RepP.out (⟨fun a o n m e nt => ⟨e, fun z => n (by rw [et]; exact List.mem_append_left _ z), m⟩⟩ : OutP ι' X H' ι X H') rv)
      · rw [if_neg e] at hp; exact hp.elim
    | obj i =>
      simp only at hp
      by_cases e : (S'.take S.length).all (O.lt S.length) = true
      · rw [if_pos e] at hp
        rintro ι' H' v x' rel' ⟨a, ea, rfl⟩
        obtain ⟨x2, rel2⟩ := scope_rel rel x' rel' e
        obtain ⟨t, et⟩ := x'.pre
        by_cases hi : i < S.length
        · rw [if_pos hi] at hp
          refine hp ι H' _ x2 rel2 ⟨a, ?_, rfl⟩
          rw [et, List.getElem?_append_left (by rw [rel.len]; exact hi)] at ea
          exact ea
        · rw [if_neg hi] at hp
          cases z : frz1 S' i with
          | none => rw [z] at hp; exact hp.elim
          | some p =>
            simp only [z] at hp
            have na : a ∉ ι := fun m => by
              obtain ⟨j, hj⟩ := List.getElem?_of_mem m
              have h1 := x'.at hj
              have := nd_inj rel'.nd ea h1
              have h2 := (List.getElem?_eq_some_iff.mp hj).1
              rw [rel.len] at h2
              omega
            have ma : a ∉ X := fun m => (rel'.ex a m).1 (List.mem_of_getElem? ea)
            exact hp ι H' _ x2 rel2 (frz1_rep rel' ⟨fun a o n m e nt => ⟨e, fun z => n (by rw [et]; exact List.mem_append_left _ z), m⟩⟩ z ea na ma)
      · rw [if_neg e] at hp; exact hp.elim
/-- C(..), as a promise -/
def spNew (C : Addr) (sp : Sp) : Sp := fun vs H Q E => ∀ x dx, H x = none → H dx = none → dx ≠ x → sp (.ref x :: vs) (upd (upd H dx (.own x)) x (.ins C dx [])) (fun v H2 => v = .non ∧ Q (.ref x) H2) E
theorem new_ok {n : Nat} {C : Addr} {f : List D → Store → R D} : ∀ vs H Q E, spM K n (mkC C f) vs H Q E → spNew C (spM K (n + 1) f) vs H Q E := by
  rintro vs H Q E ⟨hn, ι, X, S, ds, rel, rd, hp⟩ x dx hx hdx ne
  have h1 : (upd H dx (.own x)) x = none := by rw [upd_ne (Ne.symm ne)]; exact hx
  have e1 := ext_alloc (o := .own x) rel hdx
  have r1 := rel.alloc (o := .own x) hdx
  have e2 := ext_alloc (o := .ins C dx []) r1 h1
  have r2 := r1.more (o := .ins C dx []) h1
  have e12 := e1.trans e2
  obtain ⟨r3, e3⟩ := r2.trk (o := .ins C []) (X := X) e12 (Free.of hx) (rel.nin hx).2 ⟨dx, [], upd_same, rfl⟩
  refine ⟨by rw [List.length_cons, hn], ι ++ [x], X, S ++ [.ins C []], .obj S.length :: ds, r3, ⟨_, _, rfl, ⟨x, ?_, rfl⟩, rd.ext e3⟩, ?_⟩
  · rw [← rel.len, List.getElem?_append_right (Nat.le_refl _), Nat.sub_self]
    rfl
  unfold mkC at hp
  cases q : f (.obj S.length :: ds) (S ++ [.ins C []]) with
  | fail => rw [q] at hp; exact hp
  | exc C' x' S' => rw [q] at hp; exact fun ι' H' da y rel' rx => hp ι' H' da (e3.trans y) rel' rx
  | ok d S' =>
    rw [q, R.bind_ok] at hp
    intro ι' H' v y rel' rv
    split at hp
    case h_2 => exact hp.elim
    have rv : RepP K ι' X H' .non v := rv
    rw [RepP] at rv
    refine ⟨rv, hp ι' H' _ (e3.trans y) rel' ⟨x, y.at ?_, rfl⟩⟩
    rw [← rel.len, List.getElem?_append_right (Nat.le_refl _), Nat.sub_self]
    rfl
theorem se_new {W : WX} {C : Addr} {n : Nat} {sp : Sp} {m : List D → Store → R D} {t : TA} {a : DA} (hs : ∀ vs H Q E, spM K n m vs H Q E → spNew C sp vs H Q E) (ha : SA K (wk W) t a) :
    SE K (wk W) (fun σ H Q => t σ H fun vs H1 => ∀ x dx, H1 x = none → H1 dx = none → dx ≠ x → sp (.ref x :: vs) (upd (upd H1 dx (.own x)) x (.ins C dx [])) (fun v H2 => v = .non ∧ Q (.ref x) H2) (WE W σ)) (mDef n m a) := by
  intro ι X S H σ δ Q rel re h
  refine ha ι X S H σ δ _ rel re (Post.bind h fun ι1 H1 ds S1 vs x1 rel1 rv h1 => ?_)
  by_cases hn : ds.length = n
  · rw [if_pos hn] at h1
    exact hs _ _ _ _ ⟨by rw [repDs_len rv]; exact hn, ι1, X, S1, ds, rel1, rv, h1⟩
  · rw [if_neg hn] at h1
    exact h1.elim
theorem se_newF {C : Addr} {n : Nat} {sp : Sp} {m : List D → Store → R D} {t : TA} {a : DA} (hs : ∀ vs H Q E, spM K n m vs H Q E → spNew C sp vs H Q E) (ha : SA K WF t a) :
    SE K WF (fun σ H Q => t σ H fun vs H1 => ∀ x dx, H1 x = none → H1 dx = none → dx ≠ x → sp (.ref x :: vs) (upd (upd H1 dx (.own x)) x (.ins C dx [])) (fun v H2 => v = .non ∧ Q (.ref x) H2) E0) (mDef n m a) := by
  intro ι X S H σ δ Q rel re h
  refine ha ι X S H σ δ _ rel re (Post.bind h fun ι1 H1 ds S1 vs x1 rel1 rv h1 => ?_)
  by_cases hn : ds.length = n
  · rw [if_pos hn] at h1
    exact hs _ _ _ _ ⟨by rw [repDs_len rv]; exact hn, ι1, X, S1, ds, rel1, rv, h1⟩
  · rw [if_neg hn] at h1
    exact h1.elim
theorem spM_fail {n : Nat} {vs : List V} {H : Hp} {Q : VK} {E : XK} (h : spM K n (fun _ _ => .fail) vs H Q E) : False := by
  obtain ⟨_, ι, X, S, ds, _, _, h⟩ := h
  exact h
end
end M3
namespace M3
open PySem PySem.Spec PyProof.Rows L2
variable [TabsP]
theorem OpR.or {X : Cx} {f : Value → Value → Sem Value} {r1 r2 : R2} (h1 : OpR X f r1) (h2 : OpR X f r2) : OpR X f (fun x y H Q => r1 x y H Q ∨ r2 x y H Q) := by
  intro pins s σ H x y v u Q I rx ry h
  rcases h with h | h
  · exact h1 pins s σ H x y v u Q I rx ry h
  · exact h2 pins s σ H x y v u Q I rx ry h
theorem CallR.or {X : Cx} {f : Value} {r1 r2 : List V → Hp → VK → Prop} (h1 : CallR X f r1) (h2 : CallR X f r2) : CallR X f (fun x H Q => r1 x H Q ∨ r2 x H Q) := by
  intro pins s σ H xs us Q I r h
  rcases h with h | h
  · exact h1 pins s σ H xs us Q I r h
  · exact h2 pins s σ H xs us Q I r h
section
variable {K : PySem.W.Frag} {ι X : List Addr} {S : Store} {H : Hp}
theorem rI_inv {i : Int} {v : V} (r : RepD K ι X H (.dat (.int i)) v) : v = .int i := by
  have r : RepP K ι X H (.int i) v := r
  rwa [RepP] at r
theorem rB_inv {i : Bool} {v : V} (r : RepD K ι X H (.dat (.bl i)) v) : v = .bl i := by
  have r : RepP K ι X H (.bl i) v := r
  rwa [RepP] at r
theorem rS_inv {i : Str} {v : V} (r : RepD K ι X H (.dat (.str i)) v) : v = .str i := by
  have r : RepP K ι X H (.str i) v := r
  rwa [RepP] at r
theorem rN_inv {v : V} (r : RepD K ι X H (.dat .non) v) : v = .non := by
  have r : RepP K ι X H .non v := r
  rwa [RepP] at r
theorem rC_inv {v w : V} (r : RepD K ι X H (.dat (.con w)) v) : v = w := by
  have r : RepP K ι X H (.con w) v := r
  rwa [RepP] at r
theorem rT_inv {l : List P} {v : V} (r : RepD K ι X H (.dat (.tup l)) v) : ∃ a xs, v = .ref a ∧ TupAt K ι X H a xs ∧ RepPs K ι X H l xs := by
  have r : RepP K ι X H (.tup l) v := r
  rwa [RepP] at r
theorem rL_inv {l : List P} {v : V} (r : RepD K ι X H (.dat (.lst l)) v) : ∃ a xs, v = .ref a ∧ a ∉ ι ∧ a ∉ X ∧ H a = some (.lst xs) ∧ RepPs K ι X H l xs := by
  have r : RepP K ι X H (.lst l) v := r
  rwa [RepP] at r
end
/-- the items of a list -/
def listD (S : Store) : D → Option (List D)
  | .dat (.lst l) => some (l.map .dat)
  | .obj i => match S[i]? with
    | some (.lst l) => some l
    | _ => none
  | _ => none
/-- the items of a list or tuple -/
def seqD (S : Store) : D → Option (List D)
  | .dat (.tup l) => some (l.map .dat)
  | .dat (.scr l) => some (l.map fun i => .dat (.int i))
  | d => listD S d
def listP (S : Store) (d : D) : Option (List P) := (listD S d).bind datAll
def seqP (S : Store) (d : D) : Option (List P) := (seqD S d).bind datAll
section
variable {K : PySem.W.Frag} {ι X : List Addr} {S : Store} {H : Hp}
theorem listD_rep {d : D} {l : List D} {v : V} (rel : Rel K ι X S H) (e : listD S d = some l) (r : RepD K ι X H d v) : ∃ a xs, v = .ref a ∧ H a = some (.lst xs) ∧ RepDs K ι X H l xs := by
  cases d with
  | obj i =>
    obtain ⟨a, ea, rfl⟩ := r
    unfold listD at e
    simp only at e
    cases es : S[i]? with
    | none => rw [es] at e; cases e
    | some o =>
      rw [es] at e
      cases o with
      | lst l' =>
        cases e
        obtain ⟨xs, f, g⟩ := rel.at_ i _ a es ea
        exact ⟨a, xs, rfl, f, g⟩
      | ins C l' => cases e
      | dic l' => cases e
      | tup l' => cases e
  | dat p =>
    cases p with
    | lst l' =>
      cases e
      obtain ⟨a, xs, rfl, _, _, f, g⟩ := rL_inv r
      exact ⟨a, xs, rfl, f, repDs_dat g⟩
    | _ => cases e
theorem repDs_ints : ∀ l : List Int, RepDs K ι X H (l.map fun i => .dat (.int i)) (l.map V.int)
  | [] => rfl
  | i :: l => ⟨_, _, rfl, rd_int, repDs_ints l⟩
theorem seqD_rep {d : D} {l : List D} {v : V} (rel : Rel K ι X S H) (e : seqD S d = some l) (r : RepD K ι X H d v) : ∃ a xs, v = .ref a ∧ (SqL K H a xs ∨ SqT K H a xs) ∧ RepDs K ι X H l xs := by
  cases d with
  | obj i =>
    obtain ⟨a, xs, ev, f, g⟩ := listD_rep rel (d := .obj i) e r
    exact ⟨a, xs, ev, .inl (SqL.of f), g⟩
  | dat p =>
    cases p with
    | tup l' =>
      cases e
      obtain ⟨a, xs, rfl, f, g⟩ := rT_inv r
      exact ⟨a, xs, rfl, .inr f.sq, repDs_dat g⟩
    | scr l' =>
      cases e
      have r : RepP K ι X H (.scr l') v := r
      rw [RepP] at r
      obtain ⟨a, rfl, f⟩ := r
      exact ⟨a, _, rfl, .inl f.sq, repDs_ints l'⟩
    | lst l' =>
      obtain ⟨a, xs, ev, f, g⟩ := listD_rep rel (d := .dat (.lst l')) e r
      exact ⟨a, xs, ev, .inl (SqL.of f), g⟩
    | _ => cases e
theorem listP_rep {d : D} {l : List P} {v : V} (rel : Rel K ι X S H) (e : listP S d = some l) (r : RepD K ι X H d v) : ∃ a xs, v = .ref a ∧ H a = some (.lst xs) ∧ RepPs K ι X H l xs := by
  unfold listP at e
  cases q : listD S d with
  | none => rw [q] at e; cases e
  | some l' =>
    rw [q] at e
    obtain ⟨a, xs, ev, f, g⟩ := listD_rep rel q r
    exact ⟨a, xs, ev, f, datAll_rep e g⟩
theorem seqP_rep {d : D} {l : List P} {v : V} (rel : Rel K ι X S H) (e : seqP S d = some l) (r : RepD K ι X H d v) : ∃ a xs, v = .ref a ∧ (SqL K H a xs ∨ SqT K H a xs) ∧ RepPs K ι X H l xs := by
  unfold seqP at e
  cases q : seqD S d with
  | none => rw [q] at e; cases e
  | some l' =>
    rw [q] at e
    obtain ⟨a, xs, ev, f, g⟩ := seqD_rep rel q r
    exact ⟨a, xs, ev, f, datAll_rep e g⟩
theorem repPs_app : ∀ {l k : List P} {xs ys : List V}, RepPs K ι X H l xs → RepPs K ι X H k ys → RepPs K ι X H (l ++ k) (xs ++ ys)
  | [], k, xs, ys, r, q => by
    rw [RepPs] at r
    rw [r]
    exact q
  | p :: l, k, xs, ys, r, q => by
    rw [RepPs] at r
    obtain ⟨y, zs, rfl, f, g⟩ := r
    rw [List.cons_append, RepPs]
    exact ⟨y, zs ++ ys, rfl, f, repPs_app g q⟩
end
def iop (g : Int → Int → D) (c : Int → Int → Bool) : Store → D → D → Option D := fun _ x y => match x, y with
  | .dat (.int i), .dat (.int j) => if c i j = true then some (g i j) else none
  | _, _ => none
def dInt (i : Int) : D := .dat (.int i)
def dBl (b : Bool) : D := .dat (.bl b)
section
variable {K : PySem.W.Frag}
theorem iop_ok {g : Int → Int → D} {c : Int → Int → Bool} {C : Int → Int → Prop} {gV : Int → Int → V} (hc : ∀ i j, c i j = true → C i j) (hg : ∀ ι X H i j, RepD K ι X H (g i j) (gV i j)) : R2S K (rI C gV) (iop g c) := by
  intro ι X S H x y v u d Q rel rx ry e k
  unfold iop at e
  split at e
  · rename_i i j
    split at e
    · rename_i h
      cases e
      exact ⟨i, j, rI_inv rx, rI_inv ry, hc i j h, k H _ Ext.refl rel (hg ι X H i j)⟩
    · cases e
  · cases e
def yes2 : Int → Int → Bool := fun _ _ => true
theorem iop0_ok {g : Int → Int → D} {gV : Int → Int → V} (hg : ∀ ι X H i j, RepD K ι X H (g i j) (gV i j)) : R2S K (rI0 gV) (iop g yes2) := by
  intro ι X S H x y v u d Q rel rx ry e k
  unfold iop yes2 at e
  split at e
  · rename_i i j
    rw [if_pos rfl] at e
    cases e
    exact ⟨i, j, rI_inv rx, rI_inv ry, k H _ Ext.refl rel (hg ι X H i j)⟩
  · cases e
theorem R2S.or {r1 r2 : R2} {f f1 f2 : Store → D → D → Option D} (h1 : R2S K r1 f1) (h2 : R2S K r2 f2) (hf : ∀ S x y d, f S x y = some d → f1 S x y = some d ∨ f2 S x y = some d) : R2S K (fun x y H Q => r1 x y H Q ∨ r2 x y H Q) f := by
  intro ι X S H x y v u d Q rel rx ry e k
  rcases hf S x y d e with e | e
  · exact .inl (h1 ι X S H x y v u d Q rel rx ry e k)
  · exact .inr (h2 ι X S H x y v u d Q rel rx ry e k)
def aAdd : Store → D → D → Option D := fun S x y => match x, y with
  | .dat (.int i), .dat (.int j) => some (.dat (.int (i + j)))
  | .dat (.str i), .dat (.str j) => if i.length + j.length ≤ 100000 then some (.dat (.str (i ++ j))) else none
  | .dat (.tup l), .dat (.tup k) => if l.length + k.length ≤ 100000 then some (.dat (.tup (l ++ k))) else none
  | x, y => match listP S x, listP S y with
    | some l, some k => if l.length + k.length ≤ 100000 then some (.dat (.lst (l ++ k))) else none
    | _, _ => none
def rAddM (K : PySem.W.Frag) : R2 := fun x y H Q => rI0 (fun i j => .int (i + j)) x y H Q ∨ (∃ i j, x = .str i ∧ y = .str j ∧ i.length + j.length ≤ sizeLine ∧ Q (.str (i ++ j)) H) ∨ rCatA K x y H Q ∨ rCat x y H Q
theorem op_addM {X : Cx} (h : X.K = K) : OpR X (binaryOp .Add) (rAddM K) := by
  subst h
  exact OpR.or op_add (OpR.or op_add_str (OpR.or op_catA op_cat))
theorem add_ok : R2S K (rAddM K) aAdd := by
  intro ι X S H x y v u d Q rel rx ry e k
  unfold aAdd at e
  split at e
  · cases e
    exact .inl ⟨_, _, rI_inv rx, rI_inv ry, k H _ Ext.refl rel rd_int⟩
  · split at e
    · rename_i hl
      cases e
      exact .inr (.inl ⟨_, _, rS_inv rx, rS_inv ry, small hl, k H _ Ext.refl rel rd_str⟩)
    · cases e
  · rename_i l m
    split at e
    · rename_i hl
      cases e
      obtain ⟨a, xs, rfl, f, g⟩ := rT_inv rx
      obtain ⟨b, ys, rfl, f2, g2⟩ := rT_inv ry
      refine .inr (.inr (.inl ⟨a, b, xs, ys, rfl, rfl, f.sq, f2.sq, small (by rw [repPs_len g, repPs_len g2]; exact hl), fun ex => ?_, fun ex ey => ?_, fun ex ey p hp => ?_⟩))
      · subst ex
        have : l = [] := List.length_eq_zero_iff.mp (repPs_len g).symm
        subst this
        exact k H _ Ext.refl rel ry
      · subst ey
        have : m = [] := List.length_eq_zero_iff.mp (repPs_len g2).symm
        subst this
        rw [List.append_nil] at k
        exact k H _ Ext.refl rel rx
      · exact new_tup rel (repPs_app g g2) hp k
    · cases e
  · split at e
    · rename_i l m e1 e2
      split at e
      · rename_i hl
        cases e
        obtain ⟨a, xs, rfl, f, g⟩ := listP_rep rel e1 rx
        obtain ⟨b, ys, rfl, f2, g2⟩ := listP_rep rel e2 ry
        exact .inr (.inr (.inr ⟨a, b, xs, ys, rfl, rfl, f, f2, small (by rw [repPs_len g, repPs_len g2]; exact hl), fun p hp => new_lst rel (repPs_app g g2) hp k⟩))
      · cases e
    · cases e
def aSub := iop (fun i j => dInt (i - j)) yes2
theorem sub_ok : R2S K (rI0 fun i j => .int (i - j)) aSub := iop0_ok fun _ _ _ _ _ => rd_int
def CMulM (i j : Int) : Prop := CMul i j ∨ CMulW i j
def cMul (i j : Int) : Bool := decide (i.natAbs < 2 ^ 64) || decide (j.natAbs < 2 ^ 64) || decide (i.natAbs.log2 + j.natAbs.log2 < 1000000)
theorem cMul_ok {i j : Int} (h : cMul i j = true) : CMulM i j := by
  unfold cMul at h
  rw [Bool.or_eq_true, Bool.or_eq_true] at h
  rcases h with (h | h) | h
  · exact .inl (.inl (by have := of_decide_eq_true h; omega))
  · exact .inl (.inr (by have := of_decide_eq_true h; omega))
  · exact .inr (show i.natAbs.log2 + j.natAbs.log2 < 1000000 from of_decide_eq_true h)
theorem op_mulMM {X : Cx} : OpR X (binaryOp .Mult) (rI CMulM fun i j => .int (i * j)) := opI fun _ _ _ _ _ _ _ hc q => mul_int q (hc.elim (fun h => h.ok) fun h => h.ok)
def rMulM (K : PySem.W.Frag) : R2 := fun x y H Q => rI CMulM (fun i j => .int (i * j)) x y H Q ∨ rRep x y H Q ∨ rRepT K x y H Q
theorem op_mulM {X : Cx} (h : X.K = K) : OpR X (binaryOp .Mult) (rMulM K) := by
  subst h
  exact OpR.or op_mulMM (OpR.or op_rep op_repT)
def repP (n : Nat) (l : List P) : List P := (List.replicate n l).flatten
theorem repP_rep {ι X : List Addr} {H : Hp} {l : List P} {xs : List V} (r : RepPs K ι X H l xs) : ∀ n, RepPs K ι X H (repP n l) (List.replicate n xs).flatten
  | 0 => by
    show RepPs K ι X H [] []
    rw [RepPs]
  | n + 1 => by
    unfold repP
    rw [List.replicate_succ, List.flatten_cons, List.replicate_succ, List.flatten_cons]
    exact repPs_app r (repP_rep r n)
def aMul : Store → D → D → Option D := fun S x y => match x, y with
  | .dat (.int i), .dat (.int j) => if cMul i j = true then some (.dat (.int (i * j))) else none
  | .dat (.tup l), .dat (.int j) => if l ≠ [] ∧ 2 ≤ j ∧ j ≤ 1000 ∧ l.length ≤ 1000 then some (.dat (.tup (repP j.toNat l))) else none
  | x, .dat (.int j) => match listP S x with
    | some l => if j ≤ 1000000 ∧ 0 ≤ j ∧ l.length * j.toNat ≤ 100000 then some (.dat (.lst (repP j.toNat l))) else none
    | none => none
  | _, _ => none
theorem mul_ok : R2S K (rMulM K) aMul := by
  intro ι X S H x y v u d Q rel rx ry e k
  unfold aMul at e
  split at e
  · split at e
    · rename_i h
      cases e
      exact .inl ⟨_, _, rI_inv rx, rI_inv ry, cMul_ok h, k H _ Ext.refl rel rd_int⟩
    · cases e
  · split at e
    · rename_i h
      cases e
      obtain ⟨a, xs, rfl, f, g⟩ := rT_inv rx
      refine .inr (.inr ⟨a, _, xs, rfl, rI_inv ry, f.sq, fun z => h.1 ?_, h.2.1, h.2.2.1, by rw [repPs_len g]; exact h.2.2.2, fun p hp => new_tup rel (repP_rep g _) hp k⟩)
      subst z
      exact List.length_eq_zero_iff.mp (repPs_len g).symm
    · cases e
  · split at e
    · rename_i l e1
      split at e
      · rename_i h
        cases e
        obtain ⟨a, xs, rfl, f, g⟩ := listP_rep rel e1 rx
        exact .inr (.inl ⟨a, _, xs, rfl, rI_inv ry, f, by omega, by omega, small (by rw [repPs_len g]; exact h.2.2), fun p hp => new_lst rel (repP_rep g _) hp k⟩)
      · cases e
    · cases e
  · cases e
def aMod := iop (fun i j => dInt (i % j)) fun _ j => decide (0 < j)
theorem mod_ok : R2S K (rI (fun _ j => 0 < j) fun i j => .int (i % j)) aMod := iop_ok (fun _ _ h => of_decide_eq_true h) fun _ _ _ _ _ => rd_int
def aDiv := iop (fun i j => dInt (i / j)) fun _ j => decide (0 < j) && decide (j.natAbs.log2 < 9000)
theorem div_ok : R2S K (rI CDivW fun i j => .int (i / j)) aDiv := iop_ok (fun _ _ h => by
  rw [Bool.and_eq_true] at h
  exact ⟨of_decide_eq_true h.1, of_decide_eq_true h.2⟩) fun _ _ _ _ _ => rd_int
def aPow := iop (fun i j => dInt (i ^ j.toNat)) fun i j => decide (0 ≤ j) && decide (j ≤ 1000000) && decide (i.natAbs < 2 ^ 64)
theorem pow_ok : R2S K (rI CPow fun i j => .int (i ^ j.toNat)) aPow := iop_ok (fun _ _ h => by
  rw [Bool.and_eq_true, Bool.and_eq_true] at h
  exact ⟨of_decide_eq_true h.1.1, of_decide_eq_true h.1.2, of_decide_eq_true h.2⟩) fun _ _ _ _ _ => rd_int
def aLt := iop (fun i j => dBl (decide (i < j))) yes2
def aLe := iop (fun i j => dBl (decide (i ≤ j))) yes2
def aGt := iop (fun i j => dBl (decide (j < i))) yes2
def aGe := iop (fun i j => dBl (decide (j ≤ i))) yes2
theorem lt_ok : R2S K (rI0 fun i j => .bl (decide (i < j))) aLt := iop0_ok fun _ _ _ _ _ => rd_bl
theorem le_ok : R2S K (rI0 fun i j => .bl (decide (i ≤ j))) aLe := iop0_ok fun _ _ _ _ _ => rd_bl
theorem gt_ok : R2S K (rI0 fun i j => .bl (decide (j < i))) aGt := iop0_ok fun _ _ _ _ _ => rd_bl
theorem ge_ok : R2S K (rI0 fun i j => .bl (decide (j ≤ i))) aGe := iop0_ok fun _ _ _ _ _ => rd_bl
def aNeg : Store → D → Option D := fun _ x => match x with
  | .dat (.int i) => some (.dat (.int (-i)))
  | _ => none
theorem neg_ok : R1S K (rU fun i => .int (-i)) aNeg := by
  intro ι X S H x v d Q rel rx e k
  unfold aNeg at e
  split at e
  · cases e
    exact ⟨_, rI_inv rx, k H _ Ext.refl rel rd_int⟩
  · cases e
end
end M3
namespace M3
open PySem PySem.Spec PyProof.Rows L2
variable [TabsP]
mutual
def toPy : P → PyData
  | .non => .none
  | .bl b => .bool b
  | .int i => .int i
  | .str s => .str s
  | .tup l => .tuple (toPys l)
  | .lst l => .list (toPys l)
  | _ => .none
def toPys : List P → List PyData
  | [] => []
  | p :: ps => toPy p :: toPys ps
end
mutual
def okD : Nat → P → Bool
  | 0, _ => false
  | _ + 1, .non => true
  | _ + 1, .bl _ => true
  | _ + 1, .int _ => true
  | _ + 1, .str s => PyData.strOk s
  | n + 1, .tup l => okDs n l
  | n + 1, .lst l => okDs n l
  | _ + 1, .dic _ => false
  | _ + 1, .ins _ _ => false
  | _ + 1, .con _ => false
  | _ + 1, .scr _ => false
def okDs : Nat → List P → Bool
  | _, [] => true
  | n, p :: ps => okD n p && okDs n ps
end
def eqP (p q : P) : Bool := PyData.eqv (toPy p) (toPy q)
mutual
theorem okD_lay : ∀ (n : Nat) (p : P), okD n p = true → (toPy p).canLay0 = true ∧ (toPy p).depth ≤ n
  | 0, _, h => by rw [okD] at h; cases h
  | n + 1, .non, _ => ⟨rfl, by rw [toPy, PyData.depth]; first | exact Nat.zero_le _ | omega⟩
  | n + 1, .bl _, _ => ⟨rfl, by rw [toPy, PyData.depth]; first | exact Nat.zero_le _ | omega⟩
  | n + 1, .int _, _ => ⟨rfl, by rw [toPy, PyData.depth]; first | exact Nat.zero_le _ | omega⟩
  | n + 1, .str _, h => ⟨by rw [okD] at h; exact h, by rw [toPy, PyData.depth]; first | exact Nat.zero_le _ | omega⟩
  | n + 1, .tup l, h => by
    rw [okD] at h
    obtain ⟨a, b⟩ := okDs_lay n l h
    rw [toPy]
    exact ⟨a, Nat.succ_le_succ b⟩
  | n + 1, .lst l, h => by
    rw [okD] at h
    obtain ⟨a, b⟩ := okDs_lay n l h
    rw [toPy]
    exact ⟨a, Nat.succ_le_succ b⟩
  | n + 1, .dic _, h => by rw [okD] at h; first | cases h | (intro; contradiction)
  | n + 1, .ins _ _, h => by rw [okD] at h; first | cases h | (intro; contradiction)
  | n + 1, .con _, h => by rw [okD] at h; first | cases h | (intro; contradiction)
  | n + 1, .scr _, h => by rw [okD] at h; first | cases h | (intro; contradiction)
theorem okDs_lay : ∀ (n : Nat) (p : List P), okDs n p = true → PyData.canLayAll0 (toPys p) = true ∧ PyData.depthAll (toPys p) ≤ n
  | n, [], _ => ⟨rfl, Nat.zero_le _⟩
  | n, p :: ps, h => by
    rw [okDs, Bool.and_eq_true] at h
    obtain ⟨a, b⟩ := okD_lay n p h.1
    obtain ⟨c, d⟩ := okDs_lay n ps h.2
    rw [toPys]
    exact ⟨Bool.and_eq_true_iff.mpr ⟨a, c⟩, Nat.max_le.mpr ⟨b, d⟩⟩
end
mutual
theorem okD_dp {K : PySem.W.Frag} {ι X : List Addr} {H : Hp} : ∀ (n : Nat) (p : P) (v : V), okD n p = true → RepP K ι X H p v → Dp K H v (toPy p)
  | 0, _, _, h, _ => by rw [okD] at h; cases h
  | n + 1, .non, _, _, r => by rw [RepP] at r; rw [r, toPy]; exact .non
  | n + 1, .bl _, _, _, r => by rw [RepP] at r; rw [r, toPy]; exact .bl _
  | n + 1, .int _, _, _, r => by rw [RepP] at r; rw [r, toPy]; exact .int _
  | n + 1, .str _, _, _, r => by rw [RepP] at r; rw [r, toPy]; exact .str _
  | n + 1, .tup l, v, h, r => by
    rw [okD] at h
    rw [RepP] at r
    obtain ⟨a, xs, e, f, g⟩ := r
    rw [e, toPy]
    exact .tup f.sq (okDs_dp n l xs h g)
  | n + 1, .lst l, v, h, r => by
    rw [okD] at h
    rw [RepP] at r
    obtain ⟨a, xs, e, _, _, f, g⟩ := r
    rw [e, toPy]
    exact .lst (SqL.of f) (okDs_dp n l xs h g)
  | n + 1, .dic _, _, h, _ => by rw [okD] at h; first | cases h | (intro; contradiction)
  | n + 1, .ins _ _, _, h, _ => by rw [okD] at h; first | cases h | (intro; contradiction)
  | n + 1, .con _, _, h, _ => by rw [okD] at h; first | cases h | (intro; contradiction)
  | n + 1, .scr _, _, h, _ => by rw [okD] at h; first | cases h | (intro; contradiction)
theorem okDs_dp {K : PySem.W.Frag} {ι X : List Addr} {H : Hp} : ∀ (n : Nat) (p : List P) (v : List V), okDs n p = true → RepPs K ι X H p v → DpAll K H v (toPys p)
  | n, [], v, _, r => by
    rw [RepPs] at r
    rw [r, toPys]
    exact .nil
  | n, p :: ps, v, h, r => by
    rw [okDs, Bool.and_eq_true] at h
    rw [RepPs] at r
    obtain ⟨y, ys, e, f, g⟩ := r
    rw [e, toPys]
    exact .cons (okD_dp n p y h.1 f) (okDs_dp n ps ys h.2 g)
end
/-- data, a list of data among the objects too -/
def datOf (S : Store) : D → Option P
  | .dat p => some p
  | .obj i => match S[i]? with
    | some (.lst l) => (datAll l).map .lst
    | _ => none
def eqD (S : Store) (x y : D) : Option Bool := match x, y with
  | .dat (.int i), .dat (.int j) => some (decide (i = j))
  | .dat (.str i), .dat (.str j) => some (decide (i = j))
  | .dat (.bl i), .dat (.bl j) => some (decide (i = j))
  | .dat .non, .dat .non => some true
  | .dat .non, .dat (.int _) => some false
  | .dat (.int _), .dat .non => some false
  | x, y => match datOf S x, datOf S y with
    | some p, some q => if okD 60 p = true ∧ okD 60 q = true then some (eqP p q) else none
    | _, _ => none
def aEq : Store → D → D → Option D := fun S x y => (eqD S x y).map dBl
def aNe : Store → D → D → Option D := fun S x y => (eqD S x y).map fun b => dBl (!b)
def rEqM (K : PySem.W.Frag) : R2 := fun x y H Q => rEq x y H Q ∨ rEqD K x y H Q
def rNeM (K : PySem.W.Frag) : R2 := fun x y H Q => rNe x y H Q ∨ rNeD K x y H Q
section
variable {K : PySem.W.Frag} {ι X : List Addr} {S : Store} {H : Hp}
theorem op_eqM {X : Cx} (h : X.K = K) (hu : X.A.units + 64 < cLine) : OpR X (compareOp .Eq) (rEqM K) := by
  subst h
  exact OpR.or op_eq (op_eqD hu)
theorem op_neM {X : Cx} (h : X.K = K) (hu : X.A.units + 64 < cLine) : OpR X (compareOp .NotEq) (rNeM K) := by
  subst h
  exact OpR.or op_ne (op_neD hu)
theorem datOf_dp {x : D} {p : P} {v : V} {n : Nat} (rel : Rel K ι X S H) (e : datOf S x = some p) (o : okD n p = true) (r : RepD K ι X H x v) : Dp K H v (toPy p) := by
  cases x with
  | dat q =>
    cases e
    exact okD_dp n _ v o r
  | obj i =>
    obtain ⟨a, ea, rfl⟩ := r
    unfold datOf at e
    simp only at e
    cases es : S[i]? with
    | none => rw [es] at e; cases e
    | some ob =>
      rw [es] at e
      cases ob with
      | ins C l => cases e
      | dic l => cases e
      | tup l => cases e
      | lst l =>
        cases q : datAll l with
        | none => simp only [q] at e; cases e
        | some ps =>
          simp only [q, Option.map_some] at e
          cases e
          obtain ⟨xs, f, g⟩ := rel.at_ i _ a es ea
          cases n with
          | zero => rw [okD] at o; cases o
          | succ n =>
            rw [okD] at o
            rw [toPy]
            exact .lst (SqL.of f) (okDs_dp n ps xs o (datAll_rep q g))
theorem eqD_cases {x y : D} {v u : V} {b : Bool} (rel : Rel K ι X S H) (rx : RepD K ι X H x v) (ry : RepD K ι X H y u) (e : eqD S x y = some b) :
    (scal v u = true ∧ decide (v = u) = b) ∨ ∃ d f, Dp K H v d ∧ Dp K H u f ∧ SeqAt.shaped d = true ∧ SeqAt.shaped f = true ∧ PyData.eqv d f = b := by
  unfold eqD at e
  split at e
  · cases e
    rw [rI_inv rx, rI_inv ry]
    exact .inl ⟨rfl, by simp⟩
  · cases e
    rw [rS_inv rx, rS_inv ry]
    exact .inl ⟨rfl, by simp⟩
  · cases e
    rw [rB_inv rx, rB_inv ry]
    exact .inl ⟨rfl, by simp⟩
  · cases e
    rw [rN_inv rx, rN_inv ry]
    exact .inl ⟨rfl, by simp⟩
  · cases e
    rw [rN_inv rx, rI_inv ry]
    exact .inl ⟨rfl, by simp⟩
  · cases e
    rw [rI_inv rx, rN_inv ry]
    exact .inl ⟨rfl, by simp⟩
  · split at e
    · rename_i p q e1 e2
      split at e
      · rename_i h
        cases e
        obtain ⟨l1, d1⟩ := okD_lay 60 p h.1
        obtain ⟨l2, d2⟩ := okD_lay 60 q h.2
        refine .inr ⟨_, _, datOf_dp rel e1 h.1 rx, datOf_dp rel e2 h.2 ry, ?_, ?_, rfl⟩
        · exact Bool.and_eq_true_iff.mpr ⟨l1, decide_eq_true (by omega)⟩
        · exact Bool.and_eq_true_iff.mpr ⟨l2, decide_eq_true (by omega)⟩
      · cases e
    · cases e
end
section
variable {K : PySem.W.Frag}
theorem eq_ok : R2S K (rEqM K) aEq := by
  intro ι X S H x y v u d Q rel rx ry e k
  unfold aEq at e
  cases q : eqD S x y with
  | none => rw [q] at e; cases e
  | some b =>
    rw [q] at e
    cases e
    rcases eqD_cases rel rx ry q with ⟨h1, h2⟩ | ⟨d, f, h1, h2, h3, h4, h5⟩
    · exact .inl ⟨h1, by rw [h2]; exact k H _ Ext.refl rel rd_bl⟩
    · exact .inr ⟨d, f, h1, h2, h3, h4, by rw [h5]; exact k H _ Ext.refl rel rd_bl⟩
theorem ne_ok : R2S K (rNeM K) aNe := by
  intro ι X S H x y v u d Q rel rx ry e k
  unfold aNe at e
  cases q : eqD S x y with
  | none => rw [q] at e; cases e
  | some b =>
    rw [q] at e
    cases e
    rcases eqD_cases rel rx ry q with ⟨h1, h2⟩ | ⟨d, f, h1, h2, h3, h4, h5⟩
    · exact .inl ⟨h1, by rw [h2]; exact k H _ Ext.refl rel rd_bl⟩
    · exact .inr ⟨d, f, h1, h2, h3, h4, by rw [h5]; exact k H _ Ext.refl rel rd_bl⟩
def isN : D → Option Bool
  | .dat .non => some true
  | .dat (.con v) => some (decide (v = .non))
  | _ => some false
def aIsN : Store → D → D → Option D := fun _ x y => match y with
  | .dat .non => (isN x).map dBl
  | _ => none
def aNotN : Store → D → D → Option D := fun _ x y => match y with
  | .dat .non => (isN x).map fun b => dBl (!b)
  | _ => none
theorem isN_ok {ι X : List Addr} {H : Hp} {x : D} {v : V} {b : Bool} (r : RepD K ι X H x v) (e : isN x = some b) : decide (v = .non) = b := by
  cases x with
  | obj i =>
    obtain ⟨a, _, rfl⟩ := r
    cases e
    rfl
  | dat p =>
    have r : RepP K ι X H p v := r
    cases p <;> rw [RepP] at r
    · cases e; rw [r]; rfl
    · cases e; rw [r]; rfl
    · cases e; rw [r]; rfl
    · cases e; rw [r]; rfl
    · cases e; obtain ⟨a, xs, rfl, _⟩ := r; rfl
    · cases e; obtain ⟨a, xs, rfl, _⟩ := r; rfl
    · cases e; obtain ⟨a, xs, rfl, _⟩ := r; rfl
    · cases e; obtain ⟨a, dx, xs, rfl, _⟩ := r; rfl
    · cases e; rw [r]
    · cases e; obtain ⟨a, rfl, _⟩ := r; rfl
theorem isN_okR : R2S K (fun x y H Q => y = .non ∧ Q (.bl (decide (x = .non))) H) aIsN := by
  intro ι X S H x y v u d Q rel rx ry e k
  unfold aIsN at e
  split at e
  · cases q : isN x with
    | none => rw [q] at e; cases e
    | some b =>
      rw [q] at e
      cases e
      refine ⟨rN_inv ry, ?_⟩
      rw [isN_ok rx q]
      exact k H _ Ext.refl rel rd_bl
  · cases e
theorem notN_okR : R2S K (fun x y H Q => y = .non ∧ Q (.bl (!decide (x = .non))) H) aNotN := by
  intro ι X S H x y v u d Q rel rx ry e k
  unfold aNotN at e
  split at e
  · cases q : isN x with
    | none => rw [q] at e; cases e
    | some b =>
      rw [q] at e
      cases e
      refine ⟨rN_inv ry, ?_⟩
      rw [isN_ok rx q]
      exact k H _ Ext.refl rel rd_bl
  · cases e
def flatP : P → Bool
  | .non => true
  | .bl _ => true
  | .int _ => true
  | .str _ => true
  | _ => false
/-- == of flat things -/
def eqF : P → P → Bool
  | .non, .non => true
  | .bl a, .bl b => a == b
  | .bl a, .int b => (if a then 1 else 0) == b
  | .int a, .bl b => a == (if b then 1 else 0)
  | .int a, .int b => a == b
  | .str a, .str b => a == b
  | _, _ => false
theorem flat_rep {ι X : List Addr} {H : Hp} {p : P} {v : V} (e : flatP p = true) (r : RepP K ι X H p v) : flatV v = true := by
  cases p <;> first | (rw [RepP] at r; rw [r]; rfl) | cases e
theorem eqF_rep {ι X : List Addr} {H : Hp} {p q : P} {v u : V} (e : flatP p = true) (f : flatP q = true) (r : RepP K ι X H p v) (s : RepP K ι X H q u) : eqV v u = eqF p q := by
  cases p <;> first | exact (Bool.false_ne_true e).elim | skip
  all_goals cases q <;> first | exact (Bool.false_ne_true f).elim | (rw [RepP] at r; rw [RepP] at s; rw [r, s]; rfl)
theorem flats_rep {ι X : List Addr} {H : Hp} : ∀ {ps : List P} {vs : List V}, ps.all flatP = true → RepPs K ι X H ps vs → vs.all flatV = true
  | [], vs, _, r => by rw [RepPs] at r; rw [r]; rfl
  | p :: ps, vs, e, r => by
    rw [RepPs] at r
    obtain ⟨y, ys, rfl, f, g⟩ := r
    rw [List.all_cons, Bool.and_eq_true] at e ⊢
    exact ⟨flat_rep e.1 f, flats_rep e.2 g⟩
def inP (x : P) (l : List P) : Bool := l.any fun y => eqF y x
theorem inP_rep {ι X : List Addr} {H : Hp} {x : P} {v : V} (ex : flatP x = true) (rx : RepP K ι X H x v) : ∀ {ps : List P} {vs : List V}, ps.all flatP = true → RepPs K ι X H ps vs → inV v vs = inP x ps
  | [], vs, _, r => by rw [RepPs] at r; rw [r]; rfl
  | p :: ps, vs, e, r => by
    rw [RepPs] at r
    obtain ⟨y, ys, rfl, f, g⟩ := r
    rw [List.all_cons, Bool.and_eq_true] at e
    have ih := inP_rep ex rx e.2 g
    unfold inV inP at ih ⊢
    rw [List.any_cons, List.any_cons, ih, eqF_rep e.1 ex f rx]
/-- a text of one sign -/
def oneSign (s : Str) : Option Nat := match s.cps.toList with
  | [c] => some c
  | _ => none
theorem oneSign_eq {s : Str} {c : Nat} (e : oneSign s = some c) : s = ⟨#[c]⟩ := by
  unfold oneSign at e
  split at e
  · rename_i q
    cases e
    obtain ⟨⟨l⟩⟩ := s
    have : l = [c] := q
    rw [this]
  · cases e
def inD (S : Store) (x y : D) : Option Bool := match x, y with
  | .dat (.str s), .dat (.str z) => (oneSign s).map fun c => decide (c ∈ z.cps.toList)
  | .dat p, y => match seqP S y with
    | some l => if flatP p = true ∧ l.all flatP = true then some (inP p l) else none
    | none => none
  | _, _ => none
def aIn : Store → D → D → Option D := fun S x y => (inD S x y).map dBl
def aNotIn : Store → D → D → Option D := fun S x y => (inD S x y).map fun b => dBl (!b)
def rInM (K : PySem.W.Frag) : R2 := fun x y H Q => rIn K false x y H Q ∨ (∃ (c : Nat) (z : Str), x = .str ⟨#[c]⟩ ∧ y = .str z ∧ Q (.bl (decide (c ∈ z.cps.toList))) H)
def rNotInM (K : PySem.W.Frag) : R2 := fun x y H Q => rIn K true x y H Q ∨ (∃ (c : Nat) (z : Str), x = .str ⟨#[c]⟩ ∧ y = .str z ∧ Q (.bl (!decide (c ∈ z.cps.toList))) H)
theorem op_inM {X : Cx} (h : X.K = K) : OpR X (compareOp .In) (rInM K) := by
  subst h
  exact OpR.or op_in_seq op_in_sign
theorem op_notInM {X : Cx} (h : X.K = K) : OpR X (compareOp .NotIn) (rNotInM K) := by
  subst h
  exact OpR.or op_notIn_seq op_notIn_sign
theorem in_cases {ι X : List Addr} {S : Store} {H : Hp} {x y : D} {v u : V} {b : Bool} (rel : Rel K ι X S H) (rx : RepD K ι X H x v) (ry : RepD K ι X H y u) (e : inD S x y = some b) :
    (∃ p xs, u = .ref p ∧ (SqL K H p xs ∨ SqT K H p xs) ∧ flatV v = true ∧ xs.all flatV = true ∧ inV v xs = b) ∨ ∃ (c : Nat) (z : Str), v = .str ⟨#[c]⟩ ∧ u = .str z ∧ decide (c ∈ z.cps.toList) = b := by
  unfold inD at e
  split at e
  · rename_i s z
    cases q : oneSign s with
    | none => rw [q] at e; cases e
    | some c =>
      rw [q] at e
      cases e
      exact .inr ⟨c, _, by rw [rS_inv rx, oneSign_eq q], rS_inv ry, rfl⟩
  · split at e
    · rename_i l e1
      split at e
      · rename_i h
        cases e
        obtain ⟨a, xs, rfl, f, g⟩ := seqP_rep rel e1 ry
        exact .inl ⟨a, xs, rfl, f, flat_rep h.1 rx, flats_rep h.2 g, inP_rep h.1 rx h.2 g⟩
      · cases e
    · cases e
  · cases e
theorem in_ok : R2S K (rInM K) aIn := by
  intro ι X S H x y v u d Q rel rx ry e k
  unfold aIn at e
  cases q : inD S x y with
  | none => rw [q] at e; cases e
  | some b =>
    rw [q] at e
    cases e
    rcases in_cases rel rx ry q with ⟨p, xs, h1, h2, h3, h4, h5⟩ | ⟨c, z, h1, h2, h3⟩
    · refine .inl ⟨p, xs, h1, h2, h3, h4, ?_⟩
      rw [if_neg Bool.false_ne_true, h5]
      exact k H _ Ext.refl rel rd_bl
    · exact .inr ⟨c, z, h1, h2, by rw [h3]; exact k H _ Ext.refl rel rd_bl⟩
theorem notIn_ok : R2S K (rNotInM K) aNotIn := by
  intro ι X S H x y v u d Q rel rx ry e k
  unfold aNotIn at e
  cases q : inD S x y with
  | none => rw [q] at e; cases e
  | some b =>
    rw [q] at e
    cases e
    rcases in_cases rel rx ry q with ⟨p, xs, h1, h2, h3, h4, h5⟩ | ⟨c, z, h1, h2, h3⟩
    · refine .inl ⟨p, xs, h1, h2, h3, h4, ?_⟩
      rw [if_pos rfl, h5]
      exact k H _ Ext.refl rel rd_bl
    · exact .inr ⟨c, z, h1, h2, by rw [h3]; exact k H _ Ext.refl rel rd_bl⟩
end
end M3
namespace PySem
open Sem (wp)
open AutoSeq1 (wpAny_loadPart')
end PySem
namespace W2
open PySem PySem.Spec PyProof.Rows L2
theorem get_listK {X : Cx} {K : PySem.W.Frag} (h : X.K = K) : PGet X (fun x y H Q => ∃ (p : Addr) (xs : List V) (i : Nat) (v : V), x = .ref p ∧ y = .int (i : Int) ∧ SqL K H p xs ∧ xs[i]? = some v ∧ Q v H) := by
  subst h
  intro pins s σ H x y v u Q I rx ry h
  obtain ⟨p, xs, i, z, rfl, rfl, hq, he, q⟩ := h
  cases rx
  obtain ⟨t, rfl⟩ := ry
  obtain ⟨its, r, pl, hz⟩ := I.list hq
  obtain ⟨w, ew, rw'⟩ := r.get he
  have hl := (List.getElem?_eq_some_iff.mp ew).1
  have hrl := r.length
  have hn := line63
  exact wpAny_getItem_list pl.isList (by omega) (by omega) (by simpa using ew) ⟨z, H, I, rw', q⟩
end W2
namespace M3
open PySem PySem.Spec PyProof.Rows L2
variable [TabsP]
def iM (K : PySem.W.Frag) (te : TE) : TI := fun σ H R => te σ H fun x H1 => (∃ a, x = .ref a ∧ (∃ xs, SqL K H1 a xs) ∧ R (Itl K a) H1) ∨ (∃ a, x = .ref a ∧ (∃ xs, SqT K H1 a xs) ∧ R (Itt K a) H1) ∨ ∃ z, x = .str z ∧ R (Its z) H1
theorem pi_M {X : Cx} {K : PySem.W.Frag} {tg e : Expr} {te : TE} (hK : X.K = K) (he : PE X e te) : PI X tg e (iM K te) := by
  subst hK
  refine ⟨fun pins s σ H R I h => ?_⟩
  refine thn (he.run pins s σ H _ I h) fun v s1 ⟨x, H1, I1, r1, q1⟩ => ?_
  rcases q1 with ⟨a, e, ⟨xs, hq⟩, q⟩ | ⟨a, e, ⟨xs, hq⟩, q⟩ | ⟨z, e, q⟩
  · subst e
    cases r1
    obtain ⟨its, rv, p, hz⟩ := I1.list hq
    refine wpAny_pyIter_list p.isList ?_
    refine ⟨s1.heap.objs.size, [s1.heap.objs.size], _, _, H1, rfl, I1.kept (t' := s1.toks) fun b o e => Heap.get?_push_of_some _ e, turn_list a _, ⟨_, Heap.get?_push_size _ rfl, rfl, rfl⟩, fun b hb => ?_, q⟩
    have e : b = s1.heap.objs.size := by simpa using hb
    subst e
    exact I1.fpOk (Nat.le_refl _) (I1.hok.fresh (Nat.le_refl _))
  · subst e
    cases r1
    obtain ⟨its, rv, p, hz⟩ := I1.tuple hq
    refine wpAny_pyIter_tuple (show s1.heap.IsTuple a its.toArray from p) ?_
    refine ⟨s1.heap.objs.size, [s1.heap.objs.size], _, _, H1, rfl, I1.kept (t' := s1.toks) fun b o e => Heap.get?_push_of_some _ e, turn_tuple a _, ⟨_, Heap.get?_push_size _ rfl, rfl, rfl⟩, fun b hb => ?_, q⟩
    have e : b = s1.heap.objs.size := by simpa using hb
    subst e
    exact I1.fpOk (Nat.le_refl _) (I1.hok.fresh (Nat.le_refl _))
  · subst e
    obtain ⟨t, rfl⟩ := r1
    cases ha : z.cps.all (· < 128)
    · exact wpAny_pyIter_wide ha (pi_one (tk := s1.toks) I1 _ (turn_str _ z t "str_iterator" (.inr rfl)) ⟨_, Heap.get?_push_size _ rfl, rfl, rfl⟩ q)
    · exact wpAny_pyIter_ascii ha (pi_one (tk := s1.toks) I1 _ (turn_str _ z t "str_ascii_iterator" (.inl rfl)) ⟨_, Heap.get?_push_size _ rfl, rfl, rfl⟩ q)
/-- the signs of a text -/
def signs (z : Str) : List P := z.cps.toList.map fun c => .str ⟨#[c]⟩
def wkOf (S : Store) : D → Option Wk
  | .obj i => match S[i]? with
    | some (.lst _) => some (.ob i)
    | _ => none
  | .dat (.tup l) => some (.items (l.map .dat))
  | .dat (.lst l) => some (.items (l.map .dat))
  | .dat (.scr l) => some (.items (l.map fun i => .dat (.int i)))
  | .dat (.str z) => some (.items ((signs z).map .dat))
  | _ => none
def mWalk (a : DE) : DI := fun δ S => (a δ S).bind fun d S1 => oR (wkOf S1 d) S1
section
variable {K : PySem.W.Frag} {W : L2.St → WK}
theorem repPs_at {ι X : List Addr} {H : Hp} : ∀ {l : List P} {xs : List V} {i : Nat} {p : P}, RepPs K ι X H l xs → l[i]? = some p → ∃ x, xs[i]? = some x ∧ RepP K ι X H p x := by
  intro l xs i p r e
  obtain ⟨x, ex, rx⟩ := repDs_at (repDs_dat r) (d := .dat p) (i := i) (by rw [List.getElem?_map, e]; rfl)
  exact ⟨x, ex, rx⟩
theorem itOk_lst {ι X : List Addr} {H : Hp} {a : Addr} {xs : List V} {l : List D} (h : ∀ ι' X' H', Out1 ι X H ι' X' H' → H' a = some (.lst xs) ∧ RepDs K ι' X' H' l xs) : ItOk K (Itl K a) l ι X H := by
  intro ι' X' H' x
  obtain ⟨e, r⟩ := h ι' X' H' x
  have hl := repDs_len r
  refine ⟨fun i hi => ?_, ⟨xs, SqL.of e, by omega⟩, fun i x H'' d S y ed rel => ?_⟩
  · obtain ⟨v, ev, _⟩ := repDs_at r (List.getElem?_eq_getElem hi)
    exact ⟨xs, v, SqL.of e, ev⟩
  · obtain ⟨rfl, y⟩ := y
    obtain ⟨v, ev, rv⟩ := repDs_at r ed
    have := y xs (SqL.of e)
    rw [ev] at this
    cases this
    exact ⟨rel, Ext.refl, rv⟩
theorem itOk_sqL {ι X : List Addr} {H : Hp} {a : Addr} {xs : List V} {l : List D} (h : ∀ ι' X' H', Out1 ι X H ι' X' H' → SqL K H' a xs ∧ RepDs K ι' X' H' l xs) : ItOk K (Itl K a) l ι X H := by
  intro ι' X' H' x
  obtain ⟨e, r⟩ := h ι' X' H' x
  have hl := repDs_len r
  refine ⟨fun i hi => ?_, ⟨xs, e, by omega⟩, fun i x H'' d S y ed rel => ?_⟩
  · obtain ⟨v, ev, _⟩ := repDs_at r (List.getElem?_eq_getElem hi)
    exact ⟨xs, v, e, ev⟩
  · obtain ⟨rfl, y⟩ := y
    obtain ⟨v, ev, rv⟩ := repDs_at r ed
    have := y xs e
    rw [ev] at this
    cases this
    exact ⟨rel, Ext.refl, rv⟩
theorem itOk_tup {ι X : List Addr} {H : Hp} {a : Addr} {xs : List V} {l : List D} (h : ∀ ι' X' H', Out1 ι X H ι' X' H' → SqT K H' a xs ∧ RepDs K ι' X' H' l xs) : ItOk K (Itt K a) l ι X H := by
  intro ι' X' H' x
  obtain ⟨e, r⟩ := h ι' X' H' x
  have hl := repDs_len r
  refine ⟨fun i hi => ?_, ⟨xs, e, by omega⟩, fun i x H'' d S y ed rel => ?_⟩
  · obtain ⟨v, ev, _⟩ := repDs_at r (List.getElem?_eq_getElem hi)
    exact ⟨xs, v, e, ev⟩
  · obtain ⟨rfl, y⟩ := y
    obtain ⟨v, ev, rv⟩ := repDs_at r ed
    have := y xs e
    rw [ev] at this
    cases this
    exact ⟨rel, Ext.refl, rv⟩
theorem itOk_str {ι X : List Addr} {H : Hp} {z : Str} : ItOk K (Its z) ((signs z).map .dat) ι X H := by
  intro ι' X' H' x
  have hl : ((signs z).map D.dat).length = z.cps.size := by simp [signs]
  refine ⟨fun i hi => by show i < z.cps.size; omega, by show z.cps.size ≤ _; omega, fun i x H'' d S y ed rel => ?_⟩
  obtain ⟨rfl, c, ec, rfl⟩ := y
  refine ⟨rel, Ext.refl, ?_⟩
  unfold signs at ed
  rw [List.getElem?_map, List.getElem?_map, Array.getElem?_toList, ec] at ed
  cases ed
  exact rd_str
theorem itOk_rng {ι X : List Addr} {H : Hp} {lo : Int} {n : Nat} : ItOk K (Itr lo n) ((List.range n).map fun (i : Nat) => .dat (.int (lo + i))) ι X H := by
  intro ι' X' H' x
  have hl : ((List.range n).map fun (i : Nat) => (D.dat (.int (lo + i)))).length = n := by simp
  refine ⟨fun i hi => by show i < n; omega, by show n ≤ _; omega, fun i x H'' d S y ed rel => ?_⟩
  obtain ⟨rfl, rfl⟩ := y
  refine ⟨rel, Ext.refl, ?_⟩
  rw [List.getElem?_map] at ed
  cases q : (List.range n)[i]? with
  | none => rw [q] at ed; cases ed
  | some j =>
    rw [q] at ed
    cases ed
    have : j = i := by
      obtain ⟨h1, h2⟩ := List.getElem?_eq_some_iff.mp q
      rw [List.getElem_range] at h2
      exact h2.symm
    subst this
    exact rd_int
theorem si_walk {te : TE} {a : DE} (ha : SE K W te a) : SI K W (iM K te) (mWalk a) := by
  intro ι X S H σ δ Q rel re h
  refine ha ι X S H σ δ _ rel re ?_
  unfold mWalk at h
  cases e : a δ S with
  | fail => rw [e] at h; exact h
  | exc C x S1 => rw [e] at h; exact h
  | ok d S1 =>
    rw [e, R.bind_ok] at h
    intro ι1 H1 v x1 rel1 rv
    cases d with
    | obj o =>
      obtain ⟨b, eb, rfl⟩ := rv
      obtain ⟨ob, eo, ro⟩ := rel1.obj eb
      unfold wkOf at h
      simp only [eo] at h
      cases ob with
      | lst l =>
        obtain ⟨xs, f, g⟩ := ro
        exact .inl ⟨b, rfl, ⟨xs, SqL.of f⟩, h ι1 H1 b x1 rel1 eb⟩
      | ins C l => exact h.elim
      | dic l => exact h.elim
      | tup l => exact h.elim
    | dat p =>
      cases p with
      | tup l =>
        obtain ⟨b, xs, rfl, f, g⟩ := rT_inv rv
        exact .inr (.inl ⟨b, rfl, ⟨xs, f.sq⟩, h ι1 H1 _ x1 rel1 (itOk_tup fun ι' X' H' x => ⟨(f.out x.p).sq, repDs_dat (RepPs.out x.p g)⟩)⟩)
      | lst l =>
        obtain ⟨b, xs, rfl, n, m, f, g⟩ := rL_inv rv
        exact .inl ⟨b, rfl, ⟨xs, SqL.of f⟩, h ι1 H1 _ x1 rel1 (itOk_lst fun ι' X' H' x => ⟨(x.ok b _ n m f (by intro ps z; cases z)).1, repDs_dat (RepPs.out x.p g)⟩)⟩
      | scr l =>
        have rv : RepP K ι1 X H1 (.scr l) v := rv
        rw [RepP] at rv
        obtain ⟨b, rfl, f⟩ := rv
        exact .inl ⟨b, rfl, ⟨_, f.sq⟩, h ι1 H1 _ x1 rel1 (itOk_sqL fun ι' X' H' x => ⟨(f.out x.p).sq, repDs_ints l⟩)⟩
      | str z =>
        rw [rS_inv rv]
        exact .inr (.inr ⟨z, rfl, h ι1 H1 _ x1 rel1 itOk_str⟩)
      | _ => exact h.elim
/-- range -/
def rngD (lo : Int) (n : Nat) : List D := (List.range n).map fun (i : Nat) => .dat (.int (lo + i))
def mRng1 (a : DA) : DI := fun δ S => (a δ S).bind fun ds S1 => match ds with
  | [.dat (.int j)] => if -1000000000 ≤ j ∧ j ≤ 1000000000 then .ok (.items (rngD 0 j.toNat)) S1 else .fail
  | _ => .fail
theorem si_rng1 {ta : TA} {a : DA} (ha : SA K W ta a) : SI K W (iRng1 ta) (mRng1 a) := by
  intro ι X S H σ δ Q rel re h
  refine ha ι X S H σ δ _ rel re ?_
  unfold mRng1 at h
  cases e : a δ S with
  | fail => rw [e] at h; exact h
  | exc C x S1 => rw [e] at h; exact h
  | ok ds S1 =>
    rw [e, R.bind_ok] at h
    intro ι1 H1 vs x1 rel1 rv
    split at h
    · rename_i j
      split at h
      · rename_i hj
        obtain ⟨y, ys, rfl, r1, r2⟩ := rv
        rw [show ys = [] from r2, rI_inv r1]
        exact ⟨j, rfl, by omega, by omega, h ι1 H1 _ x1 rel1 itOk_rng⟩
      · exact h.elim
    · exact h.elim
theorem repPs_nth {ι X : List Addr} {H : Hp} {l : List P} {xs : List V} (r : RepPs K ι X H l xs) {i : Nat} {p : P} {x : V} (e : l[i]? = some p) (f : xs[i]? = some x) : RepP K ι X H p x := by
  obtain ⟨y, ey, ry⟩ := repPs_at r e
  rw [f] at ey
  cases ey
  exact ry
end
end M3
namespace M3
open PySem PySem.Spec PyProof.Rows L2
variable [TabsP]
section
variable {K : PySem.W.Frag} {W : L2.St → WK}
theorem repDs_atI {ι X : List Addr} {H : Hp} {l : List D} {xs : List V} {i : Int} {d : D} (r : RepDs K ι X H l xs) (e : atI l i = some d) : ∃ x, atI xs i = some x ∧ RepD K ι X H d x := by
  unfold atI at e ⊢
  rw [repDs_len r]
  cases q : ixN l.length i with
  | none => rw [q] at e; cases e
  | some j => rw [q] at e; exact repDs_at r e
theorem repPs_atI {ι X : List Addr} {H : Hp} {l : List P} {xs : List V} {i : Int} {d : P} (r : RepPs K ι X H l xs) (e : atI l i = some d) : ∃ x, atI xs i = some x ∧ RepP K ι X H d x := by
  unfold atI at e ⊢
  rw [repPs_len r]
  cases q : ixN l.length i with
  | none => rw [q] at e; cases e
  | some j => rw [q] at e; exact repPs_at r e
def rIxM (K : PySem.W.Frag) : R2 := fun x y H Q => rIxL K x y H Q ∨ rIxT K x y H Q ∨ rIxS x y H Q
theorem ix_M {X : Cx} (h : X.K = K) : IxR X (rIxM K) := by
  subst h
  exact IxR.or ix_list (IxR.or ix_tup ix_str)
def aIx : Store → D → D → Option D := fun S x y => match x, y with
  | .dat (.tup l), .dat (.int i) => (atI l i).map .dat
  | .dat (.lst l), .dat (.int i) => (atI l i).map .dat
  | .dat (.str z), .dat (.int i) => if z.length ≤ 100000 then (atI z.cps.toList i).map fun c => .dat (.str ⟨#[c]⟩) else none
  | x, .dat (.int i) => match seqD S x with
    | some l => atI l i
    | none => none
  | _, _ => none
theorem ix_ok : R2S K (rIxM K) aIx := by
  intro ι X S H x y v u d Q rel rx ry e k
  unfold aIx at e
  split at e
  · rename_i l i
    obtain ⟨a, xs, rfl, f, g⟩ := rT_inv rx
    cases q : atI l i with
    | none => rw [q] at e; cases e
    | some p =>
      rw [q] at e
      cases e
      obtain ⟨w, ew, rw1⟩ := repPs_atI g q
      exact .inr (.inl ⟨a, xs, i, w, rfl, rI_inv ry, f.sq, ew, k H _ Ext.refl rel rw1⟩)
  · rename_i l i
    obtain ⟨a, xs, rfl, n, m, f, g⟩ := rL_inv rx
    cases q : atI l i with
    | none => rw [q] at e; cases e
    | some p =>
      rw [q] at e
      cases e
      obtain ⟨w, ew, rw1⟩ := repPs_atI g q
      exact .inl ⟨a, xs, i, w, rfl, rI_inv ry, SqL.of f, ew, k H _ Ext.refl rel rw1⟩
  · rename_i z i
    split at e
    · rename_i hz
      cases q : atI z.cps.toList i with
      | none => rw [q] at e; cases e
      | some c =>
        rw [q] at e
        cases e
        exact .inr (.inr ⟨z, i, c, rS_inv rx, rI_inv ry, small hz, q, k H _ Ext.refl rel rd_str⟩)
    · cases e
  · rename_i i _ _ _
    split at e
    · rename_i l e1
      obtain ⟨a, xs, rfl, f, g⟩ := seqD_rep rel e1 rx
      obtain ⟨w, ew, rw1⟩ := repDs_atI g e
      rcases f with f | f
      · exact .inl ⟨a, xs, i, w, rfl, rI_inv ry, f, ew, k H _ Ext.refl rel rw1⟩
      · exact .inr (.inl ⟨a, xs, i, w, rfl, rI_inv ry, f, ew, k H _ Ext.refl rel rw1⟩)
    · cases e
  · cases e
abbrev DO := DEnv → Store → R (Option Int)
def moN : DO := fun _ S => .ok none S
def moS (a : DE) : DO := fun δ S => (a δ S).bind fun d S1 => match d with
  | .dat (.int i) => .ok (some i) S1
  | _ => .fail
def SO (K : PySem.W.Frag) (W : L2.St → WK) (t : TO) (m : DO) : Prop := ∀ ι X S H σ δ Q, Rel K ι X S H → RepE K ι X H δ σ → Post K X ι H (W σ) (m δ S) (fun _ _ d v => v = d) Q → t σ H Q
theorem so_none : SO K W tNoPart moN := fun ι X S H σ δ Q rel re h => h ι H none Ext.refl rel rfl
theorem so_some {t : TE} {a : DE} (ha : SE K W t a) : SO K W (tPart t) (moS a) := by
  intro ι X S H σ δ Q rel re h
  refine ha ι X S H σ δ _ rel re (Post.bind h fun ι1 H1 x S1 v x1 rel1 rv h1 => ?_)
  split at h1
  · rename_i i
    exact ⟨i, rI_inv rv, h1 ι1 H1 _ Ext.refl rel1 rfl⟩
  · exact h1.elim
def cutL {α : Type} (xs : List α) (lo hi : Option Int) : List α := (xs.drop (HT.sIx xs.length 0 lo)).take (HT.sIx xs.length xs.length hi - HT.sIx xs.length 0 lo)
theorem repDs_drop {ι X : List Addr} {H : Hp} : ∀ {l : List D} {xs : List V} (n : Nat), RepDs K ι X H l xs → RepDs K ι X H (l.drop n) (xs.drop n)
  | [], xs, n, r => by rw [show xs = [] from r, List.drop_nil, List.drop_nil]; rfl
  | _ :: _, _, 0, r => r
  | _ :: _, _, n + 1, ⟨y, ys, rfl, f, g⟩ => repDs_drop n g
theorem repDs_take {ι X : List Addr} {H : Hp} : ∀ {l : List D} {xs : List V} (n : Nat), RepDs K ι X H l xs → RepDs K ι X H (l.take n) (xs.take n)
  | [], xs, n, r => by rw [show xs = [] from r, List.take_nil, List.take_nil]; rfl
  | _ :: _, xs, 0, r => rfl
  | _ :: _, _, n + 1, ⟨y, ys, rfl, f, g⟩ => ⟨y, _, rfl, f, repDs_take n g⟩
theorem repDs_cut {ι X : List Addr} {H : Hp} {l : List D} {xs : List V} (lo hi : Option Int) (r : RepDs K ι X H l xs) : RepDs K ι X H (cutL l lo hi) (cutV xs lo hi) := by
  unfold cutL cutV
  rw [repDs_len r]
  exact repDs_take _ (repDs_drop _ r)
theorem repPs_of {ι X : List Addr} {H : Hp} {l : List P} {xs : List V} (r : RepDs K ι X H (l.map .dat) xs) : RepPs K ι X H l xs := datAll_rep (datAll_map l) r
theorem repPs_cut {ι X : List Addr} {H : Hp} {l : List P} {xs : List V} (lo hi : Option Int) (r : RepPs K ι X H l xs) : RepPs K ι X H (cutL l lo hi) (cutV xs lo hi) := by
  refine repPs_of ?_
  have := repDs_cut lo hi (repDs_dat r)
  rwa [show cutL (l.map D.dat) lo hi = (cutL l lo hi).map D.dat by unfold cutL; rw [List.length_map, ← List.map_drop, ← List.map_take]] at this
def aSl (S : Store) (x : D) (lo hi : Option Int) : Option D := match x with
  | .dat (.tup l) => some (.dat (.tup (cutL l lo hi)))
  | .dat (.str z) => if z.length ≤ 100000 then some (.dat (.str (Txt.slice z lo hi))) else none
  | .dat (.scr l) => some (.dat (.lst ((cutL l lo hi).map .int)))
  | x => (listP S x).map fun l => .dat (.lst (cutL l lo hi))
def rSlM (K : PySem.W.Frag) : V → Option Int → Option Int → Hp → VK → Prop := fun x lo hi H Q => rSlA K x lo hi H Q ∨ rSlL K x lo hi H Q ∨ C8.rSlX x lo hi H Q
theorem sl_M {X : Cx} (h : X.K = K) : SlR X (rSlM K) := by
  subst h
  exact L2.SlR.or sl_tupA (L2.SlR.or sl_list C8.sl_txt)
def mSl (a : DE) (lo hi : DO) : DE := fun δ S => (a δ S).bind fun x S1 => (lo δ S1).bind fun l S2 => (hi δ S2).bind fun h S3 => oR (aSl S3 x l h) S3
theorem cut_all {α : Type} {xs : List α} {lo hi : Option Int} (h : HT.sIx xs.length 0 lo = 0 ∧ HT.sIx xs.length xs.length hi = xs.length) : cutL xs lo hi = xs := by
  unfold cutL
  rw [h.1, h.2, List.drop_zero, Nat.sub_zero, List.take_length]
theorem repPs_ints {ι X : List Addr} {H : Hp} (l : List Int) : RepPs K ι X H (l.map .int) (l.map V.int) := by
  refine repPs_of ?_
  rw [List.map_map]
  exact repDs_ints l
theorem sl_ok {ι X : List Addr} {S : Store} {H : Hp} {x : D} {v : V} {lo hi : Option Int} {d : D} {Q : VK} (rel : Rel K ι X S H) (rx : RepD K ι X H x v) (e : aSl S x lo hi = some d)
    (k : ∀ H' w, Ext ι H ι H' → Rel K ι X S H' → RepD K ι X H' d w → Q w H') : rSlM K v lo hi H Q := by
  unfold aSl at e
  split at e
  · rename_i l
    cases e
    obtain ⟨a, xs, rfl, f, g⟩ := rT_inv rx
    have hl := repPs_len g
    refine .inl ⟨a, xs, rfl, f.sq, fun h => ?_, fun h p hp => new_tup rel (repPs_cut lo hi g) hp k⟩
    rw [cut_all (xs := l) (by rw [hl] at h; exact h)] at k
    exact k H _ Ext.refl rel rx
  · rename_i z
    split at e
    · rename_i hz
      cases e
      exact .inr (.inr ⟨z, rS_inv rx, small hz, k H _ Ext.refl rel rd_str⟩)
    · cases e
  · rename_i l
    cases e
    have rx : RepP K ι X H (.scr l) v := rx
    rw [RepP] at rx
    obtain ⟨a, rfl, f⟩ := rx
    refine .inr (.inl ⟨a, _, rfl, f.sq, fun p hp => new_lst rel ?_ hp k⟩)
    have := repPs_cut lo hi (repPs_ints (K := K) (ι := ι) (X := X) (H := H) l)
    rwa [show cutL (l.map P.int) lo hi = (cutL l lo hi).map P.int by unfold cutL; rw [List.length_map, ← List.map_drop, ← List.map_take]] at this
  · rename_i h1 h2 h3
    cases q : listP S x with
    | none => rw [q] at e; cases e
    | some l =>
      rw [q] at e
      cases e
      obtain ⟨a, xs, rfl, f, g⟩ := listP_rep rel q rx
      exact .inr (.inl ⟨a, xs, rfl, SqL.of f, fun p hp => new_lst rel (repPs_cut lo hi g) hp k⟩)
theorem se_sl {te : TE} {tl th : TO} {a : DE} {lo hi : DO} (ha : SE K W te a) (hl : SO K W tl lo) (hh : SO K W th hi) : SE K W (tSl (rSlM K) te tl th) (mSl a lo hi) := by
  intro ι X S H σ δ Q rel re h
  refine ha ι X S H σ δ _ rel re (Post.bind h fun ι1 H1 x S1 v x1 rel1 rv h1 => ?_)
  refine hl ι1 X S1 H1 σ δ _ rel1 (re.ext x1) (Post.bind h1 fun ι2 H2 l S2 l' x2 rel2 rl h2 => ?_)
  subst rl
  refine hh ι2 X S2 H2 σ δ _ rel2 ((re.ext x1).ext x2) (Post.bind h2 fun ι3 H3 l S3 l' x3 rel3 rl h3 => ?_)
  subst rl
  obtain ⟨d, e, k⟩ := post_oR h3
  exact sl_ok rel3 ((rv.ext x2).ext x3) e k
def aLen : Store → List D → Option D := fun S ds => match ds with
  | [.dat (.str z)] => if z.length ≤ 100000 then some (dInt z.length) else none
  | [.dat (.dic l)] => some (dInt l.length)
  | [d] => (seqD S d).map fun l => dInt l.length
  | _ => none
def rLenM (K : PySem.W.Frag) : List V → Hp → VK → Prop := fun xs H Q => (∃ p ys, xs = [.ref p] ∧ (SqL K H p ys ∨ SqT K H p ys) ∧ Q (.int ys.length) H) ∨ (∃ z, xs = [.str z] ∧ z.length ≤ sizeLine ∧ Q (.int z.length) H) ∨ ∃ a kvs, xs = [V.ref a] ∧ H a = some (.dK kvs) ∧ Q (.int kvs.length) H
theorem call_lenM {X : Cx} (h : X.K = K) : CallR X (.builtin "len") (rLenM K) := by
  subst h
  exact CallR.or call_len_seq (CallR.or call_len_str call_lenD)
theorem repDs_one {ι X : List Addr} {H : Hp} {d : D} {vs : List V} (r : RepDs K ι X H [d] vs) : ∃ v, vs = [v] ∧ RepD K ι X H d v := by
  obtain ⟨y, ys, e, f, g⟩ := r
  exact ⟨y, by rw [e, show ys = [] from g], f⟩
theorem repDs_two {ι X : List Addr} {H : Hp} {d f : D} {vs : List V} (r : RepDs K ι X H [d, f] vs) : ∃ v u, vs = [v, u] ∧ RepD K ι X H d v ∧ RepD K ι X H f u := by
  obtain ⟨y, ys, e, f, z, zs, e2, g, h⟩ := r
  exact ⟨y, z, by rw [e, e2, show zs = [] from h], f, g⟩
theorem repKs_len {ι X : List Addr} {H : Hp} : ∀ {ps : List (P × P)} {vs : List (Key × V)}, RepKs K ι X H ps vs → vs.length = ps.length
  | [], vs, r => by rw [RepKs] at r; rw [r]; rfl
  | (_, _) :: ps, vs, r => by
    rw [RepKs] at r
    obtain ⟨c, y, ys, e, _, f, g⟩ := r
    rw [e, List.length_cons, List.length_cons, repKs_len g]
theorem len_ok : RCS K (rLenM K) aLen := by
  intro ι X S H ds vs d Q rel rv e k
  unfold aLen at e
  split at e
  · rename_i z
    split at e
    · rename_i hz
      cases e
      obtain ⟨v, rfl, r⟩ := repDs_one rv
      rw [rS_inv r]
      exact .inr (.inl ⟨z, rfl, small hz, k H _ Ext.refl rel rd_int⟩)
    · cases e
  · rename_i l
    cases e
    obtain ⟨v, rfl, r⟩ := repDs_one rv
    have r : RepP K ι X H (.dic l) v := r
    rw [RepP] at r
    obtain ⟨a, xs, rfl, _, _, f, g⟩ := r
    refine .inr (.inr ⟨a, xs, rfl, f, ?_⟩)
    rw [repKs_len g]
    exact k H _ Ext.refl rel rd_int
  · rename_i x _ _
    obtain ⟨v, rfl, r⟩ := repDs_one rv
    cases q : seqD S x with
    | none => rw [q] at e; cases e
    | some l =>
      rw [q] at e
      cases e
      obtain ⟨a, xs, rfl, f, g⟩ := seqD_rep rel q r
      refine .inl ⟨a, xs, rfl, f, ?_⟩
      rw [repDs_len g]
      exact k H _ Ext.refl rel rd_int
  · cases e
def rTupM (K : PySem.W.Frag) : List V → Hp → VK → Prop := fun xs H Q => ∃ p ys, xs = [.ref p] ∧ ((SqL K H p ys ∧ ∀ l, H l = none → Q (.ref l) (upd H l (.tup ys))) ∨ (SqT K H p ys ∧ Q (.ref p) H))
theorem call_tupM {X : Cx} (h : X.K = K) : CallR X (.type "tuple") (rTupM K) := h ▸ call_tuple_of
def aTuple : Store → List D → Option D := fun S ds => match ds with
  | [.dat (.tup l)] => some (.dat (.tup l))
  | [d] => (listP S d).map fun l => .dat (.tup l)
  | _ => none
theorem tuple_ok : RCS K (rTupM K) aTuple := by
  intro ι X S H ds vs d Q rel rv e k
  unfold aTuple at e
  split at e
  · cases e
    obtain ⟨v, rfl, r⟩ := repDs_one rv
    obtain ⟨a, xs, rfl, f, g⟩ := rT_inv r
    exact ⟨a, xs, rfl, .inr ⟨f.sq, k H _ Ext.refl rel r⟩⟩
  · rename_i x _
    obtain ⟨v, rfl, r⟩ := repDs_one rv
    cases q : listP S x with
    | none => rw [q] at e; cases e
    | some l =>
      rw [q] at e
      cases e
      obtain ⟨a, xs, rfl, f, g⟩ := listP_rep rel q r
      exact ⟨a, xs, rfl, .inl ⟨SqL.of f, fun p hp => new_tup rel g hp k⟩⟩
  · cases e
def rListM (K : PySem.W.Frag) : List V → Hp → VK → Prop := fun xs H Q => ∃ p ys, xs = [.ref p] ∧ (SqL K H p ys ∨ SqT K H p ys) ∧ ∀ l, H l = none → Q (.ref l) (upd H l (.lst ys))
theorem call_listM {X : Cx} (h : X.K = K) : CallR X (.type "list") (rListM K) := h ▸ call_list_of
/-- list(x): a new list -/
def mList (a : DA) : DA := fun δ S => (a δ S).bind fun ds S1 => match ds with
  | [d] => oR (seqD S1 d) S1
  | _ => .fail
theorem postL_of {X ι : List Addr} {H : Hp} {α β : Type} {W : WK} {r : R α} {f : α → Store → R (List D)} {Q : V → Hp → Prop} {Rp : List Addr → Hp → α → β → Prop} {Q1 : β → Hp → Prop} (h : PostL K X ι H W (r.bind f) Q)
    (k : ∀ ι1 H1 a S1 v, Ext ι H ι1 H1 → Rel K ι1 X S1 H1 → Rp ι1 H1 a v → PostL K X ι H W (f a S1) Q → Q1 v H1) : Post K X ι H W r Rp Q1 := by
  cases r with
  | ok a S => exact fun ι' H' v x rel rp => k ι' H' a S v x rel rp h
  | exc C z S => exact h
  | fail => exact h
theorem newL {X ι ι1 : List Addr} {H H1 : Hp} {S1 : Store} {ds : List D} {xs : List V} {Q : V → Hp → Prop} (x1 : Ext ι H ι1 H1) (rel1 : Rel K ι1 X S1 H1) (r : RepDs K ι1 X H1 ds xs)
    (h : ∀ ι' H' p xs, Ext ι H ι' H' → Rel K ι' (p :: X) S1 H' → Free H p → H' p = some (.lst xs) → RepDs K ι' (p :: X) H' ds xs → Q (.ref p) H') {p : Addr} (hp : H1 p = none) : Q (.ref p) (upd H1 p (.lst xs)) := by
  have x := ext_alloc (o := .lst xs) rel1 hp
  exact h ι1 _ p xs (x1.trans x) (rel1.more hp) (ext_free x1 (rel1.nin hp).1 (Free.of hp)) upd_same (r.out (Out1.more hp))
theorem sl_list {ta : TA} {a : DA} (ha : SA K W ta a) : SL K W (tCB (rListM K) ta) (mList a) := by
  intro ι X S H σ δ Q rel re h
  refine ha ι X S H σ δ _ rel re (postL_of h fun ι1 H1 ds S1 vs x1 rel1 rv h1 => ?_)
  split at h1
  · rename_i d
    obtain ⟨v, rfl, r⟩ := repDs_one rv
    cases q : seqD S1 d with
    | none => rw [q] at h1; exact h1.elim
    | some l =>
      rw [q] at h1
      obtain ⟨b, xs, rfl, f, g⟩ := seqD_rep rel1 q r
      exact ⟨b, xs, rfl, f, fun p hp => newL x1 rel1 g h1 hp⟩
  · exact h1.elim
/-- list(range(..)) -/
def mListRg1 (a : DE) : DA := fun δ S => (a δ S).bind fun d S1 => match d with
  | .dat (.int n) => if -100000 ≤ n ∧ n ≤ 100000 then .ok (rngD 0 n.toNat) S1 else .fail
  | _ => .fail
theorem repDs_rng {ι X : List Addr} {H : Hp} (lo : Int) : ∀ l : List Nat, RepDs K ι X H (l.map fun (i : Nat) => .dat (.int (lo + i))) (l.map fun (i : Nat) => V.int (lo + i))
  | [] => rfl
  | i :: l => ⟨_, _, rfl, rd_int, repDs_rng lo l⟩
theorem sl_listRg1 {te : TE} {a : DE} (ha : SE K W te a) : SL K W (tLstRg (tRg1 te)) (mListRg1 a) := by
  intro ι X S H σ δ Q rel re h
  refine ha ι X S H σ δ _ rel re (postL_of h fun ι1 H1 d S1 v x1 rel1 rv h1 => ?_)
  split at h1
  · rename_i n
    split at h1
    · rename_i hn
      refine ⟨n, rI_inv rv, ⟨by omega, by omega, by omega, by omega, by omega⟩, fun p hp => newL x1 rel1 ?_ h1 hp⟩
      unfold rngD
      unfold rgV
      rw [show (n - 0 : Int) = n by omega]
      exact repDs_rng 0 _
    · exact h1.elim
  · exact h1.elim
/-- ints among the data -/
def intsP : List P → Option (List Int)
  | [] => some []
  | .int i :: l => (intsP l).map (i :: ·)
  | _ :: _ => none
def boolsP : List P → Option (List Bool)
  | [] => some []
  | .bl i :: l => (boolsP l).map (i :: ·)
  | _ :: _ => none
@[simp] theorem intsP_map (l : List Int) : intsP (l.map .int) = some l := by
  induction l with
  | nil => rfl
  | cons i l ih => rw [List.map_cons, intsP, ih]; rfl
@[simp] theorem boolsP_map (l : List Bool) : boolsP (l.map .bl) = some l := by
  induction l with
  | nil => rfl
  | cons i l ih => rw [List.map_cons, boolsP, ih]; rfl
theorem intsP_rep {ι X : List Addr} {H : Hp} : ∀ {l : List P} {ns : List Int} {xs : List V}, intsP l = some ns → RepPs K ι X H l xs → xs = ns.map V.int
  | [], ns, xs, e, r => by
    cases e
    rw [RepPs] at r
    exact r
  | p :: l, ns, xs, e, r => by
    rw [RepPs] at r
    obtain ⟨y, ys, rfl, f, g⟩ := r
    cases p with
    | int i =>
      unfold intsP at e
      cases q : intsP l with
      | none => rw [q] at e; cases e
      | some ms =>
        rw [q] at e
        cases e
        rw [RepP] at f
        rw [f, intsP_rep q g]
        rfl
    | _ => cases e
theorem boolsP_rep {ι X : List Addr} {H : Hp} : ∀ {l : List P} {ns : List Bool} {xs : List V}, boolsP l = some ns → RepPs K ι X H l xs → xs = ns.map V.bl
  | [], ns, xs, e, r => by
    cases e
    rw [RepPs] at r
    exact r
  | p :: l, ns, xs, e, r => by
    rw [RepPs] at r
    obtain ⟨y, ys, rfl, f, g⟩ := r
    cases p with
    | bl i =>
      unfold boolsP at e
      cases q : boolsP l with
      | none => rw [q] at e; cases e
      | some ms =>
        rw [q] at e
        cases e
        rw [RepP] at f
        rw [f, boolsP_rep q g]
        rfl
    | _ => cases e
def aAll : Store → List D → Option D := fun S ds => match ds with
  | [d] => ((listP S d).bind boolsP).map fun l => dBl (l.all id)
  | _ => none
theorem bools_of {ι X : List Addr} {S : Store} {H : Hp} {d : D} {v : V} {l : List Bool} (rel : Rel K ι X S H) (e : (listP S d).bind boolsP = some l) (r : RepD K ι X H d v) : ∃ a, v = .ref a ∧ SqL K H a (l.map V.bl) := by
  cases q : listP S d with
  | none => rw [q] at e; cases e
  | some ps =>
    rw [q] at e
    obtain ⟨a, xs, rfl, f, g⟩ := listP_rep rel q r
    rw [boolsP_rep e g] at f
    exact ⟨a, rfl, SqL.of f⟩
theorem ints_of {ι X : List Addr} {S : Store} {H : Hp} {d : D} {v : V} {l : List Int} (rel : Rel K ι X S H) (e : (listP S d).bind intsP = some l) (r : RepD K ι X H d v) : ∃ a, v = .ref a ∧ SqL K H a (l.map V.int) := by
  cases q : listP S d with
  | none => rw [q] at e; cases e
  | some ps =>
    rw [q] at e
    obtain ⟨a, xs, rfl, f, g⟩ := listP_rep rel q r
    rw [intsP_rep e g] at f
    exact ⟨a, rfl, SqL.of f⟩
theorem all_ok : RCS K (rAll K) aAll := by
  intro ι X S H ds vs d Q rel rv e k
  unfold aAll at e
  split at e
  · rename_i x
    obtain ⟨v, rfl, r⟩ := repDs_one rv
    cases q : (listP S x).bind boolsP with
    | none => rw [q] at e; cases e
    | some l =>
      rw [q] at e
      cases e
      obtain ⟨a, rfl, f⟩ := bools_of rel q r
      exact ⟨a, l, rfl, f, k H _ Ext.refl rel rd_bl⟩
  · cases e
def aSum : Store → List D → Option D := fun S ds => match ds with
  | [d] => ((listP S d).bind intsP).map fun l => dInt l.sum
  | _ => none
theorem sum_ok : RCS K (rSum K) aSum := by
  intro ι X S H ds vs d Q rel rv e k
  unfold aSum at e
  split at e
  · rename_i x
    obtain ⟨v, rfl, r⟩ := repDs_one rv
    cases q : (listP S x).bind intsP with
    | none => rw [q] at e; cases e
    | some l =>
      rw [q] at e
      cases e
      obtain ⟨a, rfl, f⟩ := ints_of rel q r
      exact ⟨a, l, rfl, f, k H _ Ext.refl rel rd_int⟩
  · cases e
/-- the greatest, the least of some ints -/
def maxI : List Int → Option Int
  | [] => none
  | i :: l => some (l.foldl max i)
def minI : List Int → Option Int
  | [] => none
  | i :: l => some (l.foldl min i)
theorem foldl_min : ∀ (l : List Int) (i : Int), (l.foldl min i = i ∨ l.foldl min i ∈ l) ∧ l.foldl min i ≤ i ∧ ∀ y ∈ l, l.foldl min i ≤ y
  | [], i => ⟨.inl rfl, Int.le_refl _, fun y h => by cases h⟩
  | a :: l, i => by
    obtain ⟨h1, h2, h3⟩ := foldl_min l (min i a)
    rw [List.foldl_cons]
    refine ⟨?_, by omega, fun y hy => ?_⟩
    · rcases h1 with h1 | h1
      · by_cases z : a ≤ i
        · right; rw [h1, show min i a = a by omega]; exact List.mem_cons_self
        · left; rw [h1]; omega
      · right; exact List.mem_cons_of_mem _ h1
    · rcases List.mem_cons.mp hy with rfl | hy
      · omega
      · exact h3 y hy
theorem minI_spec {l : List Int} {m : Int} (e : minI l = some m) : m ∈ l ∧ ∀ y ∈ l, m ≤ y := by
  cases l with
  | nil => cases e
  | cons i l =>
    cases e
    obtain ⟨h1, h2, h3⟩ := foldl_min l i
    refine ⟨?_, fun y hy => ?_⟩
    · rcases h1 with h1 | h1
      · rw [h1]; exact List.mem_cons_self
      · exact List.mem_cons_of_mem _ h1
    · rcases List.mem_cons.mp hy with rfl | hy
      · exact h2
      · exact h3 y hy
def aMax : Store → List D → Option D := fun S ds => match ds with
  | [.dat (.int i), .dat (.int j)] => some (dInt (if j > i then j else i))
  | [d] => (((listP S d).bind intsP).bind maxI).map dInt
  | _ => none
def aMin : Store → List D → Option D := fun S ds => match ds with
  | [.dat (.int i), .dat (.int j)] => some (dInt (if j < i then j else i))
  | [d] => (((listP S d).bind intsP).bind minI).map dInt
  | _ => none
def rMinM (K : PySem.W.Frag) : List V → Hp → VK → Prop := fun xs H Q => (∃ i j, xs = [.int i, .int j] ∧ Q (.int (if j < i then j else i)) H) ∨ rMin K xs H Q
theorem call_minM {X : Cx} (h : X.K = K) (hc : X.calm = true) : CallR X (.builtin "min") (rMinM K) := by
  subst h
  exact CallR.or (call_min2 hc) (cr_min hc)
theorem min_ok : RCS K (rMinM K) aMin := by
  intro ι X S H ds vs d Q rel rv e k
  unfold aMin at e
  split at e
  · cases e
    obtain ⟨v, u, rfl, r1, r2⟩ := repDs_two rv
    rw [rI_inv r1, rI_inv r2]
    exact .inl ⟨_, _, rfl, k H _ Ext.refl rel rd_int⟩
  · rename_i x
    obtain ⟨v, rfl, r⟩ := repDs_one rv
    cases q : (listP S x).bind intsP with
    | none => rw [q] at e; cases e
    | some l =>
      rw [q] at e
      cases q2 : minI l with
      | none => simp only [Option.bind_some, q2] at e; cases e
      | some m =>
        simp only [Option.bind_some, q2, Option.map_some] at e
        cases e
        obtain ⟨a, rfl, f⟩ := ints_of rel q r
        obtain ⟨h1, h2⟩ := minI_spec q2
        refine .inr ⟨a, l, rfl, f, List.length_pos_of_mem h1, fun m' h3 h4 => ?_⟩
        have : m' = m := Int.le_antisymm (h4 m h1) (h2 m' h3)
        subst this
        exact k H _ Ext.refl rel rd_int
  · cases e
def aInt : Store → List D → Option D := fun _ ds => match ds with
  | [.dat (.int i)] => some (dInt i)
  | [.dat (.bl b)] => some (dInt (if b then 1 else 0))
  | _ => none
theorem int_ok : RCS K (fun xs H Q => (∃ i, xs = [.int i] ∧ Q (.int i) H) ∨ ∃ k, xs = [.bl k] ∧ Q (.int (if k then 1 else 0)) H) aInt := by
  intro ι X S H ds vs d Q rel rv e k
  unfold aInt at e
  split at e
  · cases e
    obtain ⟨v, rfl, r⟩ := repDs_one rv
    exact .inl ⟨_, by rw [rI_inv r], k H _ Ext.refl rel rd_int⟩
  · cases e
    obtain ⟨v, rfl, r⟩ := repDs_one rv
    exact .inr ⟨_, by rw [rB_inv r], k H _ Ext.refl rel rd_int⟩
  · cases e
end
end M3
namespace M3
open PySem PySem.Spec PyProof.Rows L2
variable [TabsP]
/-- own classes, so that isinstance tells of their instances -/
structure OwnC (K : PySem.W.Frag) (C : Addr) : Prop where
  cl : Cls K C
  ha : PySem.W.findIn K (.ref C) "__class__" = some (some (.builtin "object.__class__"))
  hn : PySem.W.specialIn K (.builtin "object.__class__") "__get__" = some (some (.builtin "getset_descriptor.__get__"))
  htk : PySem.W.takesIn K (.builtin "object.__class__") = some true
  hm : PySem.W.mroIn K C (.type "object") = some true
def OwnCs (K : PySem.W.Frag) (CS : List Addr) : Prop := ∀ C ∈ CS, OwnC K C
theorem OwnCs.nil {K : PySem.W.Frag} : OwnCs K [] := fun _ h => nomatch h
/-- the type of a thing, as isinstance asks it -/
def tyD (CS : List Addr) (S : Store) : D → Option Value
  | .dat .non => some (.type "NoneType")
  | .dat (.bl _) => some (.type "bool")
  | .dat (.int _) => some (.type "int")
  | .dat (.str _) => some (.type "str")
  | .dat (.tup _) => some (.type "tuple")
  | .dat (.lst _) => some (.type "list")
  | .dat (.dic _) => some (.type "dict")
  | .dat (.scr _) => some (.type "list")
  | .dat (.ins C _) => if C ∈ CS then some (.ref C) else none
  | .dat (.con _) => none
  | .obj i => match S[i]? with
    | some (.lst _) => some (.type "list")
    | some (.dic _) => some (.type "dict")
    | some (.tup _) => some (.type "tuple")
    | some (.ins C _) => if C ∈ CS then some (.ref C) else none
    | none => none
section
variable {K : PySem.W.Frag} {CS : List Addr}
theorem tyD_rep {ι X : List Addr} {S : Store} {H : Hp} {d : D} {v : V} {t : Value} (O : OwnCs K CS) (rel : Rel K ι X S H) (e : tyD CS S d = some t) (r : RepD K ι X H d v) : TyX K H v t := by
  cases d with
  | obj i =>
    obtain ⟨a, ea, rfl⟩ := r
    obtain ⟨o, eo, ro⟩ := rel.obj ea
    unfold tyD at e
    simp only [eo] at e
    cases o with
    | lst l => cases e; obtain ⟨xs, f, _⟩ := ro; exact .base (.lst f)
    | dic l => cases e; obtain ⟨xs, f, _⟩ := ro; exact .base (.dK f)
    | tup l => cases e; obtain ⟨xs, f, _⟩ := ro; exact .base (.tup f)
    | ins C l =>
      simp only at e
      split at e
      · rename_i m
        cases e
        obtain ⟨dx, xs, f, _⟩ := ro
        have o := O C m
        exact .base (.ins f o.cl o.ha o.hn o.htk o.hm)
      · cases e
  | dat p =>
    have r : RepP K ι X H p v := r
    cases p with
    | non => cases e; rw [RepP] at r; rw [r]; exact .base .non
    | bl b => cases e; rw [RepP] at r; rw [r]; exact .base (.bl b)
    | int b => cases e; rw [RepP] at r; rw [r]; exact .base (.int b)
    | str b => cases e; rw [RepP] at r; rw [r]; exact .base (.str b)
    | tup l =>
      cases e
      rw [RepP] at r
      obtain ⟨a, xs, rfl, f, _⟩ := r
      rcases f with ⟨_, _, f | ⟨o, f⟩⟩ | ⟨o, its, n, h1, h2, _⟩
      · exact .base (.tup f)
      · exact .fTuple f
      · exact .kTuple h1 h2
    | lst l => cases e; rw [RepP] at r; obtain ⟨a, xs, rfl, _, _, f, _⟩ := r; exact .base (.lst f)
    | dic l => cases e; rw [RepP] at r; obtain ⟨a, xs, rfl, _, _, f, _⟩ := r; exact .base (.dK f)
    | ins C l =>
      rw [RepP] at r
      obtain ⟨a, dx, xs, rfl, _, _, f, _⟩ := r
      unfold tyD at e
      simp only at e
      split at e
      · rename_i m
        cases e
        have o := O C m
        exact .base (.ins f o.cl o.ha o.hn o.htk o.hm)
      · cases e
    | con w => cases e
    | scr l =>
      cases e
      rw [RepP] at r
      obtain ⟨a, rfl, f⟩ := r
      rcases f with ⟨_, _, f | ⟨o, f⟩⟩ | ⟨o, its, n, h1, h2, _⟩
      · exact .base (.lst f)
      · exact .base (.frz f)
      · exact .kList h1 h2
/-- a class, as a value -/
def clsD : D → Option Value
  | .dat (.con (.ty n)) => some (.type n)
  | .dat (.con (.ref C)) => some (.ref C)
  | _ => none
theorem clsD_rep {ι X : List Addr} {H : Hp} {d : D} {v : V} {u : Value} (e : clsD d = some u) (r : RepD K ι X H d v) : ClsV v u := by
  unfold clsD at e
  split at e
  · cases e
    rw [rC_inv r]
    exact .ty _
  · cases e
    rw [rC_inv r]
    exact .own _
  · cases e
def aIsi (K : PySem.W.Frag) (CS : List Addr) : Store → List D → Option D := fun S ds => match ds with
  | [x, c] => match tyD CS S x, clsD c with
    | some t, some u => (PySem.W.kitOne K t u).map dBl
    | _, _ => none
  | _ => none
theorem call_isiM {X : Cx} (h : X.K = K) : CallR X (.builtin "isinstance") (rIsi K) := h ▸ call_isi
theorem isi_ok (O : OwnCs K CS) : RCS K (rIsi K) (aIsi K CS) := by
  intro ι X S H ds vs d Q rel rv e k
  unfold aIsi at e
  split at e
  · rename_i x c
    obtain ⟨v, w, rfl, r1, r2⟩ := repDs_two rv
    split at e
    · rename_i t u e1 e2
      cases q : PySem.W.kitOne K t u with
      | none => rw [q] at e; cases e
      | some b =>
        rw [q] at e
        cases e
        exact ⟨v, w, t, u, b, rfl, clsD_rep e2 r2, tyD_rep O rel e1 r1, q, k H _ Ext.refl rel rd_bl⟩
    · cases e
  · cases e
end
def MSim (K : PySem.W.Frag) (r : V → List V → Hp → VK → Prop) (f : D → List D → Store → R D) : Prop := ∀ ι X S H x v ds vs Q, Rel K ι X S H → RepD K ι X H x v → RepDs K ι X H ds vs →
  Post K X ι H (fun _ _ _ => False) (f x ds S) (fun ι' H' d w => RepD K ι' X H' d w) Q → r v vs H Q
def isKind (T : String) (S : Store) (d : D) : Bool :=
  if T = "list" then (listD S d).isSome else if T = "str" then (match d with
    | .dat (.str _) => true
    | _ => false) else false
def mBM (T : String) (f : D → List D → Store → R D) (a : DE) (b : DA) : DE := fun δ S => (a δ S).bind fun x S1 => if isKind T S1 x = true then (b δ S1).bind fun ds S2 => (match f x ds S2 with
    | .ok d S3 => .ok d S3
    | _ => .fail) else .fail
section
variable {K : PySem.W.Frag} {W : L2.St → WK}
theorem isKind_ty {ι X : List Addr} {S : Store} {H : Hp} {T : String} {d : D} {v : V} (rel : Rel K ι X S H) (e : isKind T S d = true) (r : RepD K ι X H d v) : tyV K T v H := by
  unfold isKind at e
  split at e
  · rename_i hT
    subst hT
    cases q : listD S d with
    | none => rw [q] at e; cases e
    | some l =>
      obtain ⟨a, xs, rfl, f, _⟩ := listD_rep rel q r
      exact .inl ⟨rfl, xs, SqL.of f⟩
  · split at e
    · rename_i hT
      subst hT
      split at e
      · rw [rS_inv r]; rfl
      · cases e
    · cases e
theorem noexc {X ι : List Addr} {H : Hp} {W : WK} {r : R D} {Rp : List Addr → Hp → D → V → Prop} {Q : V → Hp → Prop} (h : Post K X ι H W (match r with
    | .ok d S3 => .ok d S3
    | _ => .fail) Rp Q) : Post K X ι H (fun _ _ _ => False) r Rp Q := by
  cases r with
  | ok d S => exact h
  | exc C x S => exact h.elim
  | fail => exact h
theorem se_bm {T : String} {r : V → List V → Hp → VK → Prop} {f : D → List D → Store → R D} {to : TE} {t : TA} {a : DE} {b : DA} (hr : MSim K r f) (ha : SE K W to a) (hb : SA K W t b) : SE K W (tBM K T r to t) (mBM T f a b) := by
  intro ι X S H σ δ Q rel re h
  refine ha ι X S H σ δ _ rel re (Post.bind h fun ι1 H1 x S1 v x1 rel1 rv h1 => ?_)
  split at h1
  · rename_i hk
    refine ⟨isKind_ty rel1 hk rv, ?_⟩
    refine hb ι1 X S1 H1 σ δ _ rel1 (re.ext x1) (Post.bind h1 fun ι2 H2 ds S2 vs x2 rel2 rvs h2 => ?_)
    exact hr ι2 X S2 H2 x v ds vs Q rel2 (rv.ext x2) rvs (noexc h2)
  · exact h1.elim
/-- a change of a list among the objects -/
def updL (f : List D → List D → Option (D × List D)) : D → List D → Store → R D := fun x ds S => match x with
  | .obj i => match S[i]? with
    | some (.lst l) => (match f l ds with
      | some (d, l') => .ok d (S.set i (.lst l'))
      | none => .fail)
    | _ => .fail
  | _ => .fail
theorem updL_ok {r : V → List V → Hp → VK → Prop} {f : List D → List D → Option (D × List D)}
    (h : ∀ ι X S H a xs l ds vs d l' Q, Rel K ι X S H → H a = some (.lst xs) → RepDs K ι X H l xs → RepDs K ι X H ds vs → f l ds = some (d, l') →
      (∀ v ys, RepD K ι X H d v → RepDs K ι X H l' ys → Q v (upd H a (.lst ys))) → r (.ref a) vs H Q) : MSim K r (updL f) := by
  intro ι X S H x v ds vs Q rel rx rvs hp
  unfold updL at hp
  cases x with
  | dat p => exact hp.elim
  | obj i =>
    obtain ⟨a, ea, rfl⟩ := rx
    simp only at hp
    cases es : S[i]? with
    | none => rw [es] at hp; exact hp.elim
    | some o =>
      cases o with
      | ins C l => simp only [es] at hp; exact hp.elim
      | dic l => simp only [es] at hp; exact hp.elim
      | tup l => simp only [es] at hp; exact hp.elim
      | lst l =>
        simp only [es] at hp
        cases q : f l ds with
        | none => rw [q] at hp; exact hp.elim
        | some z =>
          obtain ⟨d, l'⟩ := z
          simp only [q] at hp
          obtain ⟨xs, ex, rxs⟩ := rel.at_ i _ a es ea
          refine h ι X S H a xs l ds vs d l' Q rel ex rxs rvs q fun v ys rv rys => ?_
          have ma : a ∈ ι := List.mem_of_getElem? ea
          have o1 : Out1 ι X H ι X (upd H a (.lst ys)) := Out1.ext ⟨⟨[], by simp⟩, fun b w n h _ => by rw [upd_ne (fun z => n (by rw [z]; exact ma))]; exact h, fun b m n => absurd m n, let ⟨_, hu0, pl0⟩ := rel.pl ma; tabs_put hu0 pl0⟩
          obtain ⟨r2, x2⟩ := rel.put (o := .lst l') (u := .lst ys) ea ⟨ys, upd_same, rys.out o1⟩
          exact hp ι _ v x2 r2 (rv.ext x2)
def fAppend : List D → List D → Option (D × List D) := fun l ds => match ds with
  | [d] => if l.length < 100000 then some (.dat .non, l ++ [d]) else none
  | _ => none
theorem append_ok : MSim K rAppend (updL fAppend) := updL_ok fun ι X S H a xs l ds vs d l' Q rel ex rxs rvs e k => by
  unfold fAppend at e
  split at e
  · split at e
    · rename_i hl
      cases e
      obtain ⟨v, rfl, rv⟩ := repDs_one rvs
      exact ⟨a, xs, v, rfl, rfl, ex, smalls (by rw [repDs_len rxs]; exact hl), k _ _ rd_non (repDs_snoc rxs rv)⟩
    · cases e
  · cases e
theorem repDs_app {ι X : List Addr} {H : Hp} : ∀ {l k : List D} {xs ys : List V}, RepDs K ι X H l xs → RepDs K ι X H k ys → RepDs K ι X H (l ++ k) (xs ++ ys)
  | [], k, xs, ys, r, q => by rw [show xs = [] from r]; exact q
  | _ :: _, k, _, ys, ⟨y, zs, rfl, f, g⟩, q => ⟨y, zs ++ ys, rfl, f, repDs_app g q⟩
/-- reading methods -/
def rdM (f : Store → D → List D → Option D) : D → List D → Store → R D := fun x ds S => oR (f S x ds) S
theorem rdM_ok {r : V → List V → Hp → VK → Prop} {f : Store → D → List D → Option D}
    (h : ∀ ι X S H x v ds vs d Q, Rel K ι X S H → RepD K ι X H x v → RepDs K ι X H ds vs → f S x ds = some d → (∀ H' w, Ext ι H ι H' → Rel K ι X S H' → RepD K ι X H' d w → Q w H') → r v vs H Q) : MSim K r (rdM f) := by
  intro ι X S H x v ds vs Q rel rx rvs hp
  unfold rdM at hp
  cases q : f S x ds with
  | none => rw [q] at hp; exact hp.elim
  | some d =>
    rw [q] at hp
    exact h ι X S H x v ds vs d Q rel rx rvs q fun H' w x r k => hp ι H' w x r k
/-- the first place -/
def idxF (y : P) : List P → Option Nat
  | [] => none
  | p :: l => if eqF p y = true then some 0 else (idxF y l).map (· + 1)
def fIndex : Store → D → List D → Option D := fun S x ds => match ds with
  | [.dat y] => match listP S x with
    | some l => if flatP y = true ∧ l.all flatP = true then (idxF y l).map fun j => dInt (j : Nat) else none
    | none => none
  | _ => none
theorem idxF_spec {y : P} : ∀ {l : List P} {j : Nat}, idxF y l = some j → (∃ z, l[j]? = some z ∧ eqF z y = true) ∧ ∀ (m : Nat) z, m < j → l[m]? = some z → eqF z y = false
  | [], j, e => by cases e
  | p :: l, j, e => by
    unfold idxF at e
    split at e
    · rename_i h
      cases e
      exact ⟨⟨p, rfl, h⟩, fun m z hm => by omega⟩
    · rename_i h
      cases q : idxF y l with
      | none => rw [q] at e; cases e
      | some k =>
        rw [q] at e
        cases e
        obtain ⟨⟨z, h1, h2⟩, h3⟩ := idxF_spec q
        refine ⟨⟨z, by simpa using h1, h2⟩, fun m w hm hw => ?_⟩
        have hm : m < k + 1 := hm
        cases m with
        | zero =>
          have e2 : p = w := by simpa using hw
          subst e2
          exact Bool.eq_false_iff.mpr h
        | succ m => exact h3 m w (by omega) (by simpa using hw)
theorem index_ok : MSim K (fun x xs H Q => rIndex K x xs H Q) (rdM fIndex) := rdM_ok fun ι X S H x v ds vs d Q rel rx rvs e k => by
  unfold fIndex at e
  split at e
  · rename_i y
    split at e
    · rename_i l e1
      split at e
      · rename_i h
        cases q : idxF y l with
        | none => rw [q] at e; cases e
        | some j =>
          rw [q] at e
          cases e
          obtain ⟨u, rfl, ru⟩ := repDs_one rvs
          obtain ⟨a, xs, rfl, f, g⟩ := listP_rep rel e1 rx
          obtain ⟨⟨z, h1, h2⟩, h3⟩ := idxF_spec q
          obtain ⟨w, ew, rw1⟩ := repPs_at g h1
          have ru : RepP K ι X H y u := ru
          have fz : flatP z = true := List.all_eq_true.mp h.2 z (List.mem_of_getElem? h1)
          refine ⟨a, xs, u, j, w, rfl, rfl, SqL.of f, flat_rep h.1 ru, flats_rep h.2 g, ew, by rw [eqF_rep fz h.1 rw1 ru]; exact h2, fun m z' hm hz => ?_, k H _ Ext.refl rel rd_int⟩
          have hl := repPs_len g
          have hm2 : m < l.length := by have := (List.getElem?_eq_some_iff.mp hz).1; omega
          have e2 := List.getElem?_eq_getElem hm2
          have fz2 : flatP l[m] = true := List.all_eq_true.mp h.2 _ (List.getElem_mem hm2)
          rw [eqF_rep fz2 h.1 (repPs_nth g e2 hz) ru]
          exact h3 m _ hm e2
      · cases e
    · cases e
  · cases e
def setD (x y v : D) (S : Store) : Option Store := match x, y with
  | .obj i, .dat (.int k) => match S[i]? with
    | some (.lst l) => (ixN l.length k).map fun j => S.set i (.lst (l.set j v))
    | _ => none
  | _, _ => none
theorem repDs_set {ι X : List Addr} {H : Hp} {d : D} {v : V} : ∀ {l : List D} {xs : List V} (k : Nat), RepDs K ι X H l xs → RepD K ι X H d v → RepDs K ι X H (l.set k d) (xs.set k v)
  | [], xs, k, r, q => by rw [show xs = [] from r]; rfl
  | _ :: _, _, 0, ⟨y, ys, rfl, f, g⟩, q => ⟨v, ys, rfl, q, g⟩
  | _ :: _, _, k + 1, ⟨y, ys, rfl, f, g⟩, q => ⟨y, _, rfl, f, repDs_set k g q⟩
theorem setD_ok {ι X : List Addr} {S S' : Store} {H : Hp} {x y d : D} {v u w : V} {Q : Hp → Prop} (rel : Rel K ι X S H) (rx : RepD K ι X H x v) (ry : RepD K ι X H y u) (rd : RepD K ι X H d w) (e : setD x y d S = some S')
    (k : ∀ H', Ext ι H ι H' → Rel K ι X S' H' → Q H') : rSetL v u w H Q := by
  unfold setD at e
  split at e
  · rename_i i n
    obtain ⟨a, ea, rfl⟩ := rx
    cases es : S[i]? with
    | none => rw [es] at e; cases e
    | some o =>
      cases o with
      | ins C l => simp only [es] at e; cases e
      | dic l => simp only [es] at e; cases e
      | tup l => simp only [es] at e; cases e
      | lst l =>
        simp only [es] at e
        cases q : ixN l.length n with
        | none => rw [q] at e; cases e
        | some j =>
          rw [q] at e
          cases e
          obtain ⟨xs, ex, rxs⟩ := rel.at_ i _ a es ea
          refine ⟨a, xs, n, j, rfl, rI_inv ry, ex, by rw [repDs_len rxs]; exact q, ?_⟩
          have ma : a ∈ ι := List.mem_of_getElem? ea
          have o1 : Out1 ι X H ι X (upd H a (.lst (xs.set j w))) := Out1.ext ⟨⟨[], by simp⟩, fun b w n h _ => by rw [upd_ne (fun z => n (by rw [z]; exact ma))]; exact h, fun b m n => absurd m n, let ⟨_, hu0, pl0⟩ := rel.pl ma; tabs_put hu0 pl0⟩
          obtain ⟨r2, x2⟩ := rel.put (o := .lst (l.set j d)) (u := .lst (xs.set j w)) ea ⟨_, upd_same, (repDs_set j rxs rd).out o1⟩
          exact k _ x2 r2
  · cases e
def gmSub (a b : DE) : DG := fun d δ S => (a δ S).bind fun x S1 => (b δ S1).bind fun y S2 => match setD x y d S2 with
  | some S3 => .ok δ S3
  | none => .fail
theorem sg_sub {to ti : TE} {a b : DE} (ha : SE K W to a) (hb : SE K W ti b) : SG K W (gSub to ti rSetL) (gmSub a b) := by
  intro ι X S H σ δ d w N rel re rd h
  refine ha ι X S H σ δ _ rel re (Post.bind h fun ι1 H1 x S1 v x1 rel1 rv h1 => ?_)
  refine hb ι1 X S1 H1 σ δ _ rel1 (re.ext x1) (Post.bind h1 fun ι2 H2 y S2 u x2 rel2 ru h2 => ?_)
  cases q : setD x y d S2 with
  | none => simp only [q] at h2; exact h2.elim
  | some S3 =>
    simp only [q] at h2
    exact setD_ok rel2 (rv.ext x2) ru ((rd.ext x1).ext x2) q fun H3 x3 rel3 => h2 ι2 H3 σ x3 rel3 (((re.ext x1).ext x2).ext x3)
/-- xs[i] += e -/
def getD (S : Store) (x y : D) : Option D := match y with
  | .dat (.int (.ofNat k)) => match listD S x with
    | some l => l[k]?
    | none => none
  | _ => none
def mAugS (a b c : DE) : DS := fun δ S => (a δ S).st δ fun x S1 => (b δ S1).st δ fun y S2 => match getD S2 x y with
  | some (.dat (.int old)) => (c δ S2).st δ fun z S3 => (match z with
    | .dat (.int n) => (match setD x y (.dat (.int (old + n))) S3 with
      | some S4 => .ok (.nx δ) S4
      | none => .fail)
    | _ => .fail)
  | _ => .fail
def rGetK (K : PySem.W.Frag) : V → V → Hp → VK → Prop := fun x y H Q => ∃ (p : Addr) (xs : List V) (i : Nat) (v : V), x = .ref p ∧ y = .int (i : Int) ∧ SqL K H p xs ∧ xs[i]? = some v ∧ Q v H
theorem ss_augS {to ti te : TE} {a b c : DE} (ha : SE K W to a) (hb : SE K W ti b) (hc : SE K W te c) : SS K W (tAugS to ti te (rGetK K) (ipI fun i j => i + j) rSetL) (mAugS a b c) := by
  intro ι X S H σ δ E rel re h
  refine ha ι X S H σ δ _ rel re (PostS.st re h fun ι1 H1 x S1 v x1 rel1 rv h1 => ?_)
  refine hb ι1 X S1 H1 σ δ _ rel1 (re.ext x1) (PostS.st (re.ext x1) h1 fun ι2 H2 y S2 u x2 rel2 ru h2 => ?_)
  have re2 := (re.ext x1).ext x2
  cases q : getD S2 x y with
  | none => simp only [q] at h2; exact h2.elim
  | some o =>
    cases o with
    | obj i => simp only [q] at h2; exact h2.elim
    | dat p =>
      cases p with
      | int old =>
        simp only [q] at h2
        have rv2 := rv.ext x2
        unfold getD at q
        split at q
        · rename_i k
          split at q
          · rename_i l el
            obtain ⟨pa, xs, rfl, f, g⟩ := listD_rep rel2 el rv2
            obtain ⟨w, ew, rw1⟩ := repDs_at g q
            refine ⟨pa, xs, k, w, rfl, rI_inv ru, SqL.of f, ew, ?_⟩
            refine hc ι2 X S2 H2 σ δ _ rel2 re2 (PostS.st re2 h2 fun ι3 H3 z S3 t x3 rel3 rt h3 => ?_)
            split at h3
            · rename_i n
              split at h3
              · rename_i S4 e4
                refine ⟨old, n, rI_inv rw1, rI_inv rt, ?_⟩
                exact setD_ok rel3 (rv2.ext x3) (ru.ext x3) rd_int e4 fun H4 x4 rel4 => h3 ι3 H4 σ x4 rel4 ((re2.ext x3).ext x4)
              · exact h3.elim
            · exact h3.elim
          · cases q
        · cases q
      | _ => simp only [q] at h2; exact h2.elim
/-- x op= e -/
def mAug (i : Nat) (f : Store → D → D → Option D) (a : DE) : DS := fun δ S => match δ[i]? with
  | some (some x) => (a δ S).st δ fun y S1 => (match f S1 x y with
    | some z => .ok (.nx (δ.set i (some z))) S1
    | none => .fail)
  | _ => .fail
theorem ss_aug {i : Nat} {te : TE} {ti : TIp} {f : Store → D → D → Option D} {a : DE} (ha : SE K W te a)
    (hf : ∀ ι X S H x y v u d Q, Rel K ι X S H → RepD K ι X H x v → RepD K ι X H y u → f S x y = some d → (∀ H' w, Ext ι H ι H' → Rel K ι X S H' → RepD K ι X H' d w → Q w H') → ti v u H Q) : SS K W (tAug i te ti) (mAug i f a) := by
  intro ι X S H σ δ E rel re h
  unfold mAug at h
  split at h
  · rename_i x ex
    obtain ⟨v, ev, rv⟩ := re.2 i x ex
    refine ⟨v, ev, ha ι X S H σ δ _ rel re (PostS.st re h fun ι1 H1 y S1 u x1 rel1 ru h1 => ?_)⟩
    split at h1
    · rename_i z ez
      exact hf ι1 X S1 H1 x y v u z _ rel1 (rv.ext x1) ru ez fun H2 w x2 rel2 rw2 => h1 ι1 H2 _ x2 rel2 (((re.ext x1).ext x2).set rw2)
    · exact h1.elim
  · exact h.elim
theorem ip_add_ok : ∀ ι X S H x y v u d Q, Rel K ι X S H → RepD K ι X H x v → RepD K ι X H y u → iop (fun i j => dInt (i + j)) yes2 S x y = some d → (∀ H' w, Ext ι H ι H' → Rel K ι X S H' → RepD K ι X H' d w → Q w H') → ipI (fun i j => i + j) v u H Q := by
  intro ι X S H x y v u d Q rel rx ry e k
  unfold iop yes2 at e
  split at e
  · rename_i i j
    rw [if_pos rfl] at e
    cases e
    exact ⟨i, j, rI_inv rx, rI_inv ry, k H _ Ext.refl rel rd_int⟩
  · cases e
end
end M3
namespace M3
open PySem PySem.Spec PyProof.Rows L2
variable [TabsP]
def tMakeS (C : Addr) (sp : Sp) (E : L2.St → XK) (t : TA) : TE := fun σ H Q => t σ H fun vs H1 => ∀ x dx, H1 x = none → H1 dx = none → dx ≠ x → sp (.ref x :: vs) (upd (upd H1 dx (.own x)) x (.ins C dx [])) (fun v H2 => v = .non ∧ Q (.ref x) H2) (E σ)
section
variable {X : Cx} {C f : Addr} {k : Nat} {fd : FuncData} {ps : List Str} {sp : Sp} {CX : CXT} {x : Str} {e : Expr} {es : List Expr} {t : TA} {p pos : Pos} {E : L2.St → XK}
theorem pe_makeS (M : Mk X.K C f) (F : FnOk X.prog X.w X.K X.mg X.base CX k f fd ps sp) (hr : Room (k + 1) X.A) (hg : Gl X x) (hm : X.mg x = some (.ref C)) (hb : Binds X.K fd ps []) (hx : ∀ σ, PassesAt CX X σ (E σ))
    (ha : PA X (e :: es) t) (hdb : (x == ("__debug__" : Str)) = false := by decide) (he : starEach (e :: es) X.env = (false, eval e X.env) :: starEach es X.env := by rfl) (hpl : (backTo pos (starEach es X.env)).any (·.1) = false := by rfl) :
    PE X (.Call (.Name x p) (e :: es) [] pos) (tMakeS C sp E t) := by
  refine ⟨fun pins s σ H Q I h => ?_⟩
  refine wpAny_Call_Name_kw (ld_glob I hg hm ?_ hdb)
  refine PySem.W.callWith_K (h₀ := X.base) I.ok.mod.kin M.kp (thn (ha.run pos pins s σ H _ I h) fun us s1 ⟨vs, H1, I1, r, q⟩ => ⟨I1.kIn, ?_⟩) he hpl
  have hq := q (s1.heap.objs.size + 1) s1.heap.objs.size (I1.hok.fresh (Nat.le_succ _)) (I1.hok.fresh (Nat.le_refl _)) (Nat.ne_of_lt (Nat.lt_succ_self _))
  have I2 := Inv.made (C := C) I1
  have r2 : Vals (V.ref (s1.heap.objs.size + 1) :: vs) (Value.ref (s1.heap.objs.size + 1) :: us) := .cons rfl r
  have hl : (Value.ref (s1.heap.objs.size + 1) :: us ++ []).length = ps.length := by
    have e := r2.length
    rw [F.len _ _ _ _ hq] at e
    rw [List.append_nil]
    exact e.symm
  have b := hb _ (Value.ref (s1.heap.objs.size + 1) :: us) I2.kIn hl
  rw [List.append_nil] at b
  refine wpAny_call (make_map (f := f) I1.kIn M.makes M.init (beq_iff_eq.mp M.fn) (codeAny_mono (F.run _ X.stack _ _ ⟨Value.ref (s1.heap.objs.size + 1) :: us, []⟩ (Value.ref (s1.heap.objs.size + 1) :: us) _ _ (E σ) (hr.make C us [])
    (I2.env0.make C us []) b r2 hq) fun r s' hq' => ?_))
  cases r with
  | error e => exact hx σ pins _ _ e s' I2 hq'
  | ok fl =>
    cases fl with
    | ret u =>
      obtain ⟨v, H', I3, rv, ev, q3⟩ := I2.after hq'
      subst ev
      exact ⟨rv, ⟨V.ref (s1.heap.objs.size + 1), H', I3, rfl, q3⟩⟩
    | next => exact False.elim hq'
    | brk => exact False.elim hq'
    | cont => exact False.elim hq'
end
/-- attributes that may be read and written -/
def FlOk (K : PySem.W.Frag) (FL : List (Addr × Str)) : Prop := ∀ z ∈ FL, Cls K z.1 ∧ NoAttr K z.1 z.2
def lookD (f : Str) : List (Str × D) → Option D
  | [] => none
  | (g, d) :: l => if f = g then some d else lookD f l
def lookPf (f : Str) : List (Str × P) → Option P
  | [] => none
  | (g, d) :: l => if f = g then some d else lookPf f l
def fldD (FL : List (Addr × Str)) (f : Str) (S : Store) : D → Option D
  | .obj i => match S[i]? with
    | some (.ins C l) => if (C, f) ∈ FL then lookD f l else none
    | _ => none
  | .dat (.ins C l) => if (C, f) ∈ FL then (lookPf f l).map .dat else none
  | _ => none
def mFld (FL : List (Addr × Str)) (f : Str) (a : DE) : DE := fun δ S => (a δ S).bind fun d S1 => oR (fldD FL f S1 d) S1
def putD (f : Str) (d : D) : List (Str × D) → List (Str × D)
  | [] => [(f, d)]
  | (g, x) :: r => if g = f then (g, d) :: r else (g, x) :: putD f d r
section
variable {K : PySem.W.Frag} {W : L2.St → WK} {FL : List (Addr × Str)}
theorem lookup_cons {β : Type} (f g : Str) (v : β) (l : List (Str × β)) : List.lookup f ((g, v) :: l) = if f = g then some v else List.lookup f l := by
  rw [List.lookup]
  by_cases h : f = g
  · rw [if_pos h]
    have : (f == g) = true := by simpa using h
    rw [this]
  · rw [if_neg h]
    have : (f == g) = false := by simpa using h
    rw [this]
theorem lookD_rep {ι X : List Addr} {H : Hp} {f : Str} : ∀ {l : List (Str × D)} {xs : List (Str × V)} {d : D}, RepDF K ι X H l xs → lookD f l = some d → ∃ v, xs.lookup f = some v ∧ RepD K ι X H d v
  | [], xs, d, r, e => by cases e
  | (g, d') :: l, xs, d, ⟨y, ys, ex, h, k⟩, e => by
    unfold lookD at e
    rw [ex, lookup_cons]
    split at e
    · rename_i hfg
      cases e
      exact ⟨y, by rw [if_pos hfg], h⟩
    · rename_i hfg
      obtain ⟨v, h1, h2⟩ := lookD_rep k e
      exact ⟨v, by rw [if_neg hfg]; exact h1, h2⟩
theorem lookPf_rep {ι X : List Addr} {H : Hp} {f : Str} : ∀ {l : List (Str × P)} {xs : List (Str × V)} {d : P}, RepFs K ι X H l xs → lookPf f l = some d → ∃ v, xs.lookup f = some v ∧ RepP K ι X H d v
  | [], xs, d, r, e => by cases e
  | (g, d') :: l, xs, d, r, e => by
    rw [RepFs] at r
    obtain ⟨y, ys, ex, h, k⟩ := r
    unfold lookPf at e
    rw [ex, lookup_cons]
    split at e
    · rename_i hfg
      cases e
      exact ⟨y, by rw [if_pos hfg], h⟩
    · rename_i hfg
      obtain ⟨v, h1, h2⟩ := lookPf_rep k e
      exact ⟨v, by rw [if_neg hfg]; exact h1, h2⟩
theorem fldD_rep {ι X : List Addr} {S : Store} {H : Hp} {f : Str} {x d : D} {v : V} (FO : FlOk K FL) (rel : Rel K ι X S H) (rx : RepD K ι X H x v) (e : fldD FL f S x = some d) :
    ∃ a C dx fs w, v = .ref a ∧ H a = some (.ins C dx fs) ∧ Cls K C ∧ NoAttr K C f ∧ fs.lookup f = some w ∧ RepD K ι X H d w := by
  cases x with
  | obj i =>
    obtain ⟨a, ea, rfl⟩ := rx
    unfold fldD at e
    simp only at e
    cases es : S[i]? with
    | none => rw [es] at e; cases e
    | some o =>
      cases o with
      | lst l => simp only [es] at e; cases e
      | dic l => simp only [es] at e; cases e
      | tup l => simp only [es] at e; cases e
      | ins C l =>
        simp only [es] at e
        split at e
        · rename_i m
          obtain ⟨dx, xs, ex, rxs⟩ := rel.at_ i _ a es ea
          obtain ⟨w, ew, rw1⟩ := lookD_rep rxs e
          exact ⟨a, C, dx, xs, w, rfl, ex, (FO _ m).1, (FO _ m).2, ew, rw1⟩
        · cases e
  | dat p =>
    cases p with
    | ins C l =>
      unfold fldD at e
      simp only at e
      split at e
      · rename_i m
        cases q : lookPf f l with
        | none => rw [q] at e; cases e
        | some p =>
          rw [q] at e
          cases e
          have rx : RepP K ι X H (.ins C l) v := rx
          rw [RepP] at rx
          obtain ⟨a, dx, xs, rfl, _, _, ex, rxs⟩ := rx
          obtain ⟨w, ew, rw1⟩ := lookPf_rep rxs q
          exact ⟨a, C, dx, xs, w, rfl, ex, (FO _ m).1, (FO _ m).2, ew, rw1⟩
      · cases e
    | _ => cases e
theorem se_fld {f : Str} {ta : TE} {a : DE} (FO : FlOk K FL) (ha : SE K W ta a) : SE K W (tFld K ta f) (mFld FL f a) := by
  intro ι X S H σ δ Q rel re h
  refine ha ι X S H σ δ _ rel re (Post.bind h fun ι1 H1 x S1 v x1 rel1 rv h1 => ?_)
  obtain ⟨d, e, k⟩ := post_oR h1
  obtain ⟨a, C, dx, fs, w, h1, h2, h3, h4, h5, h6⟩ := fldD_rep FO rel1 rv e
  exact ⟨a, C, dx, fs, w, h1, h2, h3, h4, h5, k H1 w Ext.refl rel1 h6⟩
theorem putD_rep {ι X : List Addr} {H : Hp} {f : Str} {d : D} {v : V} (rd : RepD K ι X H d v) : ∀ {l : List (Str × D)} {xs : List (Str × V)}, RepDF K ι X H l xs → RepDF K ι X H (putD f d l) (putF f v xs)
  | [], xs, r => by
    rw [show xs = [] from r]
    exact ⟨v, [], rfl, rd, rfl⟩
  | (g, d') :: l, xs, ⟨y, ys, ex, h, k⟩ => by
    subst ex
    unfold putD putF
    by_cases hg : g = f
    · rw [if_pos hg, if_pos hg]
      exact ⟨v, ys, rfl, rd, k⟩
    · rw [if_neg hg, if_neg hg]
      exact ⟨y, _, rfl, h, putD_rep rd k⟩
theorem repDF_len {ι X : List Addr} {H : Hp} : ∀ {l : List (Str × D)} {xs : List (Str × V)}, RepDF K ι X H l xs → xs.length = l.length
  | [], xs, r => by rw [show xs = [] from r]; rfl
  | (g, d') :: l, xs, ⟨y, ys, ex, h, k⟩ => by rw [ex, List.length_cons, List.length_cons, repDF_len k]
def setF (FL : List (Addr × Str)) (f : Str) (x d : D) (S : Store) : Option Store := match x with
  | .obj i => match S[i]? with
    | some (.ins C l) => if (C, f) ∈ FL ∧ l.length < 1000 then some (S.set i (.ins C (putD f d l))) else none
    | _ => none
  | _ => none
def mSetF (FL : List (Addr × Str)) (f : Str) (a v : DE) : DS := fun δ S => (v δ S).st δ fun d S1 => (a δ S1).st δ fun x S2 => match setF FL f x d S2 with
  | some S3 => .ok (.nx δ) S3
  | none => .fail
theorem setF_ok {ι X : List Addr} {S S' : Store} {H : Hp} {f : Str} {x d : D} {v w : V} (FO : FlOk K FL) (rel : Rel K ι X S H) (rx : RepD K ι X H x v) (rd : RepD K ι X H d w) (e : setF FL f x d S = some S') :
    ∃ a C dx fs, v = .ref a ∧ H a = some (.ins C dx fs) ∧ Cls K C ∧ NoAttr K C f ∧ fs.length < 1000 ∧ Ext ι H ι (upd H a (.ins C dx (putF f w fs))) ∧ Rel K ι X S' (upd H a (.ins C dx (putF f w fs))) := by
  unfold setF at e
  split at e
  · rename_i i
    obtain ⟨a, ea, rfl⟩ := rx
    cases es : S[i]? with
    | none => rw [es] at e; cases e
    | some o =>
      cases o with
      | lst l => simp only [es] at e; cases e
      | dic l => simp only [es] at e; cases e
      | tup l => simp only [es] at e; cases e
      | ins C l =>
        simp only [es] at e
        split at e
        · rename_i m
          cases e
          obtain ⟨dx, xs, ex, rxs⟩ := rel.at_ i _ a es ea
          have ma : a ∈ ι := List.mem_of_getElem? ea
          have o1 : Out1 ι X H ι X (upd H a (.ins C dx (putF f w xs))) := Out1.ext ⟨⟨[], by simp⟩, fun b w n h _ => by rw [upd_ne (fun z => n (by rw [z]; exact ma))]; exact h, fun b m n => absurd m n, let ⟨_, hu0, pl0⟩ := rel.pl ma; tabs_put hu0 pl0⟩
          obtain ⟨r2, x2⟩ := rel.put (o := .ins C (putD f d l)) (u := .ins C dx (putF f w xs)) ea ⟨dx, _, upd_same, (putD_rep rd rxs).out o1⟩
          exact ⟨a, C, dx, xs, rfl, ex, (FO _ m.1).1, (FO _ m.1).2, by rw [repDF_len rxs]; exact m.2, x2, r2⟩
        · cases e
  · cases e
theorem ss_setF {f : Str} {ta tv : TE} {a v : DE} (FO : FlOk K FL) (ha : SE K W ta a) (hv : SE K W tv v) : SS K W (sFld K ta tv f) (mSetF FL f a v) := by
  intro ι X S H σ δ E rel re h
  refine hv ι X S H σ δ _ rel re (PostS.st re h fun ι1 H1 d S1 w x1 rel1 rd h1 => ?_)
  refine ha ι1 X S1 H1 σ δ _ rel1 (re.ext x1) (PostS.st (re.ext x1) h1 fun ι2 H2 x S2 u x2 rel2 rx h2 => ?_)
  cases q : setF FL f x d S2 with
  | none => simp only [q] at h2; exact h2.elim
  | some S3 =>
    simp only [q] at h2
    obtain ⟨a, C, dx, fs, e1, e2, e3, e4, e5, x3, rel3⟩ := setF_ok FO rel2 rx (rd.ext x2) q
    exact ⟨a, C, dx, fs, e1, e2, e3, e4, e5, h2 ι2 _ σ x3 rel3 (((re.ext x1).ext x2).ext x3)⟩
/-- the class of an object -/
def clsO (S : Store) : D → Option Addr
  | .obj i => match S[i]? with
    | some (.ins C _) => some C
    | _ => none
  | _ => none
theorem clsO_rep {ι X : List Addr} {S : Store} {H : Hp} {a C dx : Addr} {fs : List (Str × V)} {i : Nat} (rel : Rel K ι X S H) (rx : RepD K ι X H (.obj i) (.ref a)) (e : H a = some (.ins C dx fs)) : clsO S (.obj i) = some C := by
  obtain ⟨b, eb, ev⟩ := rx
  cases ev
  obtain ⟨o, eo, ro⟩ := rel.obj eb
  unfold clsO
  simp only [eo]
  cases o with
  | lst l => obtain ⟨xs, f, _⟩ := ro; rw [e] at f; cases f
  | dic l => obtain ⟨xs, f, _⟩ := ro; rw [e] at f; cases f
  | tup l => obtain ⟨xs, f, _⟩ := ro; rw [e] at f; cases f
  | ins C' l => obtain ⟨dx', xs, f, _⟩ := ro; rw [e] at f; cases f; rfl
/-- o.f op= e -/
def mAugF (FL : List (Addr × Str)) (f : Str) (g : Store → D → D → Option D) (a v : DE) : DS := fun δ S => (a δ S).st δ fun x S1 => match fldD FL f S1 x with
  | some old => (v δ S1).st δ fun y S2 => (match g S2 old y with
    | some z => (match setF FL f x z S2 with
      | some S3 => if clsO S1 x = clsO S2 x then .ok (.nx δ) S3 else .fail
      | none => .fail)
    | none => .fail)
  | none => .fail
theorem ss_augF {f : Str} {ta tv : TE} {g : Store → D → D → Option D} {a v : DE} {rd : V → V → Hp → VK → Prop} (FO : FlOk K FL)
    (hg : ∀ ι X S H x y v u d Q, Rel K ι X S H → RepD K ι X H x v → RepD K ι X H y u → g S x y = some d → (∀ w, RepD K ι X H d w → Q w H) → rd v u H Q) (ha : SE K W ta a) (hv : SE K W tv v) : SS K W (sFldAug K ta tv rd f) (mAugF FL f g a v) := by
  intro ι X S H σ δ E rel re h
  refine ha ι X S H σ δ _ rel re (PostS.st re h fun ι1 H1 x S1 u x1 rel1 rx h1 => ?_)
  cases q : fldD FL f S1 x with
  | none => simp only [q] at h1; exact h1.elim
  | some old =>
    simp only [q] at h1
    obtain ⟨a, C, dx, fs, w, e1, e2, e3, e4, e5, r6⟩ := fldD_rep FO rel1 rx q
    refine ⟨a, C, dx, fs, w, e1, e2, e3, e4, e5, ?_⟩
    refine hv ι1 X S1 H1 σ δ _ rel1 (re.ext x1) (PostS.st (re.ext x1) h1 fun ι2 H2 y S2 t x2 rel2 ry h2 => ?_)
    split at h2
    · rename_i z ez
      split at h2
      · rename_i S3 eS
        refine hg ι2 X S2 H2 old y w t z _ rel2 (r6.ext x2) ry ez fun zv rz => ?_
        obtain ⟨a', C', dx', fs', e1', e2', e3', e4', e5', x3, rel3⟩ := setF_ok FO rel2 (rx.ext x2) rz eS
        have ea : a' = a := by rw [e1] at e1'; cases e1'; rfl
        subst ea
        split at h2
        · rename_i hc
          -- of the same class
          have eC : C' = C := by
            cases x with
            | dat p => unfold setF at eS; cases eS
            | obj i =>
              subst e1
              have q1 := clsO_rep rel1 rx e2
              have q2 := clsO_rep rel2 (rx.ext x2) e2'
              rw [q1, q2] at hc
              exact (Option.some.inj hc).symm
          subst eC
          exact ⟨dx', fs', e2', e5', h2 ι2 _ σ x3 rel3 (((re.ext x1).ext x2).ext x3)⟩
        · exact h2.elim
      · exact h2.elim
    · exact h2.elim
def mRaise0 (C : Addr) : DS := fun δ S => .ok (.ex C none δ) S
def mRaise1 (C : Addr) (f : Str) (a : DA) : DS := fun δ S => (a δ S).st δ fun ds S1 => match ds with
  | [.dat p] => .ok (.ex C (some (f, p)) δ) S1
  | _ => .fail
theorem ss_raise0 {C : Addr} {W : WX} : SS K (wk W) (fun _ σ H => W (.ref C) none σ H) (mRaise0 C) := fun ι X S H σ δ E rel re h => h ι H none σ Ext.refl rel rfl re
theorem ss_raise1 {C : Addr} {f : Str} {W : WX} {ta : TA} {a : DA} (ha : SA K (wk W) ta a) : SS K (wk W) (fun _ σ H => ta σ H fun vs H1 => ∃ v, vs = [v] ∧ ∀ d, H1 d = none → W (.ref C) (some d) σ (upd H1 d (.xd [(f, v)]))) (mRaise1 C f a) := by
  intro ι X S H σ δ E rel re h
  refine ha ι X S H σ δ _ rel re (PostS.st re h fun ι1 H1 ds S1 vs x1 rel1 rv h1 => ?_)
  split at h1
  · rename_i p
    obtain ⟨v, rfl, r⟩ := repDs_one rv
    refine ⟨v, rfl, fun d hd => ?_⟩
    have x2 := ext_alloc (o := .xd [(f, v)]) rel1 hd
    exact h1 ι1 _ (some d) σ x2 (rel1.alloc hd) ⟨d, v, rfl, upd_same, RepP.ext x2 r⟩ ((re.ext x1).ext x2)
  · exact h1.elim
end
end M3
namespace M3
open PySem PySem.Spec PyProof.Rows L2
variable [TabsP]
section
variable {X : Cx} {K : PySem.W.Frag} {W : L2.St → WK} {CS : List Addr}
theorem call_allM (h : X.K = K) (hc : X.calm = true) : CallR X (.builtin "all") (rAll K) := h ▸ cr_all hc
theorem call_sumM (h : X.K = K) (hc : X.calm = true) : CallR X (.builtin "sum") (rSum K) := h ▸ cr_sum hc
theorem mt_indexM (h : X.K = K) : MtR X "list.index" (fun x xs H Q => rIndex K x xs H Q) := h ▸ mt_index
theorem get_K (h : X.K = K) : PGet X (rGetK K) := W2.get_listK h
theorem pe_fldK {f : Str} {e : Expr} {te : TE} {pos : Pos} (h : X.K = K) (ha : PE X e te) (hb : attributeBase e f X.env (eval e X.env) = eval e X.env := by rfl) : PE X (.Attribute e f pos) (tFld K te f) := h ▸ pe_fld ha hb
theorem pe_bmK {o e : Expr} {es : List Expr} {to : TE} {t : TA} {name : Str} {apos cpos : Pos} {T id : String} {r : V → List V → Hp → VK → Prop} (h : X.K = K) (pa : PlainAttrs T) (slot : Slot T name id) (hty : typeOf (.builtin id) = pure (.type "method_descriptor")) (hm : MtR X id r) (ho : PE X o to) (ha : PA X (e :: es) t)
    (hbase : attributeBase o name X.env (eval o X.env) = eval o X.env := by rfl)
    (hfew : ((backTo cpos (starEach (e :: es) X.env)).all (fun x => !x.1) && (backToKw cpos (keywordEach [] X.env)).all (fun x => x.1.isSome)
      && decide ((e :: es).length + ([] : List Keyword).length + (if ([] : List Keyword).isEmpty then 0 else 1) < 30)) = true := by rfl)
    (hline : (apos.endLine == cpos.line) = true := by rfl) (hs : starEach (e :: es) X.env = (false, eval e X.env) :: starEach es X.env := by rfl) (hplain : (backTo cpos (starEach es X.env)).any (·.1) = false := by rfl) :
    PE X (.Call (.Attribute o name apos) (e :: es) [] cpos) (tBM K T r to t) := h ▸ pe_bm pa slot hty hm ho ha hbase hfew hline hs hplain
def aBits : Store → D → Option D := fun _ x => match x with
  | .dat (.int i) => some (dInt (Builtin.Int.intBits i : Nat))
  | _ => none
theorem se_bits {to : TE} {a : DE} (ha : SE K W to a) : SE K W (tBits to) (mUn aBits a) := by
  intro ι X S H σ δ Q rel re h
  refine ha ι X S H σ δ _ rel re (Post.bind h fun ι1 H1 x S1 v x1 rel1 rv h1 => ?_)
  obtain ⟨d, e, k⟩ := post_oR h1
  unfold aBits at e
  split at e
  · cases e
    exact ⟨_, rI_inv rv, k H1 _ Ext.refl rel1 rd_int⟩
  · cases e
end
section
variable {K : PySem.W.Frag} {W : L2.St → WK}
def repD (n : Nat) (l : List D) : List D := (List.replicate n l).flatten
theorem repD_rep {ι X : List Addr} {H : Hp} {l : List D} {xs : List V} (r : RepDs K ι X H l xs) : ∀ n, RepDs K ι X H (repD n l) (List.replicate n xs).flatten
  | 0 => rfl
  | n + 1 => by
    unfold repD
    rw [List.replicate_succ, List.flatten_cons, List.replicate_succ, List.flatten_cons]
    exact repDs_app r (repD_rep r n)
def mMulL (a b : DE) : DA := fun δ S => (a δ S).bind fun x S1 => (b δ S1).bind fun y S2 => match listD S2 x, y with
  | some l, .dat (.int j) => if j ≤ 1000000 ∧ 0 ≤ j ∧ l.length * j.toNat ≤ 100000 then .ok (repD j.toNat l) S2 else .fail
  | _, _ => .fail
theorem sl_mulL {ta tb : TE} {a b : DE} (ha : SE K W ta a) (hb : SE K W tb b) : SL K W (tOp (rMulM K) ta tb) (mMulL a b) := by
  intro ι X S H σ δ Q rel re h
  refine ha ι X S H σ δ _ rel re (postL_of h fun ι1 H1 x S1 v x1 rel1 rv h1 => ?_)
  refine hb ι1 X S1 H1 σ δ _ rel1 (re.ext x1) ?_
  cases e : b δ S1 with
  | fail => rw [e] at h1; exact h1
  | exc C z S2 => rw [e] at h1; exact fun ι' H' da y rel rx => h1 ι' H' da (x1.trans y) rel rx
  | ok y S2 =>
    rw [e, R.bind_ok] at h1
    intro ι2 H2 u x2 rel2 ru
    split at h1
    · rename_i l j e1
      split at h1
      · rename_i hl
        obtain ⟨p, xs, rfl, f, g⟩ := listD_rep rel2 e1 (rv.ext x2)
        exact .inr (.inl ⟨p, j, xs, rfl, rI_inv ru, f, by omega, by omega, small (by rw [repDs_len g]; exact hl.2.2), fun r hr => newL (x1.trans x2) rel2 (repD_rep g _) h1 hr⟩)
      · exact h1.elim
    · exact h1.elim
def aAddI := iop (fun i j => dInt (i + j)) yes2
theorem in_add_ok : ∀ ι X S H x y v u d Q, Rel K ι X S H → RepD K ι X H x v → RepD K ι X H y u → aAddI S x y = some d → (∀ w, RepD K ι X H d w → Q w H) → rAdd v u H Q := by
  intro ι X S H x y v u d Q rel rx ry e k
  unfold aAddI iop yes2 at e
  split at e
  · rename_i i j
    rw [if_pos rfl] at e
    cases e
    exact ⟨i, j, rI_inv rx, rI_inv ry, k _ rd_int⟩
  · cases e
end
structure G where
  K : PySem.W.Frag
  CS : List Addr
  FL : List (Addr × Str)
  (ForestError BadForest NoHouse NoDeed BadDeeds NoNumber NoAsk NoShape NoTurn BadAccount NoMoment NoWeight Full BadHistory NoParcel NoRow BadRow NoCut NoBlocks NoDisk OtherForest NoThing BadThing BadText NothingDone NoLine NoName : Addr)
  (Forest Stand Kept Account Roads History Disk SavedKept Reel Work Desk : Addr)
  (FORMS FORMS_asks FORMS_deeds FORMS_histories CONSTANTS FLAGS OF_FORESTS OF_ACCOUNTS : Addr)
  /-- defs that are values -/
  V : Str → Addr := fun _ => 0
end M3
namespace M3
open PySem PySem.Spec PyProof.Rows L2
variable [TabsP]
section
variable {K : PySem.W.Frag}
def isB (b : Bool) : D → Option Bool
  | .dat (.bl c) => some (decide (c = b))
  | .dat (.con _) => none
  | _ => some false
def aIsB : Store → D → D → Option D := fun _ x y => match y with
  | .dat (.bl b) => (isB b x).map dBl
  | _ => none
end
def gFldM (K : PySem.W.Frag) (ta : TE) (f : Str) : TG := fun v σ H Q => ta σ H fun x H2 => ∃ a C dx fs, x = .ref a ∧ H2 a = some (.ins C dx fs) ∧ Cls K C ∧ NoAttr K C f ∧ fs.length < 1000 ∧ Q σ (upd H2 a (.ins C dx (putF f v fs)))
theorem pg_fldK {X : Cx} {K : PySem.W.Frag} {o : Expr} {f : Str} {pos : Pos} {ta : TE} (hK : X.K = K) (ha : PE X o ta) : PG X (.Attribute o f pos) (gFldM K ta f) := by
  subst hK
  refine ⟨fun pins s σ H v u Q I r h => ?_⟩
  rw [assign_Attribute]
  refine wpAny_bind (wpAny_holding (thn (ha.run pins s σ H _ I h) fun ov s1 ⟨x, H1, I1, rx, a, C, dx, fs, ex, ea, c, n, l, q⟩ => ?_))
  subst ex
  obtain rfl : ov = Value.ref a := rx
  refine wpAny_bind (wpAny_standAt (wpAny_bind (wpAny_holding ?_)))
  refine setattr_ok I1 ea c n l r fun s3 I3 => ?_
  exact wpAny_release ⟨σ, _, I3, q⟩
section
variable {K : PySem.W.Frag} {W : L2.St → WK} {FL : List (Addr × Str)}
def gmFld (FL : List (Addr × Str)) (f : Str) (a : DE) : DG := fun d δ S => (a δ S).bind fun x S1 => match setF FL f x d S1 with
  | some S2 => .ok δ S2
  | none => .fail
theorem sg_fld {f : Str} {ta : TE} {a : DE} (FO : FlOk K FL) (ha : SE K W ta a) : SG K W (gFldM K ta f) (gmFld FL f a) := by
  intro ι X S H σ δ d w N rel re rd h
  refine ha ι X S H σ δ _ rel re (Post.bind h fun ι1 H1 x S1 v x1 rel1 rv h1 => ?_)
  cases q : setF FL f x d S1 with
  | none => simp only [q] at h1; exact h1.elim
  | some S2 =>
    simp only [q] at h1
    obtain ⟨a, C, dx, fs, e1, e2, e3, e4, e5, x2, rel2⟩ := setF_ok FO rel1 rv (rd.ext x1) q
    exact ⟨a, C, dx, fs, e1, e2, e3, e4, e5, h1 ι1 _ σ x2 rel2 ((re.ext x1).ext x2)⟩
end
section
variable {X : Cx} {C f : Addr} {k j : Nat} {fd : FuncData} {ps : List Str} {sp : Sp} {x : Str} {e : Expr} {es : List Expr} {t : TA} {p pos : Pos}
theorem pe_makeF (M : Mk X.K C f) (F : FnOk X.prog X.w X.K X.mg X.base (L2.CX X.prog X.w) k f fd ps sp) (hr : Room (k + 1) X.A) (hg : Gl X x) (hm : X.mg x = some (.ref C)) (hb : Binds X.K fd ps [])
    (ha : PA X (e :: es) t) (hdb : (x == ("__debug__" : Str)) = false := by decide) (he : starEach (e :: es) X.env = (false, eval e X.env) :: starEach es X.env := by rfl) (hpl : (backTo pos (starEach es X.env)).any (·.1) = false := by rfl) :
    PE X (.Call (.Name x p) (e :: es) [] pos) (tMakeS C sp (fun _ => E0) t) := pe_makeS M F hr hg hm hb (fun _ pins H s e s' _ ⟨_, _, _, _, _, _, _, _, _, _, _, _, h⟩ => h.elim) ha hdb he hpl
end
end M3
namespace M3
open PySem PySem.Spec PyProof.Rows L2
variable [TabsP]
inductive AllM {α : Type} (p : α → Prop) : List α → Prop
  | nil : AllM p []
  | cons {a : α} {l : List α} (h : p a) (t : AllM p l) : AllM p (a :: l)
theorem AllM.mem {α : Type} {p : α → Prop} {l : List α} (h : AllM p l) : ∀ a ∈ l, p a := by
  induction h with
  | nil => exact fun _ m => nomatch m
  | cons h t ih =>
    intro a m
    cases m with
    | head => exact h
    | tail _ m => exact ih a m
theorem ownCs_mk {K : PySem.W.Frag} {l : List Addr} (h : AllM (OwnC K) l) : OwnCs K l := h.mem
theorem flOk_mk {K : PySem.W.Frag} {l : List (Addr × Str)} (h : AllM (fun z => Cls K z.1 ∧ NoAttr K z.1 z.2) l) : FlOk K l := h.mem
/-- an error of the class at S, and what «except D» names -/
theorem exm_ab {K : PySem.W.Frag} {S D : Addr} (b : Bool) (h1 : PySem.W.subIn K (.ref D) (.type "BaseException") = some true) (h2 : PySem.W.isClsIn K D = true) (h3 : PySem.W.typeIn K (.ref D) = some (.type "type")) (h4 : PySem.W.subIn K (.ref S) (.ref D) = some b) :
    PySem.W.exmOne K (.ref S) (.ref D) = some b := by
  have e1 : (PySem.W.subIn K (.ref D) (.type "BaseException") == some true) = true := by rw [h1] <;> rfl
  have e2 : ((PySem.W.clsIn K D).isSome && PySem.W.typeIn K (.ref D) == some (.type "type")) = true := by
    have h2' : (PySem.W.clsIn K D).isSome = true := h2
    rw [h2', h3] <;> rfl
  show (if (PySem.W.subIn K (.ref D) (.type "BaseException") == some true) = true then (if ((PySem.W.clsIn K D).isSome && PySem.W.typeIn K (.ref D) == some (.type "type")) = true then PySem.W.subIn K (.ref S) (.ref D) else none) else none) = some b
  rw [if_pos e1, if_pos e2]
  exact h4
/-- what the law promises -/
def spLaw (K : PySem.W.Frag) : Sp := fun vs H Q _ => ∃ (a : Addr) (ns : List Int), vs = [.ref a] ∧ SqL K H a (ns.map V.int) ∧ ns.length ≤ 63 ∧ LamX.Tabs TabsP.T H ∧ ∀ H', Q (.bl true) H'
theorem law_sp {K : PySem.W.Frag} {m : List D → Store → R D} (h : ∀ ns : List Int, ns.length ≤ 63 → ∃ S, m [.dat (.scr ns)] [] = .ok (.dat (.bl true)) S) : ∀ vs H Q E, spLaw K vs H Q E → spM K 1 m vs H Q E := by
  rintro vs H Q E ⟨a, ns, rfl, hs, hl, ht, hq⟩
  obtain ⟨S, e⟩ := h ns hl
  refine ⟨rfl, [], [], [], [.dat (.scr ns)], ⟨rfl, List.nodup_nil, fun i o a e => by simp at e, fun a m => by simp at m, ht⟩, ?_, ?_⟩
  · refine ⟨.ref a, [], rfl, ?_, rfl⟩
    show RepP K [] [] H (.scr ns) _
    rw [RepP]
    refine ⟨a, rfl, hs.imp (fun x => ⟨by simp, by simp, x⟩) id⟩
  · rw [e]
    intro ι' H' v _ _ rv
    have := rB_inv rv
    rw [this]
    exact hq H'
end M3
namespace M3
open PySem PySem.Spec PyProof.Rows L2
variable [TabsP]
/-- the end of a def -/
def fin (r : R Out) : R D := match r with
  | .ok (.nx _) S' => .ok (.dat .non) S'
  | .ok (.rt d) S' => .ok d S'
  | .ok (.ex C x _) S' => .exc C x S'
  | _ => .fail
theorem mBody_fin {N : Nat} {b : DS} {ds : List D} {S : Store} : mBody N b ds S = fin (b (ds.map some ++ List.replicate (N - ds.length) none) S) := rfl
theorem fin_nx {δ : DEnv} {S : Store} : fin (.ok (.nx δ) S) = .ok (.dat .non) S := rfl
theorem fin_rt {d : D} {S : Store} : fin (.ok (.rt d) S) = .ok d S := rfl
theorem fin_ex {C : Addr} {x : Option (Str × P)} {δ : DEnv} {S : Store} : fin (.ok (.ex C x δ) S) = .exc C x S := rfl
/-- one statement, then the rest -/
def thenS (r : R Out) (b : DS) : R Out := match r with
  | .ok (.nx δ1) S1 => b δ1 S1
  | r => r
theorem mSeq_then {a b : DS} {δ : DEnv} {S : Store} : mSeq a b δ S = thenS (a δ S) b := rfl
theorem then_nx {δ : DEnv} {S : Store} {b : DS} : thenS (.ok (.nx δ) S) b = b δ S := rfl
theorem then_rt {d : D} {S : Store} {b : DS} : thenS (.ok (.rt d) S) b = .ok (.rt d) S := rfl
theorem then_bk {δ : DEnv} {S : Store} {b : DS} : thenS (.ok (.bk δ) S) b = .ok (.bk δ) S := rfl
theorem then_ct {δ : DEnv} {S : Store} {b : DS} : thenS (.ok (.ct δ) S) b = .ok (.ct δ) S := rfl
theorem then_ex {C : Addr} {x : Option (Str × P)} {δ : DEnv} {S : Store} {b : DS} : thenS (.ok (.ex C x δ) S) b = .ok (.ex C x δ) S := rfl
/-- which way -/
def pick2 {α : Type} (x : Bool) (a b : α) : α := match x with
  | true => a
  | false => b
theorem mIfS_eq {c : DT} {a b : DS} {δ : DEnv} {S : Store} : mIfS c a b δ S = (c δ S).st δ fun x S1 => pick2 x a b δ S1 := by
  unfold mIfS pick2
  cases c δ S with
  | ok x S1 => cases x <;> rfl
  | _ => rfl
theorem mIf_eq {c : DT} {a b : DE} {δ : DEnv} {S : Store} : mIf c a b δ S = (c δ S).bind fun x S1 => pick2 x a b δ S1 := by
  unfold mIf pick2
  cases c δ S with
  | ok x S1 => cases x <;> rfl
  | _ => rfl
theorem mAndT_eq {a b : DT} {δ : DEnv} {S : Store} : mAndT a b δ S = (a δ S).bind fun x S1 => pick2 x (b δ S1) (.ok false S1) := by
  unfold mAndT pick2
  cases a δ S with
  | ok x S1 => cases x <;> rfl
  | _ => rfl
theorem mOrT_eq {a b : DT} {δ : DEnv} {S : Store} : mOrT a b δ S = (a δ S).bind fun x S1 => pick2 x (.ok true S1) (b δ S1) := by
  unfold mOrT pick2
  cases a δ S with
  | ok x S1 => cases x <;> rfl
  | _ => rfl
def andK (x : D) (b : R D) (S : Store) : R D := match asB x with
  | some true => b
  | some false => .ok (.dat (.bl false)) S
  | none => .fail
def orK (x : D) (b : R D) (S : Store) : R D := match asB x with
  | some true => .ok (.dat (.bl true)) S
  | some false => b
  | none => .fail
theorem mAnd_eq {a b : DE} {δ : DEnv} {S : Store} : mAnd a b δ S = (a δ S).bind fun x S1 => andK x (b δ S1) S1 := rfl
theorem mOr_eq {a b : DE} {δ : DEnv} {S : Store} : mOr a b δ S = (a δ S).bind fun x S1 => orK x (b δ S1) S1 := rfl
theorem mChain_eq {f h : Store → D → D → Option D} {a b c : DE} {δ : DEnv} {S : Store} : mChain f h a b c δ S = (a δ S).bind fun x S1 => (b δ S1).bind fun y S2 => (oR (f S2 x y) S2).bind fun z S3 => andK z ((c δ S3).bind fun w S4 => oR (h S4 y w) S4) S3 := rfl
theorem andK_t {b : R D} {S : Store} : andK (.dat (.bl true)) b S = b := rfl
theorem andK_f {b : R D} {S : Store} : andK (.dat (.bl false)) b S = .ok (.dat (.bl false)) S := rfl
theorem andK_ok {x y : Bool} {S : Store} : andK (.dat (.bl x)) (.ok (.dat (.bl y)) S) S = .ok (.dat (.bl (x && y))) S := by cases x <;> rfl
theorem orK_t {b : R D} {S : Store} : orK (.dat (.bl true)) b S = .ok (.dat (.bl true)) S := rfl
theorem orK_f {b : R D} {S : Store} : orK (.dat (.bl false)) b S = b := rfl
theorem orK_ok {x y : Bool} {S : Store} : orK (.dat (.bl x)) (.ok (.dat (.bl y)) S) S = .ok (.dat (.bl (x || y))) S := by cases x <;> rfl
theorem pick2_t {α : Type} {a b : α} : pick2 true a b = a := rfl
theorem pick2_f {α : Type} {a b : α} : pick2 false a b = b := rfl
theorem mNot_b {a : DE} {δ : DEnv} {S : Store} : mNot a δ S = (a δ S).bind fun x S1 => match asB x with
  | some b => .ok (.dat (.bl (!b))) S1
  | none => .fail := rfl
section
variable {K : PySem.W.Frag} {CS : List Addr} {S : Store}
theorem isi_non_int  : aIsi K CS S [.dat .non, .dat (.con (.ty "int"))] = some (.dat (.bl false)) := by
  show (PySem.W.kitOne K (.type "NoneType") (.type "int")).map dBl = _
  rw [kit_ty (r := false) (by decide +kernel)]; rfl
theorem isi_non_bool  : aIsi K CS S [.dat .non, .dat (.con (.ty "bool"))] = some (.dat (.bl false)) := by
  show (PySem.W.kitOne K (.type "NoneType") (.type "bool")).map dBl = _
  rw [kit_ty (r := false) (by decide +kernel)]; rfl
theorem isi_non_str  : aIsi K CS S [.dat .non, .dat (.con (.ty "str"))] = some (.dat (.bl false)) := by
  show (PySem.W.kitOne K (.type "NoneType") (.type "str")).map dBl = _
  rw [kit_ty (r := false) (by decide +kernel)]; rfl
theorem isi_non_tuple  : aIsi K CS S [.dat .non, .dat (.con (.ty "tuple"))] = some (.dat (.bl false)) := by
  show (PySem.W.kitOne K (.type "NoneType") (.type "tuple")).map dBl = _
  rw [kit_ty (r := false) (by decide +kernel)]; rfl
theorem isi_non_list  : aIsi K CS S [.dat .non, .dat (.con (.ty "list"))] = some (.dat (.bl false)) := by
  show (PySem.W.kitOne K (.type "NoneType") (.type "list")).map dBl = _
  rw [kit_ty (r := false) (by decide +kernel)]; rfl
theorem isi_non_dict  : aIsi K CS S [.dat .non, .dat (.con (.ty "dict"))] = some (.dat (.bl false)) := by
  show (PySem.W.kitOne K (.type "NoneType") (.type "dict")).map dBl = _
  rw [kit_ty (r := false) (by decide +kernel)]; rfl
theorem isi_bl_int {b : Bool} : aIsi K CS S [.dat (.bl b), .dat (.con (.ty "int"))] = some (.dat (.bl true)) := by
  show (PySem.W.kitOne K (.type "bool") (.type "int")).map dBl = _
  rw [kit_ty (r := true) (by decide +kernel)]; rfl
theorem isi_bl_bool {b : Bool} : aIsi K CS S [.dat (.bl b), .dat (.con (.ty "bool"))] = some (.dat (.bl true)) := by
  show (PySem.W.kitOne K (.type "bool") (.type "bool")).map dBl = _
  rw [kit_ty (r := true) (by decide +kernel)]; rfl
theorem isi_bl_str {b : Bool} : aIsi K CS S [.dat (.bl b), .dat (.con (.ty "str"))] = some (.dat (.bl false)) := by
  show (PySem.W.kitOne K (.type "bool") (.type "str")).map dBl = _
  rw [kit_ty (r := false) (by decide +kernel)]; rfl
theorem isi_bl_tuple {b : Bool} : aIsi K CS S [.dat (.bl b), .dat (.con (.ty "tuple"))] = some (.dat (.bl false)) := by
  show (PySem.W.kitOne K (.type "bool") (.type "tuple")).map dBl = _
  rw [kit_ty (r := false) (by decide +kernel)]; rfl
theorem isi_bl_list {b : Bool} : aIsi K CS S [.dat (.bl b), .dat (.con (.ty "list"))] = some (.dat (.bl false)) := by
  show (PySem.W.kitOne K (.type "bool") (.type "list")).map dBl = _
  rw [kit_ty (r := false) (by decide +kernel)]; rfl
theorem isi_bl_dict {b : Bool} : aIsi K CS S [.dat (.bl b), .dat (.con (.ty "dict"))] = some (.dat (.bl false)) := by
  show (PySem.W.kitOne K (.type "bool") (.type "dict")).map dBl = _
  rw [kit_ty (r := false) (by decide +kernel)]; rfl
theorem isi_int_int {i : Int} : aIsi K CS S [.dat (.int i), .dat (.con (.ty "int"))] = some (.dat (.bl true)) := by
  show (PySem.W.kitOne K (.type "int") (.type "int")).map dBl = _
  rw [kit_ty (r := true) (by decide +kernel)]; rfl
theorem isi_int_bool {i : Int} : aIsi K CS S [.dat (.int i), .dat (.con (.ty "bool"))] = some (.dat (.bl false)) := by
  show (PySem.W.kitOne K (.type "int") (.type "bool")).map dBl = _
  rw [kit_ty (r := false) (by decide +kernel)]; rfl
theorem isi_int_str {i : Int} : aIsi K CS S [.dat (.int i), .dat (.con (.ty "str"))] = some (.dat (.bl false)) := by
  show (PySem.W.kitOne K (.type "int") (.type "str")).map dBl = _
  rw [kit_ty (r := false) (by decide +kernel)]; rfl
theorem isi_int_tuple {i : Int} : aIsi K CS S [.dat (.int i), .dat (.con (.ty "tuple"))] = some (.dat (.bl false)) := by
  show (PySem.W.kitOne K (.type "int") (.type "tuple")).map dBl = _
  rw [kit_ty (r := false) (by decide +kernel)]; rfl
theorem isi_int_list {i : Int} : aIsi K CS S [.dat (.int i), .dat (.con (.ty "list"))] = some (.dat (.bl false)) := by
  show (PySem.W.kitOne K (.type "int") (.type "list")).map dBl = _
  rw [kit_ty (r := false) (by decide +kernel)]; rfl
theorem isi_int_dict {i : Int} : aIsi K CS S [.dat (.int i), .dat (.con (.ty "dict"))] = some (.dat (.bl false)) := by
  show (PySem.W.kitOne K (.type "int") (.type "dict")).map dBl = _
  rw [kit_ty (r := false) (by decide +kernel)]; rfl
theorem isi_str_int {z : Str} : aIsi K CS S [.dat (.str z), .dat (.con (.ty "int"))] = some (.dat (.bl false)) := by
  show (PySem.W.kitOne K (.type "str") (.type "int")).map dBl = _
  rw [kit_ty (r := false) (by decide +kernel)]; rfl
theorem isi_str_bool {z : Str} : aIsi K CS S [.dat (.str z), .dat (.con (.ty "bool"))] = some (.dat (.bl false)) := by
  show (PySem.W.kitOne K (.type "str") (.type "bool")).map dBl = _
  rw [kit_ty (r := false) (by decide +kernel)]; rfl
theorem isi_str_str {z : Str} : aIsi K CS S [.dat (.str z), .dat (.con (.ty "str"))] = some (.dat (.bl true)) := by
  show (PySem.W.kitOne K (.type "str") (.type "str")).map dBl = _
  rw [kit_ty (r := true) (by decide +kernel)]; rfl
theorem isi_str_tuple {z : Str} : aIsi K CS S [.dat (.str z), .dat (.con (.ty "tuple"))] = some (.dat (.bl false)) := by
  show (PySem.W.kitOne K (.type "str") (.type "tuple")).map dBl = _
  rw [kit_ty (r := false) (by decide +kernel)]; rfl
theorem isi_str_list {z : Str} : aIsi K CS S [.dat (.str z), .dat (.con (.ty "list"))] = some (.dat (.bl false)) := by
  show (PySem.W.kitOne K (.type "str") (.type "list")).map dBl = _
  rw [kit_ty (r := false) (by decide +kernel)]; rfl
theorem isi_str_dict {z : Str} : aIsi K CS S [.dat (.str z), .dat (.con (.ty "dict"))] = some (.dat (.bl false)) := by
  show (PySem.W.kitOne K (.type "str") (.type "dict")).map dBl = _
  rw [kit_ty (r := false) (by decide +kernel)]; rfl
theorem isi_tup_int {l : List P} : aIsi K CS S [.dat (.tup l), .dat (.con (.ty "int"))] = some (.dat (.bl false)) := by
  show (PySem.W.kitOne K (.type "tuple") (.type "int")).map dBl = _
  rw [kit_ty (r := false) (by decide +kernel)]; rfl
theorem isi_tup_bool {l : List P} : aIsi K CS S [.dat (.tup l), .dat (.con (.ty "bool"))] = some (.dat (.bl false)) := by
  show (PySem.W.kitOne K (.type "tuple") (.type "bool")).map dBl = _
  rw [kit_ty (r := false) (by decide +kernel)]; rfl
theorem isi_tup_str {l : List P} : aIsi K CS S [.dat (.tup l), .dat (.con (.ty "str"))] = some (.dat (.bl false)) := by
  show (PySem.W.kitOne K (.type "tuple") (.type "str")).map dBl = _
  rw [kit_ty (r := false) (by decide +kernel)]; rfl
theorem isi_tup_tuple {l : List P} : aIsi K CS S [.dat (.tup l), .dat (.con (.ty "tuple"))] = some (.dat (.bl true)) := by
  show (PySem.W.kitOne K (.type "tuple") (.type "tuple")).map dBl = _
  rw [kit_ty (r := true) (by decide +kernel)]; rfl
theorem isi_tup_list {l : List P} : aIsi K CS S [.dat (.tup l), .dat (.con (.ty "list"))] = some (.dat (.bl false)) := by
  show (PySem.W.kitOne K (.type "tuple") (.type "list")).map dBl = _
  rw [kit_ty (r := false) (by decide +kernel)]; rfl
theorem isi_tup_dict {l : List P} : aIsi K CS S [.dat (.tup l), .dat (.con (.ty "dict"))] = some (.dat (.bl false)) := by
  show (PySem.W.kitOne K (.type "tuple") (.type "dict")).map dBl = _
  rw [kit_ty (r := false) (by decide +kernel)]; rfl
theorem isi_lst_int {l : List P} : aIsi K CS S [.dat (.lst l), .dat (.con (.ty "int"))] = some (.dat (.bl false)) := by
  show (PySem.W.kitOne K (.type "list") (.type "int")).map dBl = _
  rw [kit_ty (r := false) (by decide +kernel)]; rfl
theorem isi_lst_bool {l : List P} : aIsi K CS S [.dat (.lst l), .dat (.con (.ty "bool"))] = some (.dat (.bl false)) := by
  show (PySem.W.kitOne K (.type "list") (.type "bool")).map dBl = _
  rw [kit_ty (r := false) (by decide +kernel)]; rfl
theorem isi_lst_str {l : List P} : aIsi K CS S [.dat (.lst l), .dat (.con (.ty "str"))] = some (.dat (.bl false)) := by
  show (PySem.W.kitOne K (.type "list") (.type "str")).map dBl = _
  rw [kit_ty (r := false) (by decide +kernel)]; rfl
theorem isi_lst_tuple {l : List P} : aIsi K CS S [.dat (.lst l), .dat (.con (.ty "tuple"))] = some (.dat (.bl false)) := by
  show (PySem.W.kitOne K (.type "list") (.type "tuple")).map dBl = _
  rw [kit_ty (r := false) (by decide +kernel)]; rfl
theorem isi_lst_list {l : List P} : aIsi K CS S [.dat (.lst l), .dat (.con (.ty "list"))] = some (.dat (.bl true)) := by
  show (PySem.W.kitOne K (.type "list") (.type "list")).map dBl = _
  rw [kit_ty (r := true) (by decide +kernel)]; rfl
theorem isi_lst_dict {l : List P} : aIsi K CS S [.dat (.lst l), .dat (.con (.ty "dict"))] = some (.dat (.bl false)) := by
  show (PySem.W.kitOne K (.type "list") (.type "dict")).map dBl = _
  rw [kit_ty (r := false) (by decide +kernel)]; rfl
theorem isi_dic_int {l : List (P × P)} : aIsi K CS S [.dat (.dic l), .dat (.con (.ty "int"))] = some (.dat (.bl false)) := by
  show (PySem.W.kitOne K (.type "dict") (.type "int")).map dBl = _
  rw [kit_ty (r := false) (by decide +kernel)]; rfl
theorem isi_dic_bool {l : List (P × P)} : aIsi K CS S [.dat (.dic l), .dat (.con (.ty "bool"))] = some (.dat (.bl false)) := by
  show (PySem.W.kitOne K (.type "dict") (.type "bool")).map dBl = _
  rw [kit_ty (r := false) (by decide +kernel)]; rfl
theorem isi_dic_str {l : List (P × P)} : aIsi K CS S [.dat (.dic l), .dat (.con (.ty "str"))] = some (.dat (.bl false)) := by
  show (PySem.W.kitOne K (.type "dict") (.type "str")).map dBl = _
  rw [kit_ty (r := false) (by decide +kernel)]; rfl
theorem isi_dic_tuple {l : List (P × P)} : aIsi K CS S [.dat (.dic l), .dat (.con (.ty "tuple"))] = some (.dat (.bl false)) := by
  show (PySem.W.kitOne K (.type "dict") (.type "tuple")).map dBl = _
  rw [kit_ty (r := false) (by decide +kernel)]; rfl
theorem isi_dic_list {l : List (P × P)} : aIsi K CS S [.dat (.dic l), .dat (.con (.ty "list"))] = some (.dat (.bl false)) := by
  show (PySem.W.kitOne K (.type "dict") (.type "list")).map dBl = _
  rw [kit_ty (r := false) (by decide +kernel)]; rfl
theorem isi_dic_dict {l : List (P × P)} : aIsi K CS S [.dat (.dic l), .dat (.con (.ty "dict"))] = some (.dat (.bl true)) := by
  show (PySem.W.kitOne K (.type "dict") (.type "dict")).map dBl = _
  rw [kit_ty (r := true) (by decide +kernel)]; rfl
theorem isi_scr_int {l : List Int} : aIsi K CS S [.dat (.scr l), .dat (.con (.ty "int"))] = some (.dat (.bl false)) := by
  show (PySem.W.kitOne K (.type "list") (.type "int")).map dBl = _
  rw [kit_ty (r := false) (by decide +kernel)]; rfl
theorem isi_scr_bool {l : List Int} : aIsi K CS S [.dat (.scr l), .dat (.con (.ty "bool"))] = some (.dat (.bl false)) := by
  show (PySem.W.kitOne K (.type "list") (.type "bool")).map dBl = _
  rw [kit_ty (r := false) (by decide +kernel)]; rfl
theorem isi_scr_str {l : List Int} : aIsi K CS S [.dat (.scr l), .dat (.con (.ty "str"))] = some (.dat (.bl false)) := by
  show (PySem.W.kitOne K (.type "list") (.type "str")).map dBl = _
  rw [kit_ty (r := false) (by decide +kernel)]; rfl
theorem isi_scr_tuple {l : List Int} : aIsi K CS S [.dat (.scr l), .dat (.con (.ty "tuple"))] = some (.dat (.bl false)) := by
  show (PySem.W.kitOne K (.type "list") (.type "tuple")).map dBl = _
  rw [kit_ty (r := false) (by decide +kernel)]; rfl
theorem isi_scr_list {l : List Int} : aIsi K CS S [.dat (.scr l), .dat (.con (.ty "list"))] = some (.dat (.bl true)) := by
  show (PySem.W.kitOne K (.type "list") (.type "list")).map dBl = _
  rw [kit_ty (r := true) (by decide +kernel)]; rfl
theorem isi_scr_dict {l : List Int} : aIsi K CS S [.dat (.scr l), .dat (.con (.ty "dict"))] = some (.dat (.bl false)) := by
  show (PySem.W.kitOne K (.type "list") (.type "dict")).map dBl = _
  rw [kit_ty (r := false) (by decide +kernel)]; rfl
end
section
variable {S : Store} {i j : Int}
theorem add_ii : aAdd S (.dat (.int i)) (.dat (.int j)) = some (.dat (.int (i + j))) := rfl
theorem sub_ii : aSub S (.dat (.int i)) (.dat (.int j)) = some (.dat (.int (i - j))) := rfl
theorem lt_ii : aLt S (.dat (.int i)) (.dat (.int j)) = some (.dat (.bl (decide (i < j)))) := rfl
theorem le_ii : aLe S (.dat (.int i)) (.dat (.int j)) = some (.dat (.bl (decide (i ≤ j)))) := rfl
theorem gt_ii : aGt S (.dat (.int i)) (.dat (.int j)) = some (.dat (.bl (decide (j < i)))) := rfl
theorem ge_ii : aGe S (.dat (.int i)) (.dat (.int j)) = some (.dat (.bl (decide (j ≤ i)))) := rfl
theorem mul_ii : aMul S (.dat (.int i)) (.dat (.int j)) = if cMul i j = true then some (.dat (.int (i * j))) else none := rfl
theorem mul_l (h : i.natAbs < 2 ^ 64) : aMul S (.dat (.int i)) (.dat (.int j)) = some (.dat (.int (i * j))) := by rw [mul_ii, if_pos (by unfold cMul; simp [h])]
theorem mul_r (h : j.natAbs < 2 ^ 64) : aMul S (.dat (.int i)) (.dat (.int j)) = some (.dat (.int (i * j))) := by rw [mul_ii, if_pos (by unfold cMul; simp [h])]
theorem mod_ii (h : 0 < j) : aMod S (.dat (.int i)) (.dat (.int j)) = some (.dat (.int (i % j))) := by show (if decide (0 < j) = true then _ else _) = _; rw [if_pos (by simpa using h)]; rfl
theorem div_ii (h : 0 < j) (h2 : j < 2 ^ 64) : aDiv S (.dat (.int i)) (.dat (.int j)) = some (.dat (.int (i / j))) := by
  show (if (decide (0 < j) && decide (j.natAbs.log2 < 9000)) = true then _ else _) = _
  have q : j.natAbs.log2 < 64 := (Nat.log2_lt (by omega)).mpr (by omega)
  rw [if_pos (by rw [Bool.and_eq_true]; exact ⟨decide_eq_true h, decide_eq_true (by omega)⟩)]; rfl
theorem pow_ii (h : 0 ≤ j) (h1 : j ≤ 1000000) (h2 : i.natAbs < 2 ^ 64) : aPow S (.dat (.int i)) (.dat (.int j)) = some (.dat (.int (i ^ j.toNat))) := by
  show (if _ = true then _ else _) = _
  rw [if_pos (by rw [Bool.and_eq_true, Bool.and_eq_true]; exact ⟨⟨decide_eq_true h, decide_eq_true h1⟩, decide_eq_true h2⟩)]; rfl
theorem neg_i : aNeg S (.dat (.int i)) = some (.dat (.int (-i))) := rfl
theorem eq_ii : aEq S (.dat (.int i)) (.dat (.int j)) = some (.dat (.bl (decide (i = j)))) := rfl
theorem ne_ii : aNe S (.dat (.int i)) (.dat (.int j)) = some (.dat (.bl (!decide (i = j)))) := rfl
theorem eq_ss {s z : Str} : aEq S (.dat (.str s)) (.dat (.str z)) = some (.dat (.bl (decide (s = z)))) := rfl
theorem ne_ss {s z : Str} : aNe S (.dat (.str s)) (.dat (.str z)) = some (.dat (.bl (!decide (s = z)))) := rfl
theorem eq_bb {a b : Bool} : aEq S (.dat (.bl a)) (.dat (.bl b)) = some (.dat (.bl (decide (a = b)))) := rfl
theorem ne_bb {a b : Bool} : aNe S (.dat (.bl a)) (.dat (.bl b)) = some (.dat (.bl (!decide (a = b)))) := rfl
theorem isN_n : aIsN S (.dat .non) (.dat .non) = some (.dat (.bl true)) := rfl
theorem notN_n : aNotN S (.dat .non) (.dat .non) = some (.dat (.bl false)) := rfl
theorem isN_i : aIsN S (.dat (.int i)) (.dat .non) = some (.dat (.bl false)) := rfl
theorem notN_i : aNotN S (.dat (.int i)) (.dat .non) = some (.dat (.bl true)) := rfl
theorem isN_b {b : Bool} : aIsN S (.dat (.bl b)) (.dat .non) = some (.dat (.bl false)) := rfl
theorem notN_b {b : Bool} : aNotN S (.dat (.bl b)) (.dat .non) = some (.dat (.bl true)) := rfl
theorem isN_s {b : Str} : aIsN S (.dat (.str b)) (.dat .non) = some (.dat (.bl false)) := rfl
theorem notN_s {b : Str} : aNotN S (.dat (.str b)) (.dat .non) = some (.dat (.bl true)) := rfl
theorem isN_t {b : List P} : aIsN S (.dat (.tup b)) (.dat .non) = some (.dat (.bl false)) := rfl
theorem notN_t {b : List P} : aNotN S (.dat (.tup b)) (.dat .non) = some (.dat (.bl true)) := rfl
theorem isN_l {b : List P} : aIsN S (.dat (.lst b)) (.dat .non) = some (.dat (.bl false)) := rfl
theorem notN_l {b : List P} : aNotN S (.dat (.lst b)) (.dat .non) = some (.dat (.bl true)) := rfl
theorem isB_n {c : Bool} : aIsB S (.dat .non) (.dat (.bl c)) = some (.dat (.bl false)) := rfl
theorem isB_i {c : Bool} : aIsB S (.dat (.int i)) (.dat (.bl c)) = some (.dat (.bl false)) := rfl
theorem isB_b {b c : Bool} : aIsB S (.dat (.bl b)) (.dat (.bl c)) = some (.dat (.bl (decide (b = c)))) := rfl
theorem isB_s {b : Str} {c : Bool} : aIsB S (.dat (.str b)) (.dat (.bl c)) = some (.dat (.bl false)) := rfl
theorem isB_t {b : List P} {c : Bool} : aIsB S (.dat (.tup b)) (.dat (.bl c)) = some (.dat (.bl false)) := rfl
theorem isB_l {b : List P} {c : Bool} : aIsB S (.dat (.lst b)) (.dat (.bl c)) = some (.dat (.bl false)) := rfl
theorem int_i : aInt S [.dat (.int i)] = some (.dat (.int i)) := rfl
theorem int_b {b : Bool} : aInt S [.dat (.bl b)] = some (.dat (.int (if b then 1 else 0))) := rfl
theorem max_ii : aMax S [.dat (.int i), .dat (.int j)] = some (.dat (.int (if j > i then j else i))) := rfl
theorem min_ii : aMin S [.dat (.int i), .dat (.int j)] = some (.dat (.int (if j < i then j else i))) := rfl
theorem seqD_t {l : List P} : seqD S (.dat (.tup l)) = some (l.map .dat) := rfl
theorem seqP_t {l : List P} : seqP S (.dat (.tup l)) = some l := by show datAll _ = _; exact datAll_map l
theorem listP_l {l : List P} : listP S (.dat (.lst l)) = some l := by show datAll _ = _; exact datAll_map l
theorem len_t {l : List P} : aLen S [.dat (.tup l)] = some (.dat (.int l.length)) := by show some (dInt ((l.map D.dat).length : Nat)) = _; rw [List.length_map]; rfl
theorem len_l {l : List P} : aLen S [.dat (.lst l)] = some (.dat (.int l.length)) := by show some (dInt ((l.map D.dat).length : Nat)) = _; rw [List.length_map]; rfl
theorem len_scr {l : List Int} : aLen S [.dat (.scr l)] = some (.dat (.int l.length)) := by show some (dInt ((l.map fun i => D.dat (.int i)).length : Nat)) = _; rw [List.length_map]; rfl
theorem len_o {o : Nat} {l : List D} (h : S[o]? = some (.lst l)) : aLen S [.obj o] = some (.dat (.int l.length)) := by
  have q : seqD S (.obj o) = some l := by show (match S[o]? with | some (.lst l) => some l | _ => none) = _; rw [h]
  show (seqD S (.obj o)).map _ = _
  rw [q]; rfl
theorem tuple_l {l : List P} : aTuple S [.dat (.lst l)] = some (.dat (.tup l)) := by show (listP S _).map _ = _; rw [listP_l]; rfl
theorem tuple_t {l : List P} : aTuple S [.dat (.tup l)] = some (.dat (.tup l)) := rfl
theorem listP_o {o : Nat} {l : List P} (h : S[o]? = some (.lst (l.map .dat))) : listP S (.obj o) = some l := by
  show (match S[o]? with | some (.lst l) => some l | _ => none : Option (List D)).bind datAll = _
  rw [h]; exact datAll_map l
theorem tuple_o {o : Nat} {l : List P} (h : S[o]? = some (.lst (l.map .dat))) : aTuple S [.obj o] = some (.dat (.tup l)) := by show (listP S _).map _ = _; rw [listP_o h]; rfl
theorem add_tt {l k : List P} (h : l.length + k.length ≤ 100000) : aAdd S (.dat (.tup l)) (.dat (.tup k)) = some (.dat (.tup (l ++ k))) := if_pos h
theorem add_ll {l k : List P} (h : l.length + k.length ≤ 100000) : aAdd S (.dat (.lst l)) (.dat (.lst k)) = some (.dat (.lst (l ++ k))) := by
  show (match listP S (.dat (.lst l)), listP S (.dat (.lst k)) with | some l, some k => _ | _, _ => _) = _
  rw [listP_l, listP_l]; exact if_pos h
theorem ixN_nat {n k : Nat} (h : k < n) : ixN n (k : Int) = some k := by
  unfold ixN
  rw [if_pos (by omega), if_pos (by omega)]; rfl
theorem ixN_of {n : Nat} {i : Int} (h : 0 ≤ i) (h1 : i < n) : ixN n i = some i.toNat := by
  unfold ixN
  rw [if_pos h, if_pos h1]
theorem ixN_last {n : Nat} (h : 0 < n) : ixN n (-1) = some (n - 1) := by
  unfold ixN
  rw [if_neg (by omega), if_pos (by omega)]
  congr 1
  omega
theorem atN {α : Type} {l : List α} {k : Nat} {x : α} (h : l[k]? = some x) : atI l (k : Int) = some x := by
  unfold atI
  rw [ixN_nat (List.getElem?_eq_some_iff.mp h).1]
  exact h
theorem atI_of {α : Type} {l : List α} {i : Int} {x : α} (h0 : 0 ≤ i) (h : l[i.toNat]? = some x) : atI l i = some x := by
  have q := (List.getElem?_eq_some_iff.mp h).1
  unfold atI
  rw [ixN_of h0 (by omega)]
  exact h
theorem atI_last {α : Type} {l : List α} {x : α} (h : l.getLast? = some x) : atI l (-1) = some x := by
  cases l with
  | nil => cases h
  | cons a l =>
    unfold atI
    rw [ixN_last (by simp)]
    rw [List.getLast?_eq_getElem?] at h
    exact h
theorem ix_t {l : List P} {x : P} (h : atI l i = some x) : aIx S (.dat (.tup l)) (.dat (.int i)) = some (.dat x) := by show (atI l i).map D.dat = _; rw [h]; rfl
theorem ix_l {l : List P} {x : P} (h : atI l i = some x) : aIx S (.dat (.lst l)) (.dat (.int i)) = some (.dat x) := by show (atI l i).map D.dat = _; rw [h]; rfl
theorem seqD_o {o : Nat} {l : List D} (h : S[o]? = some (.lst l)) : seqD S (.obj o) = some l := by show (match S[o]? with | some (.lst l) => some l | _ => none) = _; rw [h]
theorem ix_o {o : Nat} {l : List D} {x : D} (ho : S[o]? = some (.lst l)) (h : atI l i = some x) : aIx S (.obj o) (.dat (.int i)) = some x := by
  show (match seqD S (.obj o) with | some l => atI l i | none => none) = _
  rw [seqD_o ho]; exact h
theorem setD_o {o : Nat} {l : List D} {x : D} {k : Nat} (ho : S[o]? = some (.lst l)) (h : ixN l.length i = some k) : setD (.obj o) (.dat (.int i)) x S = some (S.set o (.lst (l.set k x))) := by
  show (match S[o]? with | some (.lst l) => (ixN l.length i).map fun j => S.set o (.lst (l.set j x)) | _ => none) = _
  rw [ho]
  show (ixN l.length i).map _ = _
  rw [h]; rfl
theorem app_o {o : Nat} {l : List D} {x : D} (ho : S[o]? = some (.lst l)) (h : l.length < 100000) : updL fAppend (.obj o) [x] S = .ok (.dat .non) (S.set o (.lst (l ++ [x]))) := by
  have q : fAppend l [x] = some (.dat .non, l ++ [x]) := if_pos h
  unfold updL
  simp only [ho, q]
theorem kind_o {o : Nat} {l : List D} (ho : S[o]? = some (.lst l)) : isKind "list" S (.obj o) = true := by
  show (if ("list" : String) = "list" then (listD S (.obj o)).isSome else _) = true
  rw [if_pos rfl]
  show (match S[o]? with | some (.lst l) => some l | _ => none : Option (List D)).isSome = true
  rw [ho]; rfl
theorem frz_o {o : Nat} {l : List P} (ho : S[o]? = some (.lst (l.map .dat))) : frz1 S o = some (.lst l) := by
  unfold frz1
  rw [ho]
  show (datAll (l.map .dat)).map P.lst = _
  rw [datAll_map]; rfl
end
theorem pure_dat {f : List D → Store → R D} {ds : List D} {ps : List P} {p : P} {S S' : Store} (hd : datAll ds = some ps) (h : f ds [] = .ok (.dat p) S') : mPure f ds S = .ok (.dat p) S := by
  unfold mPure; rw [hd]; simp only [h]
theorem pure_obj {f : List D → Store → R D} {ds : List D} {ps : List P} {p : P} {i : Nat} {S S' : Store} (hd : datAll ds = some ps) (h : f ds [] = .ok (.obj i) S') (z : frz1 S' i = some p) : mPure f ds S = .ok (.dat p) S := by
  unfold mPure; rw [hd]; simp only [h, z]
theorem pure_exc {f : List D → Store → R D} {ds : List D} {ps : List P} {C : Addr} {x : Option (Str × P)} {S S' : Store} (hd : datAll ds = some ps) (h : f ds [] = .exc C x S') : mPure f ds S = .exc C x S := by
  unfold mPure; rw [hd]; simp only [h]
/-- a run that ends well -/
def Ends (r : R Out) (Q : Out → Store → Prop) : Prop := ∃ o S, r = .ok o S ∧ Q o S
/-- what a turn leaves: go on (to J), or leave (to Q) -/
def TurnP (J : DEnv → Store → Prop) (Q : Out → Store → Prop) : Out → Store → Prop
  | .nx δ, S => J δ S
  | .ct δ, S => J δ S
  | .bk δ, S => Q (.nx δ) S
  | .rt d, S => Q (.rt d) S
  | .ex C x δ, S => Q (.ex C x δ) S
theorem turn_ends {r : R Out} {k : DEnv → Store → R Out} {J : DEnv → Store → Prop} {Q : Out → Store → Prop} (h : Ends r (TurnP J Q)) (hk : ∀ δ S, J δ S → Ends (k δ S) Q) : Ends (mTurn r k) Q := by
  obtain ⟨o, S, rfl, q⟩ := h
  cases o with
  | nx δ => exact hk δ S q
  | ct δ => exact hk δ S q
  | bk δ => exact ⟨_, _, rfl, q⟩
  | rt d => exact ⟨_, _, rfl, q⟩
  | ex C x δ => exact ⟨_, _, rfl, q⟩
/-- for: I i before the item at i -/
theorem forL_ends {g : DG} {b : DS} (I : Nat → DEnv → Store → Prop) {Q : Out → Store → Prop} : ∀ {l : List D} {i : Nat} {δ : DEnv} {S : Store}, I i δ S →
    (∀ k d δ S, l[k]? = some d → I (i + k) δ S → Ends ((g d δ S).st δ b) (TurnP (I (i + k + 1)) Q)) → (∀ δ S, I (i + l.length) δ S → Q (.nx δ) S) → Ends (mForL g b l δ S) Q
  | [], i, δ, S, h, _, q => ⟨_, _, rfl, q δ S h⟩
  | d :: l, i, δ, S, h, st, q => by
    refine turn_ends (J := I (i + 1)) (st 0 d δ S rfl h) fun δ S h1 => forL_ends (l := l) (i := i + 1) I h1 (fun k d δ S e hi => ?_) (fun δ S hi => q δ S ?_)
    · have z := st (k + 1) d δ S (by simpa using e) (by rw [show i + (k + 1) = i + 1 + k by omega]; exact hi)
      rw [show i + (k + 1) + 1 = i + 1 + k + 1 by omega] at z
      exact z
    · rw [List.length_cons, show i + (l.length + 1) = i + 1 + l.length by omega]; exact hi
/-- while: a measure goes down -/
theorem whileN_ends {c : DT} {b : DS} (I : Nat → DEnv → Store → Prop) {Q : Out → Store → Prop}
    (st : ∀ m δ S, I m δ S → ∃ x S1, c δ S = .ok x S1 ∧ (x = true → Ends (b δ S1) (TurnP (fun δ' S' => ∃ m', m' < m ∧ I m' δ' S') Q)) ∧ (x = false → Q (.nx δ) S1)) : ∀ {n m : Nat} {δ : DEnv} {S : Store}, m < n → I m δ S → Ends (mWhileN c b n δ S) Q
  | 0, m, δ, S, h, _ => absurd h (Nat.not_lt_zero _)
  | n + 1, m, δ, S, h, hi => by
    obtain ⟨x, S1, e, h1, h2⟩ := st m δ S hi
    unfold mWhileN
    rw [e, R.st_ok]
    cases x with
    | false => exact ⟨_, _, rfl, h2 rfl⟩
    | true => exact turn_ends (h1 rfl) fun δ' S' ⟨m', lt, hi'⟩ => whileN_ends I st (by omega) hi'
theorem while_ends {c : DT} {b : DS} (I : Nat → DEnv → Store → Prop) {Q : Out → Store → Prop} {m : Nat} {δ : DEnv} {S : Store} (hm : m < 1000000000) (hi : I m δ S)
    (st : ∀ m δ S, I m δ S → ∃ x S1, c δ S = .ok x S1 ∧ (x = true → Ends (b δ S1) (TurnP (fun δ' S' => ∃ m', m' < m ∧ I m' δ' S') Q)) ∧ (x = false → Q (.nx δ) S1)) : Ends (mWhile c b δ S) Q := by
  unfold mWhile FUEL
  exact whileN_ends I st hm hi
theorem then_ends {r : R Out} {b : DS} {Q1 Q : Out → Store → Prop} (h : Ends r Q1) (k : ∀ o S, Q1 o S → Ends (thenS (.ok o S) b) Q) : Ends (thenS r b) Q := by
  obtain ⟨o, S, rfl, q⟩ := h
  exact k o S q
/-- a comprehension over items, when each item is a pure value: f i = none leaves out -/
theorem lc_pure {g : DG} {t : DT} {e : DE} {vs : List Nat} {δ : DEnv} {S : Store} (f : D → Option D) : ∀ {l acc : List D}, (acc.length + l.length ≤ 100000) →
    (∀ d ∈ l, ∃ δ1, g d (wipeD δ vs) S = .ok δ1 S ∧ match f d with
      | some y => t δ1 S = .ok true S ∧ e δ1 S = .ok y S
      | none => t δ1 S = .ok false S) → mLcL g t e vs δ l acc S = .ok (acc ++ l.filterMap f) S
  | [], acc, _, _ => by simp [mLcL]
  | d :: l, acc, hl, h => by
    obtain ⟨δ1, e1, e2⟩ := h d (List.mem_cons_self ..)
    unfold mLcL
    rw [e1, R.bnf_ok]
    rw [List.length_cons] at hl
    cases q : f d with
    | none =>
      rw [q] at e2
      rw [e2, R.bnf_ok]
      show mLcL g t e vs δ l acc S = _
      rw [lc_pure f (by omega) fun d m => h d (List.mem_cons_of_mem _ m), List.filterMap_cons, q]
    | some y =>
      rw [q] at e2
      rw [e2.1, R.bnf_ok]
      show (e δ1 S).bnf _ = _
      rw [e2.2, R.bnf_ok, if_pos (by omega), lc_pure f (by rw [List.length_append, List.length_singleton]; omega) fun d m => h d (List.mem_cons_of_mem _ m), List.filterMap_cons, q]
      simp
end M3
local macro_rules | `(tactic| dsimp! [$ls,*]) => `(tactic| simp only [M3.mBody_fin, M3.fin_nx, M3.fin_rt, M3.fin_ex, M3.mSeq_then, M3.then_nx, M3.then_rt, M3.then_bk, M3.then_ct, M3.then_ex, M3.mIfS_eq, M3.mIf_eq, M3.mAndT_eq, M3.mOrT_eq, M3.mAnd_eq, M3.mOr_eq, M3.andK_t, M3.andK_f, M3.andK_ok, M3.orK_t, M3.orK_f, M3.orK_ok, M3.pick2_t, M3.pick2_f, M3.mNot_b, M3.asB, M3.mVar, M3.mC, M3.mOp, M3.mUn, M3.mNil, M3.mCons, M3.mTst, M3.mNotT, M3.mChain_eq, M3.mCall, M3.mDef, M3.mRet, M3.mRetN, M3.mDrop, M3.mAsg, M3.gmName, M3.gmSub, M3.mBrk, M3.mCnt, M3.mNext, M3.mTrk, M3.mLst, M3.mFrz, M3.mTup, M3.mYes, M3.mPar, M3.mRaise0, M3.mRaise1, M3.gmTup, M3.gmCons, M3.gmNil, M3.wipeD, M3.R.bind_ok, M3.R.bind_exc, M3.R.st_ok, M3.R.st_exc, M3.R.bnf_ok, M3.oR_some, M3.datAll_map, M3.datAll, Option.map_some, Option.bind_some, List.getElem?_cons_zero, List.getElem?_cons_succ, List.set_cons_zero, List.set_cons_succ, List.map_cons, List.map_nil, List.length_cons, List.length_nil, List.replicate_succ, List.replicate_zero, List.cons_append, List.nil_append, Nat.reduceAdd, Nat.reduceSub, Nat.zero_add, Nat.sub_self, Nat.reduceEqDiff, Nat.zero_le, Nat.reduceLeDiff, Int.reduceLE, Int.reduceLT, Int.reduceEq, Int.reduceNeg, Int.reduceAdd, Int.reduceSub, Int.reduceMul, decide_true, decide_false, Bool.not_true, Bool.not_false, Bool.true_and, Bool.false_and, Bool.and_true, Bool.and_false, Bool.true_or, Bool.false_or, if_true, ite_true, reduceIte, M3.isi_non_int, M3.isi_non_bool, M3.isi_non_str, M3.isi_non_tuple, M3.isi_non_list, M3.isi_non_dict, M3.isi_bl_int, M3.isi_bl_bool, M3.isi_bl_str, M3.isi_bl_tuple, M3.isi_bl_list, M3.isi_bl_dict, M3.isi_int_int, M3.isi_int_bool, M3.isi_int_str, M3.isi_int_tuple, M3.isi_int_list, M3.isi_int_dict, M3.isi_str_int, M3.isi_str_bool, M3.isi_str_str, M3.isi_str_tuple, M3.isi_str_list, M3.isi_str_dict, M3.isi_tup_int, M3.isi_tup_bool, M3.isi_tup_str, M3.isi_tup_tuple, M3.isi_tup_list, M3.isi_tup_dict, M3.isi_lst_int, M3.isi_lst_bool, M3.isi_lst_str, M3.isi_lst_tuple, M3.isi_lst_list, M3.isi_lst_dict, M3.isi_dic_int, M3.isi_dic_bool, M3.isi_dic_str, M3.isi_dic_tuple, M3.isi_dic_list, M3.isi_dic_dict, M3.isi_scr_int, M3.isi_scr_bool, M3.isi_scr_str, M3.isi_scr_tuple, M3.isi_scr_list, M3.isi_scr_dict, M3.add_ii, M3.sub_ii, M3.lt_ii, M3.le_ii, M3.gt_ii, M3.ge_ii, M3.neg_i, M3.eq_ii, M3.ne_ii, M3.eq_ss, M3.ne_ss, M3.eq_bb, M3.ne_bb, M3.isN_n, M3.notN_n, M3.isN_i, M3.notN_i, M3.isN_b, M3.notN_b, M3.isN_s, M3.notN_s, M3.isN_t, M3.notN_t, M3.isN_l, M3.notN_l, M3.isB_n, M3.isB_i, M3.isB_b, M3.isB_s, M3.isB_t, M3.isB_l, M3.int_i, M3.int_b, M3.max_ii, M3.min_ii, M3.len_t, M3.len_l, M3.len_scr, M3.tuple_l, M3.tuple_t, $ls,*])
namespace W2
inductive Ch (ps : List (Option Nat)) : Nat → List Nat → Prop
  | root {h : Nat} : ps[h]? = some none → Ch ps h [h]
  | step {h p : Nat} {l : List Nat} : ps[h]? = some (some p) → Ch ps p l → Ch ps h (h :: l)
theorem Ch.head {ps : List (Option Nat)} {h : Nat} {l : List Nat} (c : Ch ps h l) : ∃ r, l = h :: r := by
  cases c with
  | root _ => exact ⟨[], rfl⟩
  | step _ _ => exact ⟨_, rfl⟩
theorem Ch.det {ps : List (Option Nat)} {h : Nat} {l : List Nat} (c : Ch ps h l) : ∀ {m : List Nat}, Ch ps h m → l = m := by
  induction c with
  | root e =>
    intro m d
    cases d with
    | root _ => rfl
    | step e2 _ => rw [e] at e2; cases e2
  | step e c ih =>
    intro m d
    cases d with
    | root e2 => rw [e] at e2; cases e2
    | step e2 d2 =>
      rw [e] at e2
      cases e2
      rw [ih d2]
theorem Ch.tail {ps : List (Option Nat)} : ∀ {pre : List Nat} {h x : Nat} {post : List Nat}, Ch ps h (pre ++ x :: post) → Ch ps x (x :: post)
  | [], h, x, post, c => by
    obtain ⟨r, e⟩ := c.head
    have e1 : x = h := by simpa using (List.cons.inj e).1
    subst e1
    exact c
  | a :: pre, h, x, post, c => by
    have go : ∀ m, Ch ps h m → m = a :: (pre ++ x :: post) → Ch ps x (x :: post) := by
      intro m d e
      cases d with
      | root _ =>
        have := (List.cons.inj e).2
        cases pre <;> simp at this
      | step _ d2 =>
        have e2 := (List.cons.inj e).2
        subst e2
        exact Ch.tail d2
    exact go _ c rfl
theorem Ch.lt {ps : List (Option Nat)} {h : Nat} {l : List Nat} (c : Ch ps h l) : ∀ x ∈ l, x < ps.length := by
  induction c with
  | @root h e =>
    intro x hx
    have q : x = h := by simpa using hx
    subst q
    exact (List.getElem?_eq_some_iff.mp e).1
  | step e c ih =>
    intro x hx
    rcases List.mem_cons.mp hx with rfl | hx
    · exact (List.getElem?_eq_some_iff.mp e).1
    · exact ih x hx
theorem Ch.nodup {ps : List (Option Nat)} {h : Nat} {l : List Nat} (c : Ch ps h l) : l.Nodup := by
  induction c with
  | root e => simp
  | @step h p l e c ih =>
    refine List.nodup_cons.mpr ⟨fun hm => ?_, ih⟩
    obtain ⟨pre, post, e2⟩ := List.append_of_mem hm
    subst e2
    have d := Ch.tail c
    have d2 : Ch ps h (h :: (pre ++ h :: post)) := .step e c
    have q := congrArg List.length (d.det d2)
    simp at q
    omega
theorem Ch.par_lt {ps : List (Option Nat)} {h p : Nat} {l : List Nat} (c : Ch ps h l) (e : ps[h]? = some (some p)) : p < ps.length := by
  cases c with
  | root e2 => rw [e] at e2; cases e2
  | step e2 c2 =>
    rw [e] at e2
    cases e2
    obtain ⟨r, e3⟩ := c2.head
    exact c2.lt _ (by rw [e3]; simp)
open Classical in
noncomputable def up (ps : List (Option Nat)) (h : Nat) : List Nat := if e : ∃ l, Ch ps h l then e.choose else []
theorem up_of {ps : List (Option Nat)} {h : Nat} {l : List Nat} (c : Ch ps h l) : up ps h = l := by
  unfold up
  rw [dif_pos ⟨l, c⟩]
  exact (Exists.choose_spec (⟨l, c⟩ : ∃ l, Ch ps h l)).det c
/-- a right forest -/
def Tree (ps : List (Option Nat)) : Prop := ∀ h, h < ps.length → Ch ps h (up ps h) ∧ (up ps h).length ≤ ps.length
theorem tree_of {ps : List (Option Nat)} (h : ∀ h, h < ps.length → ∃ l, Ch ps h l ∧ l.length ≤ ps.length) : Tree ps := fun x hx => by
  obtain ⟨l, c, z⟩ := h x hx
  rw [up_of c]
  exact ⟨c, z⟩
/-- by an order: each house's parent stands ahead -/
theorem tree_ord {ps : List (Option Nat)} {o : List Nat} (hl : o.length = ps.length) (sur : ∀ h, h < ps.length → ∃ k : Nat, o[k]? = some h)
    (hp : ∀ (k : Nat) h, o[k]? = some h → ps[h]? = some none ∨ ∃ j p, j < k ∧ o[j]? = some p ∧ ps[h]? = some (some p)) : Tree ps := by
  have go : ∀ (k : Nat), ∀ (m : Nat), m ≤ k → ∀ h, o[m]? = some h → ∃ l, Ch ps h l ∧ l.length ≤ m + 1 := by
    intro k
    induction k with
    | zero =>
      intro m hm h e
      rcases hp m h e with q | ⟨j, p, hj, _, _⟩
      · exact ⟨[h], .root q, by simp⟩
      · omega
    | succ k ih =>
      intro m hm h e
      rcases hp m h e with q | ⟨j, p, hj, ej, q⟩
      · exact ⟨[h], .root q, by simp⟩
      · obtain ⟨l, c, z⟩ := ih j (by omega) p ej
        exact ⟨h :: l, .step q c, by simp; omega⟩
  refine tree_of fun h hh => ?_
  obtain ⟨k, ek⟩ := sur h hh
  obtain ⟨l, c, z⟩ := go k k (Nat.le_refl _) h ek
  have := (List.getElem?_eq_some_iff.mp ek).1
  exact ⟨l, c, by omega⟩
theorem nodup_len : ∀ {n : Nat} {l : List Nat}, l.Nodup → (∀ x ∈ l, x < n) → l.length ≤ n
  | 0, l, _, h => by
    cases l with
    | nil => exact Nat.le_refl _
    | cons a r => exact absurd (h a (by simp)) (by omega)
  | n + 1, l, nd, h => by
    by_cases hm : n ∈ l
    · have nd2 : (l.erase n).Nodup := nd.erase n
      have h2 : ∀ x ∈ l.erase n, x < n := fun x hx => by
        have h3 := h x (List.mem_of_mem_erase hx)
        have h4 : x ≠ n := fun e => by
          subst e
          exact (List.Nodup.mem_erase_iff nd).mp hx |>.1 rfl
        omega
      have h5 := nodup_len nd2 h2
      rw [List.length_erase_of_mem hm] at h5
      omega
    · have h2 : ∀ x ∈ l, x < n := fun x hx => by
        have h3 := h x hx
        have h4 : x ≠ n := fun e => hm (e ▸ hx)
        omega
      exact Nat.le_succ_of_le (nodup_len nd h2)
theorem Ch.len {ps : List (Option Nat)} {h : Nat} {l : List Nat} (c : Ch ps h l) : l.length ≤ ps.length := nodup_len c.nodup c.lt
/-- each parent is a house -/
def Inr (ps : List (Option Nat)) : Prop := ∀ (k q : Nat), ps[k]? = some (some q) → q < ps.length
theorem Tree.inr {ps : List (Option Nat)} (t : Tree ps) : Inr ps := fun k q e => Ch.par_lt (t k (List.getElem?_eq_some_iff.mp e).1).1 e
theorem tree_iff {ps : List (Option Nat)} : Tree ps ↔ ∀ h, h < ps.length → ∃ l, Ch ps h l :=
  ⟨fun t h hh => ⟨_, (t h hh).1⟩, fun t => tree_of fun h hh => let ⟨l, c⟩ := t h hh; ⟨l, c, c.len⟩⟩
end W2
namespace M3
open PySem PySem.Spec PyProof.Rows L2
variable [TabsP]
def ov : Option Nat → P
  | none => .non
  | some q => .int q
def nv (h : Nat) : P := .int h
theorem rngD_get {lo : Int} {n k : Nat} {d : D} (h : (rngD lo n)[k]? = some d) : k < n ∧ d = .dat (.int (lo + (k : Int))) := by
  unfold rngD at h
  rw [List.getElem?_map] at h
  have hk : k < n := by
    by_cases c : k < n
    · exact c
    · rw [List.getElem?_eq_none (by simpa using c)] at h; cases h
  rw [List.getElem?_range hk] at h
  cases h
  exact ⟨hk, rfl⟩
theorem rngD_len {lo : Int} {n : Nat} : (rngD lo n).length = n := by unfold rngD; simp
theorem rng1_ok {a : DA} {δ : DEnv} {S S1 : Store} {n : Nat} (h : a δ S = .ok [.dat (.int (n : Int))] S1) (hn : n ≤ 100000) : mRng1 a δ S = .ok (.items (rngD 0 n)) S1 := by
  unfold mRng1
  rw [h, R.bind_ok]
  simp only []
  rw [if_pos (by omega)]
  rfl
theorem for_items {w : DI} {g : DG} {b : DS} {δ : DEnv} {S S1 : Store} {l : List D} (h : w δ S = .ok (.items l) S1) : mFor w g b δ S = mForL g b l δ S1 := by
  unfold mFor; rw [h, R.st_ok]
theorem for_ob {w : DI} {g : DG} {b : DS} {δ : DEnv} {S S1 : Store} {o : Nat} {l : List D} (h : w δ S = .ok (.ob o) S1) (ho : S1[o]? = some (.lst l)) : mFor w g b δ S = mForO g b o l.length l.length 0 δ S1 := by
  unfold mFor; rw [h, R.st_ok]; simp only [ho]
theorem walk_t {a : DE} {δ : DEnv} {S S1 : Store} {l : List P} (h : a δ S = .ok (.dat (.tup l)) S1) : mWalk a δ S = .ok (.items (l.map .dat)) S1 := by unfold mWalk; rw [h]; rfl
theorem walk_l {a : DE} {δ : DEnv} {S S1 : Store} {l : List P} (h : a δ S = .ok (.dat (.lst l)) S1) : mWalk a δ S = .ok (.items (l.map .dat)) S1 := by unfold mWalk; rw [h]; rfl
theorem walk_o {a : DE} {δ : DEnv} {S S1 : Store} {o : Nat} {l : List D} (h : a δ S = .ok (.obj o) S1) (ho : S1[o]? = some (.lst l)) : mWalk a δ S = .ok (.ob o) S1 := by
  unfold mWalk; rw [h, R.bind_ok]
  show oR (match S1[o]? with | some (.lst _) => some (Wk.ob o) | _ => none) S1 = _
  rw [ho]; rfl
theorem forO_ends {g : DG} {b : DS} {o : Nat} {l : List D} (I : Nat → DEnv → Store → Prop) {Q : Out → Store → Prop} (hl : ∀ i δ S, I i δ S → S[o]? = some (.lst l))
    (st : ∀ i d δ S, l[i]? = some d → I i δ S → Ends ((g d δ S).st δ b) (TurnP (I (i + 1)) Q)) (q : ∀ δ S, I l.length δ S → Q (.nx δ) S) : ∀ {k i : Nat} {δ : DEnv} {S : Store}, i + k = l.length → I i δ S → Ends (mForO g b o l.length k i δ S) Q
  | 0, i, δ, S, e, h => by
    unfold mForO
    simp only [hl i δ S h, if_true]
    refine ⟨_, _, rfl, q δ S ?_⟩
    rw [← e, Nat.add_zero]; exact h
  | k + 1, i, δ, S, e, h => by
    unfold mForO
    have e1 : l[i]? = some l[i] := List.getElem?_eq_getElem (by omega)
    simp only [hl i δ S h, if_true, e1]
    exact turn_ends (st i _ δ S e1 h) fun δ' S' h' => forO_ends I hl st q (by omega) h'
theorem lc_items {w : DI} {g : DG} {t : DT} {e : DE} {vs : List Nat} {δ : DEnv} {S S1 : Store} {l : List D} (f : D → Option D) (hw : w δ S = .ok (.items l) S1) (hl : l.length ≤ 100000)
    (h : ∀ d ∈ l, ∃ δ1, g d (wipeD δ vs) S1 = .ok δ1 S1 ∧ match f d with
      | some y => t δ1 S1 = .ok true S1 ∧ e δ1 S1 = .ok y S1
      | none => t δ1 S1 = .ok false S1) : mLc w g t e vs δ S = .ok (l.filterMap f) S1 := by
  unfold mLc
  rw [hw, R.bind_ok]
  simp only []
  rw [lc_pure f (by simpa using hl) h, R.bnf_ok]
  rfl
theorem lcL_map {α : Type} {g : DG} {t : DT} {e : DE} {vs : List Nat} {δ : DEnv} {S : Store} (h : α → D) (f : α → Option P) : ∀ {xs : List α} {acc : List D}, (acc.length + xs.length ≤ 100000) →
    (∀ x ∈ xs, ∃ δ1, g (h x) (wipeD δ vs) S = .ok δ1 S ∧ match f x with
      | some y => t δ1 S = .ok true S ∧ e δ1 S = .ok (.dat y) S
      | none => t δ1 S = .ok false S) → mLcL g t e vs δ (xs.map h) acc S = .ok (acc ++ (xs.filterMap f).map .dat) S
  | [], acc, _, _ => by simp [mLcL]
  | d :: l, acc, hl, hh => by
    obtain ⟨δ1, e1, e2⟩ := hh d (List.mem_cons_self ..)
    rw [List.map_cons]
    unfold mLcL
    rw [e1, R.bnf_ok]
    rw [List.length_cons] at hl
    cases q : f d with
    | none =>
      rw [q] at e2
      rw [e2, R.bnf_ok]
      show mLcL g t e vs δ (l.map h) acc S = _
      rw [lcL_map h f (by omega) fun d m => hh d (List.mem_cons_of_mem _ m), List.filterMap_cons, q]
    | some y =>
      rw [q] at e2
      rw [e2.1, R.bnf_ok]
      show (e δ1 S).bnf _ = _
      rw [e2.2, R.bnf_ok, if_pos (by omega), lcL_map h f (by rw [List.length_append, List.length_singleton]; omega) fun d m => hh d (List.mem_cons_of_mem _ m), List.filterMap_cons, q]
      simp
theorem lc_map {α : Type} {w : DI} {g : DG} {t : DT} {e : DE} {vs : List Nat} {δ : DEnv} {S S1 : Store} {xs : List α} (h : α → D) (f : α → Option P) (hw : w δ S = .ok (.items (xs.map h)) S1) (hl : xs.length ≤ 100000)
    (hh : ∀ x ∈ xs, ∃ δ1, g (h x) (wipeD δ vs) S1 = .ok δ1 S1 ∧ match f x with
      | some y => t δ1 S1 = .ok true S1 ∧ e δ1 S1 = .ok (.dat y) S1
      | none => t δ1 S1 = .ok false S1) : mLc w g t e vs δ S = .ok ((xs.filterMap f).map .dat) S1 := by
  unfold mLc
  rw [hw, R.bind_ok]
  simp only []
  rw [lcL_map h f (by simpa using hl) hh, R.bnf_ok]
  rfl
theorem lc_all {α : Type} {w : DI} {g : DG} {t : DT} {e : DE} {vs : List Nat} {δ : DEnv} {S S1 : Store} {xs : List α} (h : α → D) (k : α → P) (hw : w δ S = .ok (.items (xs.map h)) S1) (hl : xs.length ≤ 100000)
    (hh : ∀ x ∈ xs, ∃ δ1, g (h x) (wipeD δ vs) S1 = .ok δ1 S1 ∧ t δ1 S1 = .ok true S1 ∧ e δ1 S1 = .ok (.dat (k x)) S1) : mLc w g t e vs δ S = .ok ((xs.map k).map .dat) S1 := by
  rw [lc_map h (fun x => some (k x)) hw hl hh]
  congr 2
  rw [← List.filterMap_eq_map]
  rfl
theorem rngD0 (n : Nat) : rngD 0 n = (List.range n).map fun k => .dat (nv k) := by
  unfold rngD
  refine List.map_congr_left fun k _ => ?_
  rw [Int.zero_add]
  rfl
theorem rng0_ok {a : DA} {δ : DEnv} {S S1 : Store} {n : Nat} (h : a δ S = .ok [.dat (.int (n : Int))] S1) (hn : n ≤ 100000) : mRng1 a δ S = .ok (.items ((List.range n).map fun k => .dat (nv k))) S1 := by rw [rng1_ok h hn, rngD0]
theorem all_lst {S : Store} {bs : List Bool} : aAll S [.dat (.lst (bs.map .bl))] = some (.dat (.bl (bs.all id))) := by
  show ((listP S _).bind boolsP).map _ = _
  rw [listP_l]
  show (boolsP _).map _ = _
  rw [boolsP_map]
  rfl
theorem cut_take {α : Type} (l : List α) (k : Nat) : cutL l none (some (k : Int)) = l.take k := by
  unfold cutL
  rw [HT.sIx_none, HT.sIx_nat, List.drop_zero, Nat.sub_zero]
  by_cases c : k ≤ l.length
  · rw [Nat.min_eq_left c]
  · rw [Nat.min_eq_right (by omega), List.take_of_length_le (Nat.le_refl _), List.take_of_length_le (by omega)]
theorem fin_ends {r : R Out} {Q : D → Store → Prop} (h : Ends r fun o S => ∃ d, o = .rt d ∧ Q d S) : ∃ d S, fin r = .ok d S ∧ Q d S := by
  obtain ⟨o, S, rfl, d, rfl, q⟩ := h
  exact ⟨d, S, rfl, q⟩
theorem Ends.mono {r : R Out} {Q Q' : Out → Store → Prop} (h : Ends r Q) (k : ∀ o S, Q o S → Q' o S) : Ends r Q' := let ⟨o, S, e, q⟩ := h; ⟨o, S, e, k o S q⟩
theorem Ends.of {o : Out} {S : Store} {Q : Out → Store → Prop} (h : Q o S) : Ends (.ok o S) Q := ⟨_, _, rfl, h⟩
theorem Ends.eq {r r' : R Out} {Q : Out → Store → Prop} (h : Ends r' Q) (e : r = r') : Ends r Q := e ▸ h
theorem setF_o {FL : List (Addr × Str)} {f : Str} {C : Addr} {i : Nat} {l : List (Str × D)} {d : D} {S : Store} (ho : S[i]? = some (.ins C l)) (hm : (C, f) ∈ FL) (hl : l.length < 1000) : setF FL f (.obj i) d S = some (S.set i (.ins C (putD f d l))) := by
  show (match S[i]? with | some (.ins C l) => if (C, f) ∈ FL ∧ l.length < 1000 then some (S.set i (.ins C (putD f d l))) else none | _ => none) = _
  rw [ho]
  exact if_pos ⟨hm, hl⟩
theorem get_app {S t : Store} {o : Nat} {x : O} (h : S[o]? = some x) : (S ++ t)[o]? = some x := by
  rw [List.getElem?_append_left (List.getElem?_eq_some_iff.mp h).1]; exact h
theorem get_new {S : Store} {x : O} : (S ++ [x])[S.length]? = some x := by
  rw [List.getElem?_append_right (Nat.le_refl _), Nat.sub_self]; rfl
theorem get_set {S : Store} {o o' : Nat} {x y : O} (n : o' ≠ o) (h : S[o]? = some x) : (S.set o' y)[o]? = some x := by
  rw [List.getElem?_set_ne n]; exact h
theorem get_set_self {S : Store} {o : Nat} {x y : O} (h : S[o]? = some x) : (S.set o y)[o]? = some y := List.getElem?_set_self (List.getElem?_eq_some_iff.mp h).1
theorem lt_of_get {α : Type} {S : List α} {o : Nat} {x : α} (h : S[o]? = some x) : o < S.length := (List.getElem?_eq_some_iff.mp h).1
theorem map_get {α β : Type} {f : α → β} {l : List α} {k : Nat} {x : α} (h : l[k]? = some x) : (l.map f)[k]? = some (f x) := by rw [List.getElem?_map, h]; rfl
end M3
namespace M3
open PySem PySem.Spec PyProof.Rows L2
variable [TabsP]
def mDnew : DE := fun _ S => .ok (.dat (.dic [])) S
theorem se_dnew {K : PySem.W.Frag} {W : L2.St → WK} : SE K W tDNewK mDnew := by
  intro ι X S H σ δ Q rel re h p hp
  have x2 := ext_alloc (o := .dK []) rel hp
  have na : p ∉ ι ∧ p ∉ X := rel.nin hp
  refine h ι _ (.ref p) x2 (rel.alloc hp) ?_
  show RepP K ι X _ (.dic []) _
  rw [RepP]
  refine ⟨p, [], rfl, na.1, na.2, upd_same, ?_⟩
  rw [RepKs]
end M3
namespace M3
open PySem PySem.Spec PyProof.Rows L2
variable [TabsP]
def tTry (tb : WX → TS) (wf : L2.Ends → WX) : TS := fun D σ H => tb (wf D) D σ H
section
variable {X : Cx} {x n : Str} {c : Value} {i : Nat} {body suite : List Stmt} {b₀ : Stmt} {np pos pos' : Pos} {tb : WX → TS} {ts : Addr → Value → Option Addr → TS} {Wout : WX}
theorem ps_tryA (hs : X.stack = X.env :: X.outer) (hf : X.env.frame = some X.env.locals) (hN : X.N.Nodup) (hi : X.N[i]? = some n) (hln : X.env.kindOf n = some .local) (hc : Names X x c) (tk : Takes X Wout)
    (hb : ∀ (W : WX) (pn : List (Addr × Obj)) (xe : Value → Shared → Prop), Takes (X.tr pn xe) W → PassesOwn (model X.prog X.w) X.A X.env xe → PSs (X.tr pn xe) body (tb W))
    (hsu : ∀ (a : Addr) (oe : Obj) (cls : Value) (d : Option Addr) (pn : List (Addr × Obj)), Zc cls d oe → (∃ vs, oe.data = .fields vs) → PSs (X.suite a ((a, oe) :: pn)) (b₀ :: suite) (ts a cls d)) :
    PS X (.Try body [.ExceptHandler (some (.Name x np)) (some n) (b₀ :: suite) pos'] [] [] pos) (tTry tb (wAs X.K c i ts Wout)) := ps_try_as hs hf hN hi hln hc tk hb hsu
end
section
variable {K : PySem.W.Frag}
theorem body_all {n : Nat} {N : List Str} {cx : Cx} {body : List Stmt} {t : TS} {b : DS} {vs : List V} {H : Hp} {Q : VK} {E : XK} (hp : PSs cx body t) (hb : SS K (wk fun cls d _ H => E cls d H) t b) (h : spM K n (mBody N.length b) vs H Q E) :
    ∃ t, PSs cx body t ∧ t { nx := fun _ H' => Q .non H', rt := Q } (L2.start N vs) H := ⟨t, hp, body_ok hb h⟩
end
end M3
namespace M3
open PySem PySem.Spec PyProof.Rows L2
end M3
namespace M3
open PySem PySem.Spec PyProof.Rows L2
end M3
namespace M3
open PySem PySem.Spec PyProof.Rows L2
end M3
namespace M3
open PySem PySem.Spec PyProof.Rows L2
end M3
namespace M3
open PySem PySem.Spec PyProof.Rows L2
end M3
namespace M3
open PySem PySem.Spec PyProof.Rows L2
end M3
namespace M3
open PySem PySem.Spec PyProof.Rows L2
end M3
namespace M3
open PySem PySem.Spec PyProof.Rows L2
end M3
namespace M3
open PySem PySem.Spec PyProof.Rows L2
end M3
namespace M3
open PySem PySem.Spec PyProof.Rows L2
end M3
namespace M3
open PySem PySem.Spec PyProof.Rows L2
end M3
namespace M3
open PySem PySem.Spec PyProof.Rows L2
end M3
namespace M3
open PySem PySem.Spec PyProof.Rows L2
variable [TabsP]
def keyP : D → Option Key
  | .dat (.int i) => some (.inl i)
  | .dat (.str s) => some (.inr s)
  | _ => none
def putKD (l : List (Key × D)) (k : Key) (d : D) : List (Key × D) := if (l.any fun kv => decide (kv.1 = k)) = true then l.map (fun kv => if kv.1 = k then (kv.1, d) else kv) else l ++ [(k, d)]
def mergeKD (l more : List (Key × D)) : List (Key × D) := more.foldl (fun acc kv => putKD acc kv.1 kv.2) l
section
variable {K : PySem.W.Frag} {ι X : List Addr} {S : Store} {H : Hp}
theorem keyP_rep {d : D} {k : Key} {v : V} (e : keyP d = some k) (r : RepD K ι X H d v) : v = kV k := by
  unfold keyP at e
  split at e
  · cases e; exact rI_inv r
  · cases e; exact rS_inv r
  · cases e
theorem any_rep {k : Key} : ∀ {l : List (Key × D)} {xs : List (Key × V)}, RepDK K ι X H l xs → (l.any fun kv => decide (kv.1 = k)) = (xs.any fun kv => decide (kv.1 = k))
  | [], xs, r => by
    have : xs = [] := r
    subst this; rfl
  | (c, d) :: l, xs, r => by
    obtain ⟨y, ys, rfl, f, g⟩ := r
    simp only [List.any_cons]
    rw [any_rep g]
theorem mapK_rep {k : Key} {d : D} {v : V} (q : RepD K ι X H d v) : ∀ {l : List (Key × D)} {xs : List (Key × V)}, RepDK K ι X H l xs → RepDK K ι X H (l.map (fun kv => if kv.1 = k then (kv.1, d) else kv)) (xs.map (fun kv => if kv.1 = k then (kv.1, v) else kv))
  | [], xs, r => by
    have : xs = [] := r
    subst this; rfl
  | (c, e) :: l, xs, r => by
    obtain ⟨y, ys, rfl, f, g⟩ := r
    simp only [List.map_cons]
    by_cases h : c = k
    · rw [if_pos h, if_pos h]
      exact ⟨v, _, rfl, q, mapK_rep q g⟩
    · rw [if_neg h, if_neg h]
      exact ⟨y, _, rfl, f, mapK_rep q g⟩
theorem appK_rep {k : Key} {d : D} {v : V} (q : RepD K ι X H d v) : ∀ {l : List (Key × D)} {xs : List (Key × V)}, RepDK K ι X H l xs → RepDK K ι X H (l ++ [(k, d)]) (xs ++ [(k, v)])
  | [], xs, r => by
    have : xs = [] := r
    subst this
    exact ⟨v, [], rfl, q, rfl⟩
  | (c, e) :: l, xs, r => by
    obtain ⟨y, ys, rfl, f, g⟩ := r
    exact ⟨y, _, rfl, f, appK_rep q g⟩
theorem putKD_rep {k : Key} {d : D} {v : V} (q : RepD K ι X H d v) {l : List (Key × D)} {xs : List (Key × V)} (r : RepDK K ι X H l xs) : RepDK K ι X H (putKD l k d) (putK xs k v) := by
  unfold putKD putK
  rw [any_rep r]
  split
  · exact mapK_rep q r
  · exact appK_rep q r
theorem mergeKD_rep : ∀ {more : List (Key × D)} {ms : List (Key × V)} {l : List (Key × D)} {xs : List (Key × V)}, RepDK K ι X H l xs → RepDK K ι X H more ms → RepDK K ι X H (mergeKD l more) (mergeK xs ms)
  | [], ms, l, xs, r, q => by
    have : ms = [] := q
    subst this; exact r
  | (c, d) :: more, ms, l, xs, r, q => by
    obtain ⟨y, ys, rfl, f, g⟩ := q
    show RepDK K ι X H (mergeKD (putKD l c d) more) (mergeK (putK xs c y) ys)
    exact mergeKD_rep (putKD_rep f r) g
theorem repDK_len : ∀ {l : List (Key × D)} {xs : List (Key × V)}, RepDK K ι X H l xs → xs.length = l.length
  | [], xs, r => by
    have : xs = [] := r
    subst this; rfl
  | (c, d) :: l, xs, r => by
    obtain ⟨y, ys, rfl, f, g⟩ := r
    simp only [List.length_cons]
    rw [repDK_len g]
end
section
variable {K : PySem.W.Frag} {W : L2.St → WK}
def mPairs : List (DE × DE) → DEnv → Store → R (List (Key × D))
  | [], _, S => .ok [] S
  | (a, b) :: r, δ, S => (a δ S).bnf fun x S1 => (b δ S1).bnf fun y S2 => (mPairs r δ S2).bnf fun ps S3 => match keyP x with
    | some k => .ok ((k, y) :: ps) S3
    | none => .fail
inductive SPs (K : PySem.W.Frag) (W : L2.St → WK) : List (TE × TE) → List (DE × DE) → Prop
  | nil : SPs K W [] []
  | cons {tk tv : TE} {a b : DE} {ts : List (TE × TE)} {ps : List (DE × DE)} : SE K W tk a → SE K W tv b → SPs K W ts ps → SPs K W ((tk, tv) :: ts) ((a, b) :: ps)
theorem pairs_ok {trs : List (TE × TE)} {ms : List (DE × DE)} (hp : SPs K W trs ms) : ∀ {ι X : List Addr} {S : Store} {H : Hp} {σ : L2.St} {δ : DEnv} {kvs : List (Key × D)} {S' : Store} {Q : List (V × V) → Hp → Prop}, Rel K ι X S H → RepE K ι X H δ σ → mPairs ms δ S = .ok kvs S' →
    (∀ ι' H' xs, Ext ι H ι' H' → Rel K ι' X S' H' → RepDK K ι' X H' kvs xs → Q (xs.map fun kv => (kV kv.1, kv.2)) H') → tPairs trs σ H Q := by
  induction hp with
  | nil =>
    intro ι X S H σ δ kvs S' Q rel re e k
    unfold mPairs at e
    cases e
    exact k ι H [] Ext.refl rel rfl
  | @cons tk tv a b ts ps ha hb hs ih =>
    intro ι X S H σ δ kvs S' Q rel re e k
    unfold mPairs at e
    cases e1 : a δ S with
    | fail => rw [e1] at e; cases e
    | exc C z S1 => rw [e1] at e; cases e
    | ok x S1 =>
      rw [e1, R.bnf_ok] at e
      cases e2 : b δ S1 with
      | fail => rw [e2] at e; cases e
      | exc C z S1 => rw [e2] at e; cases e
      | ok y S2 =>
        rw [e2, R.bnf_ok] at e
        cases e3 : mPairs ps δ S2 with
        | fail => rw [e3] at e; cases e
        | exc C z S1 => rw [e3] at e; cases e
        | ok qs S3 =>
          rw [e3, R.bnf_ok] at e
          cases e4 : keyP x with
          | none => simp only [e4] at e; cases e
          | some c =>
            simp only [e4] at e
            cases e
            show tk σ H fun x H1 => tv σ H1 fun y H2 => tPairs ts σ H2 fun ps H3 => Q ((x, y) :: ps) H3
            refine ha ι X S H σ δ _ rel re ?_
            rw [e1]
            intro ι1 H1 v x1 rel1 rv
            refine hb ι1 X S1 H1 σ δ _ rel1 (re.ext x1) ?_
            rw [e2]
            intro ι2 H2 u x2 rel2 ru
            refine ih rel2 ((re.ext x1).ext x2) e3 fun ι3 H3 xs x3 rel3 g => ?_
            rw [keyP_rep e4 rv]
            exact k ι3 H3 ((c, u) :: xs) ((x1.trans x2).trans x3) rel3 ⟨u, xs, rfl, ru.ext x3, g⟩
end
end M3
namespace M3
open PySem PySem.Spec PyProof.Rows L2
variable [TabsP]
theorem fun_ofD {K : PySem.W.Frag} {x q : Str} {st : Stmt} {f : Addr} {fd : FuncData} (F : FunD K x q (defArgs st) (defBody st) (defScope st) [] [] f fd) : Fun K x q st f fd := by
  obtain ⟨oc, od, dV, kV, doc, pm, an, cdv, ct, osl, e, l, c, d, _⟩ := F.ex
  have : dV = .none := by
    rcases d with ⟨_, z⟩ | ⟨z, _⟩
    · exact z
    · exact absurd rfl z
  subst this
  exact ⟨⟨oc, od, kV, doc, pm, an, cdv, ct, osl, e, l, c⟩, F.kp⟩
theorem def_ofD {K : PySem.W.Frag} {h : Heap} {mg : Str → Option Value} {x : Str} {st : Stmt} {ps : List Str} {f : Addr} {fd : FuncData} (F : FunD K x x (defArgs st) (defBody st) (defScope st) [] [] f fd) (g : mg x = some (.ref f))
    (b : ∀ (kV doc pm : Value) (an : Option Addr) (cdv ct : Value) (us : List Value), us.length = ps.length → bindArgs (PySem.W.fnOf x x (defArgs st) (defBody st) (defScope st) .none kV doc pm an cdv ct) ⟨us, []⟩ = pure (ps.zip us)) : M3.Def K mg x st ps :=
  ⟨f, fd, fun_ofD F, g, (fun_ofD F).binds b⟩
/-- a check that is one of many -/
theorem all_at {l : List Bool} (h : l.all id = true) (i : Nat) {b : Bool} (e : l[i]? = some b) : b = true := List.all_eq_true.mp h b (List.mem_of_getElem? e)
theorem xc_ok {K : PySem.W.Frag} {C : Addr} (h : xcB K C = true) : ∃ nm q N bs bm sn sub ab col dd k0 k1 k2 k3 k5, K.lookup C = some (excClassObj nm q C N bs bm true sn sub ab col dd k0 k1 k2 k3 k5 "ValueError.__new__") ∧ PySem.HandSPX.refsVE bm = true := by
  unfold xcB at h
  split at h
  · rename_i t dd cd sl e
    obtain ⟨nm, bs, mro, ns, q, hd, sn, sub, ab, col, del⟩ := cd
    obtain ⟨sl⟩ := sl
    simp only at h
    split at h
    · rename_i C' bm k0 k1 k2 k3 n k5
      simp only [Bool.and_eq_true, decide_eq_true_eq, Bool.not_eq_true'] at h
      obtain ⟨h1, h2, h3, h4, h5, h6⟩ := h
      subst h1 h2 h3 h4 h5
      exact ⟨nm, q, ns, bs, bm, sn, sub, ab, col, dd, k0, k1, k2, k3, k5, e, h6⟩
    · cases h
  · cases h
theorem kd_ok {K : PySem.W.Frag} {x q : Str} {st : Stmt} {f : Addr} {fd : FuncData} (F : FunD K x q (defArgs st) (defBody st) (defScope st) [] [] f fd) (h : kdB K f = true) : ∃ (oc : Value) (od : Option Addr) (doc pm : Value) (an : Option Addr) (cdv ct : Value) (osl : Array (Option Value)),
    K.lookup f = some ⟨oc, od, .func (PySem.W.fnOf x q (defArgs st) (defBody st) (defScope st) .none .none doc pm an cdv ct), osl⟩ ∧ PySem.W.codeIn K cdv q = true := by
  obtain ⟨oc, od, kV, doc, pm, an, cdv, ct, osl, e, l, c⟩ := (fun_ofD F).ex
  subst e
  unfold kdB at h
  rw [l] at h
  have : kV = .none := of_decide_eq_true h
  subst this
  exact ⟨oc, od, doc, pm, an, cdv, ct, osl, l, c⟩
end M3
namespace M3
open PySem PySem.Spec PyProof.Rows L2
end M3
namespace M3
open PySem PySem.Spec PyProof.Rows L2
end M3
namespace PySem
namespace W
end W
end PySem
namespace M3
open PySem PySem.Spec PyProof.Rows L2
end M3
namespace M3
open PySem PySem.Spec PyProof.Rows L2
variable [TabsP]
def blsP : List P → Option (List Bool)
  | [] => some []
  | .bl b :: ps => (blsP ps).map fun bs => b :: bs
  | _ => none
theorem blsP_eq : ∀ {ps : List P} {bs : List Bool}, blsP ps = some bs → ps = bs.map P.bl
  | [], bs, h => by cases h; rfl
  | p :: ps, bs, h => by
    cases p with
    | bl b =>
      rw [blsP] at h
      cases e : blsP ps with
      | none => rw [e] at h; cases h
      | some cs =>
        rw [e] at h
        cases h
        rw [List.map_cons, ← blsP_eq e]
    | _ => cases h
def fCountB : Store → D → List D → Option D := fun S x ds => match ds with
  | [.dat (.bl b)] => ((listP S x).bind blsP).map fun l => dInt (l.count b : Nat)
  | _ => none
def rCntB (K : PySem.W.Frag) : V → List V → Hp → VK → Prop := fun x xs H Q => ∃ (p : Addr) (bs : List Bool) (b : Bool), x = .ref p ∧ xs = [.bl b] ∧ SqL K H p (bs.map V.bl) ∧ Q (.int (bs.count b : Nat)) H
theorem bools_read {h : Heap} : ∀ {bs : List Bool} {its : List Value}, Vals (bs.map V.bl) its → ReadsAll h its (bs.map PyData.bool) []
  | [], its, r => by cases r; exact .nil
  | b :: bs, its, r => by
    cases r with
    | cons a r => cases a; exact .cons (.bool b) (bools_read r)
theorem cnt_bools (b : Bool) : ∀ bs : List Bool, (bs.map PyData.bool).countP (fun y => PyData.eqv y (.bool b)) = bs.count b
  | [] => rfl
  | c :: bs => by
    rw [List.map_cons, List.countP_cons, cnt_bools b bs, List.count_cons]
    cases b <;> cases c <;> rfl
theorem plain_bools : ∀ bs : List Bool, PyData.plainAll (bs.map PyData.bool) = true
  | [] => rfl
  | c :: bs => by
    rw [List.map_cons, PyData.plainAll, plain_bools bs]; rfl
theorem mt_lcountB {X : Cx} {K : PySem.W.Frag} (h : X.K = K) (hu : X.A.units + 64 < cLine) : MtR X "list.count" (rCntB K) := by
  subst h
  intro pins s σ H x xs v us Q I rx rxs h
  obtain ⟨p, bs, b, rfl, rfl, hs, q⟩ := h
  cases rx
  obtain ⟨u, rfl, ru⟩ := rxs.one
  cases ru
  obtain ⟨its, rv, hl, hlen⟩ := I.list hs
  refine PySem.SeqAt.count_list_data hl.isList (bools_read rv) (.bool b) (plain_bools bs) rfl ?_ ?_
  · have : min (PyData.depthAll (bs.map PyData.bool)) (PyData.depth (.bool b)) ≤ 1 := Nat.le_trans (Nat.min_le_right _ _) (Nat.le_of_ble_eq_true rfl)
    omega
  · refine ⟨.int (bs.count b : Nat), H, I.tok _, ⟨s.toks, ?_⟩, q⟩
    rw [cnt_bools]
theorem bools_rep {K : PySem.W.Frag} {ι X : List Addr} {H : Hp} : ∀ {bs : List Bool} {xs : List V}, RepPs K ι X H (bs.map P.bl) xs → xs = bs.map V.bl
  | [], xs, g => by rw [List.map_nil, RepPs] at g; exact g
  | c :: cs, xs, g => by
    rw [List.map_cons, RepPs] at g
    obtain ⟨y, ys, rfl, r1, r2⟩ := g
    rw [RepP] at r1
    rw [r1, bools_rep r2]; rfl
theorem countB_ok {K : PySem.W.Frag} : MSim K (fun x xs H Q => rCntB K x xs H Q) (rdM fCountB) := rdM_ok fun ι X S H x v ds vs d Q rel rx rvs e k => by
  unfold fCountB at e
  split at e
  · rename_i b
    cases q : listP S x with
    | none => rw [q] at e; cases e
    | some l =>
      rw [q] at e
      obtain ⟨a, xs, rfl, f, g⟩ := listP_rep rel q rx
      cases q2 : blsP l with
      | none => simp only [Option.bind_some, q2] at e; cases e
      | some bs =>
        simp only [Option.bind_some, q2, Option.map_some] at e
        cases e
        obtain ⟨u, rfl, ru⟩ := repDs_one rvs
        have eu : u = .bl b := by
          have : RepP K ι X H (.bl b) u := ru
          rw [RepP] at this
          exact this
        subst eu
        have exs : xs = bs.map V.bl := bools_rep (by rw [← blsP_eq q2]; exact g)
        subst exs
        exact ⟨a, bs, b, rfl, rfl, SqL.of f, k H _ Ext.refl rel rd_int⟩
  · cases e
def aIsE (K : PySem.W.Frag) (C a : Addr) : Store → List D → Option D := fun _ ds => match ds with
  | [.dat (.con (.ref b)), c] => if b = a then (clsD c).bind fun u => (PySem.W.kitOne K (.ref C) u).map dBl else none
  | _ => none
theorem clsV_all {c : V} {u : Value} (h : ClsV c u) : ∀ w, L2.RelV c w → w = u := fun w r => h.eq r
theorem call_isEM {X : Cx} {K : PySem.W.Frag} {a D : Addr} {oe : Obj} {pn : List (Addr × Obj)} (h : X.K = K) (C : ExcC K D) (hz : Zc (.ref D) none oe) (hf : ∃ vs, oe.data = .fields vs) : CallR (X.suite a ((a, oe) :: pn)) (.builtin "isinstance") (rIsE K D a) := by
  subst h
  exact call_isE C hz hf
theorem isE_ok {K : PySem.W.Frag} {C a : Addr} : RCS K (rIsE K C a) (aIsE K C a) := by
  intro ι X S H ds vs d Q rel rv e k
  unfold aIsE at e
  split at e
  · rename_i b c
    by_cases hb : b = a
    · rw [if_pos hb] at e
      subst hb
      obtain ⟨v, w, rfl, r1, r2⟩ := repDs_two rv
      cases q : clsD c with
      | none => rw [q] at e; cases e
      | some u =>
        rw [q, Option.bind_some] at e
        cases q2 : PySem.W.kitOne K (.ref C) u with
        | none => rw [q2] at e; cases e
        | some bb =>
          rw [q2] at e
          cases e
          have ev := rC_inv r1
          subst ev
          exact ⟨w, u, bb, rfl, clsV_all (clsD_rep q r2), q2, k H _ Ext.refl rel rd_bl⟩
    · rw [if_neg hb] at e; cases e
  · cases e
/-- what the def makes of a reading that is answered by r -/
def TTM (K : PySem.W.Frag) (wm : R D → R D) : (XK → Hp → VK → Prop) → Hp → VK → Prop := fun tl H Q => ∃ ι X S r, Rel K ι X S H ∧
  (∀ ι1 H1, Ext ι H ι1 H1 → Rel K ι1 X S H1 → ∀ (E : XK) (Q' : VK), Post K X ι1 H1 (fun c da H' => E c da H') r (fun ι' H' d v => RepD K ι' X H' d v) Q' → tl E H1 Q') ∧
  Post K X ι H (fun _ _ _ => False) (wm r) (fun ι' H' d v => RepD K ι' X H' d v) Q
def mLamW (wm : R D → R D) (m : DE) : DE := fun δ S => match wm (m δ S) with
  | .ok d S' => .ok d S'
  | _ => .fail
theorem rel_extN {K : PySem.W.Frag} {ι X : List Addr} {S : Store} {H H1 : Hp} (rel : Rel K ι X S H) (e : LamX.ExtN H H1) (t : LamX.Tabs TabsP.T H1) : Ext ι H ι H1 ∧ Rel K ι X S H1 := by
  have x : Ext ι H ι H1 := ⟨⟨[], by simp⟩, fun b o _ h z => e b o h z, fun b m n => absurd m n, fun _ => t⟩
  refine ⟨x, rel.keep (Out1.ext x) rfl (fun a m => ?_) (fun a m => ⟨(rel.ex a m).1, ?_⟩) t⟩
  · obtain ⟨u, eu, pu⟩ := rel.pl m
    rw [eu, e a u eu pu.1]
  · obtain ⟨_, u, eu, zu⟩ := rel.ex a m
    exact ⟨u, e a u eu zu, zu⟩
theorem se_lamcall {K : PySem.W.Frag} {W : L2.St → WK} {wm : R D → R D} {t : XK → TE} {m : DE} (hm : ∀ E : XK, SE K (wk fun cls d _ H => E cls d H) (t E) m) : SE K W (LamX.tLam TabsP.T (TTM K wm) t) (mLamW wm m) := by
  intro ι X S H σ δ Q rel re h
  refine ⟨rel.tabs, fun H1 eN T1 => ?_⟩
  obtain ⟨x1, rel1⟩ := rel_extN rel eN T1
  refine ⟨ι, X, S, m δ S, rel1, fun ι2 H2 x2 rel2 E Q' hp => hm E ι2 X S H2 σ δ Q' rel2 ((re.ext x1).ext x2) hp, ?_⟩
  unfold mLamW at h
  cases e : wm (m δ S) with
  | fail => rw [e] at h; exact h
  | exc C x S' => rw [e] at h; exact h.elim
  | ok d S' =>
    rw [e] at h
    exact fun ι' H' v x => h ι' H' v (x1.trans x)
/-- the word of a class -/
def wordOf (l : List (Addr × Str)) (C : Addr) : Option Str := (l.find? fun p => p.1 == C).map (·.2)
theorem wordOf_mem {l : List (Addr × Str)} {C : Addr} {w : Str} (h : wordOf l C = some w) : (C, w) ∈ l := by
  unfold wordOf at h
  cases e : l.find? fun p => p.1 == C with
  | none => rw [e] at h; cases h
  | some p =>
    rw [e] at h
    cases h
    have e2 := List.find?_some e
    have e1 : p.1 = C := eq_of_beq e2
    rw [← e1]
    exact List.mem_of_find?_eq_some e
def mWord (l : List (Addr × Str)) : R D → R D := fun r => match r with
  | .ok _ S => .ok (.dat (.str "let")) S
  | .exc C none S => match wordOf l C with
    | some w => .ok (.dat (.str w)) S
    | none => .fail
  | _ => .fail
theorem takes_len {X : Cx} {W : WX} (tk : Takes X W) : Takes X (fun c d σ H => σ.length = X.N.length → W c d σ H) := fun u s' ⟨a, B, sI, pins, σ, H, cls, d, e, I, nb, up, sky, na, os, ag, w⟩ =>
  tk u s' ⟨a, B, sI, pins, σ, H, cls, d, e, I, nb, up, sky, na, os, ag, w I.len⟩
abbrev lcx (X : Cx) (Ng : List Str) (x : Str) (sg : Scope) (g : Addr) (cdg : Value) (s : Shared) (H : Hp) : Cx := (cxOf C8.CX0 X.prog X.w X.K X.mg X.base Ng x sg g cdg X.A X.stack s H C8.E0).nox
theorem gives_word {X : Cx} {K : PySem.W.Frag} {Ng : List Str} {x a e n q : Str} {sg : Scope} {g CS : Addr} {cdg : Value} {l : List (Addr × Str)} {i j : Nat} {s1 s3 b₀ : Stmt} {suite : List Stmt} {t1 t3 : TS} {ts : Addr × Str → Addr → TS} {m1 m3 : DS} {ms : Addr → Addr → DS} {p1 p2 p3 p4 p5 p6 : Pos}
    (hK : X.K = K) (hge : sg.names.lookup e = some .globalImplicit) (hde : (e == ("__debug__" : Str)) = false) (hme : X.mg e = some (.ref CS)) (hNd : Ng.Nodup) (hNi : Ng[i]? = some n) (hln : ∀ L f cd, (envOfC x sg L f cd).kindOf n = some .local) (hN0 : 0 < Ng.length) (hij : i ≠ j) (hi0 : i ≠ 0)
    (hl : ∀ p ∈ l, PySem.W.exmOne K (.ref p.1) (.ref CS) = some true)
    (h1 : ∀ s H, PS (lcx X Ng x sg g cdg s H) s1 t1) (hs1 : SS K WF t1 m1) (hm1 : ∀ (d : D) S, ∃ δ1, m1 (some d :: List.replicate (Ng.length - 1) none) S = .ok (.nx δ1) S ∧ δ1[0]? = some (some d) ∧ δ1[j]? = some (some (.dat (.str "let"))))
    (h3 : ∀ s H, PS (lcx X Ng x sg g cdg s H) s3 t3) (hs3 : SS K WF t3 m3) (hm3 : ∀ δ S d, δ[j]? = some (some d) → m3 δ S = .ok (.rt d) S)
    (h2 : ∀ p ∈ l, ∀ s H aa oe pn, Zc (.ref p.1) none oe → (∃ vs, oe.data = .fields vs) → PSs ((lcx X Ng x sg g cdg s H).suite aa ((aa, oe) :: pn)) (b₀ :: suite) (ts p aa)) (hs2 : ∀ p ∈ l, ∀ aa, SS K WF (ts p aa) (ms p.1 aa))
    (hm2 : ∀ p ∈ l, ∀ aa S, ∃ δ2, ms p.1 aa ((List.replicate Ng.length none).set i (some (.dat (.con (.ref aa))))) S = .ok (.nx δ2) S ∧ δ2[j]? = some (some (.dat (.str p.2)))) :
    LamX.GivesTo X Ng x sg g cdg [s1, .Try [.Expr (.Call (.Name a p1) [] [] p2) p3] [.ExceptHandler (some (.Name e p4)) (some n) (b₀ :: suite) p5] [] [] p6, s3] a q (TTM K (mWord l)) := by
  subst hK
  intro f c' s H Q tl act hc h
  obtain ⟨ι, X0, S, r, rel, htl, hp⟩ := h
  have hgl : Gl (lcx X Ng x sg g cdg s H) e := hge
  have hit : i < Ng.length := (List.getElem?_eq_some_iff.mp hNi).1
  have d2 : PS (lcx X Ng x sg g cdg s H) (.Try [.Expr (.Call (.Name a p1) [] [] p2) p3] [.ExceptHandler (some (.Name e p4)) (some n) (b₀ :: suite) p5] [] [] p6)
      (tTry (fun W D σ H => ∃ Ech : XK, (∀ cls d σ' H', Ech cls d H' → σ'.length = Ng.length → W cls d σ' H') ∧ σ[0]? = some (some (.ref f)) ∧ H c' = some (LamX.CodeO c' q) ∧ tl Ech H (fun v H' => D.nx σ H'))
        (wAs X.K (.ref CS) i (fun aa cls d D σ H => ∃ p, p ∈ l ∧ cls = .ref p.1 ∧ d = none ∧ ts p aa D σ H) (fun _ _ _ _ => False))) := by
    refine ps_tryA (X := lcx X Ng x sg g cdg s H) (x := e) (n := n) (c := .ref CS) rfl rfl hNd hNi (hln _ _ _) ⟨hgl, hde, .inl hme⟩ LamX.takes0 (fun W pn xe tk po => ?_) (fun aa oe cls d pn hz hf => ?_)
    · refine ⟨fun pins s' σ H' D I h' => ?_⟩
      obtain ⟨Ech, hW, h1', h2', h3'⟩ := h'
      have hpx := act (fun c d σ H => σ.length = Ng.length → W c d σ H) pn xe Ech p1 p2 (takes_len (X := (lcx X Ng x sg g cdg s H).tr pn xe) tk) hW
      have hq := pss_one (ps_expr (pos := p3) hpx)
      exact hq.run pins s' σ H' D I ⟨h1', h2', h3'⟩
    · refine ⟨fun pins s' σ H' D I h' => ?_⟩
      obtain ⟨p, hpl, rfl, rfl, ht⟩ := h'
      exact (h2 p hpl s H aa oe pn hz hf).run pins s' σ H' D I ht
  refine ⟨_, pss_cons (h1 s H) (pss_cons d2 (pss_one (h3 s H))), ?_⟩
  -- the first row
  obtain ⟨δ1, em1, e10, e1j⟩ := hm1 (.dat (.con (.ref f))) S
  have hci : c' ∉ ι := fun m => by
    obtain ⟨u, eu, pu⟩ := rel.pl m
    rw [hc] at eu
    cases eu
    unfold LamX.CodeO at pu
    exact pu.2 _ rfl
  have re0 : RepE X.K ι X0 H (some (.dat (.con (.ref f))) :: List.replicate (Ng.length - 1) none) (L2.start Ng [.ref f]) := by
    have := repE_start (K := X.K) (ι := ι) (X := X0) (H := H) (N := Ng) (ds := [.dat (.con (.ref f))]) (vs := [.ref f]) ⟨.ref f, [], rfl, (show RepP X.K ι X0 H (.con (.ref f)) (.ref f) from rp_con), rfl⟩ (Ng.length - 1)
    exact this
  show t1 _ _ _
  refine hs1 ι X0 S H _ _ _ rel re0 ?_
  rw [em1]
  intro ι1 H1 σ1 x1 rel1 re1
  -- the try
  have hc1 : H1 c' = some (LamX.CodeO c' q) := x1.old c' _ hci hc (fun ps => LamX.codeO_ne ps)
  have e0 : σ1[0]? = some (some (.ref f)) := by
    obtain ⟨v, ev, rv⟩ := re1.2 0 _ e10
    have := rC_inv rv
    rw [ev, this]
  dsimp only [tSeq, tTry]
  refine ⟨_, fun cls d σ' H' he hn => he σ' hn, e0, hc1, htl ι1 H1 x1 rel1 (fun cls d H' => ∀ σ' : L2.St, σ'.length = Ng.length → wAs X.K (.ref CS) i (fun aa cls d D σ H => ∃ p, p ∈ l ∧ cls = .ref p.1 ∧ d = none ∧ ts p aa D σ H) (fun _ _ _ _ => False) _ cls d σ' H') _ ?_⟩
  cases r with
  | fail => exact hp.elim
  | ok d S' =>
    intro ι2 H2 v x2 rel2 rv
    refine hs3 ι2 X0 S' H2 σ1 δ1 _ rel2 (re1.ext x2) ?_
    rw [hm3 δ1 S' _ e1j]
    exact fun ι3 H3 u x3 rel3 ru => hp ι3 H3 u ((x1.trans x2).trans x3) rel3 ru
  | exc C z S' =>
    cases z with
    | some z => exact hp.elim
    | none =>
      unfold mWord at hp
      cases ew : wordOf l C with
      | none => simp only [ew] at hp; exact hp.elim
      | some w =>
        simp only [ew] at hp
        have hm := wordOf_mem ew
        intro ι2 H2 da x2 rel2 rx σ' hn
        have : da = none := rx
        subst this
        refine ⟨true, hl _ hm, fun _ aa ha => ⟨(C, w), hm, rfl, rfl, ?_⟩, fun z => by cases z⟩
        obtain ⟨δ2, em2, e2j⟩ := hm2 _ hm aa S'
        have re2 : RepE X.K ι2 X0 H2 ((List.replicate Ng.length none).set i (some (.dat (.con (.ref aa))))) (σ'.set i (some (.ref aa))) := by
          have r0 : RepE X.K ι2 X0 H2 (List.replicate Ng.length none) σ' := ⟨by rw [List.length_replicate, hn], fun k d ek => by
            rw [List.getElem?_replicate] at ek
            split at ek <;> cases ek⟩
          exact r0.set (show RepD X.K ι2 X0 H2 (.dat (.con (.ref aa))) (.ref aa) from (show RepP X.K ι2 X0 H2 (.con (.ref aa)) (.ref aa) from rp_con))
        refine hs2 _ hm aa ι2 X0 S' H2 _ _ _ rel2 re2 ?_
        rw [em2]
        intro ι3 H3 σ3 x3 rel3 re3
        show t3 _ (σ3.set i none) H3
        refine hs3 ι3 X0 S' H3 _ (δ2.set i none) _ rel3 re3.wipe1 ?_
        rw [hm3 _ S' (.dat (.str w)) (by rw [List.getElem?_set_ne hij]; exact e2j)]
        exact fun ι4 H4 u x4 rel4 ru => hp ι4 H4 u (((x1.trans x2).trans x3).trans x4) rel4 ru
theorem pe_lamW {X : Cx} {st : Stmt} {wm : R D → R D} {x a : Str} {c P : Addr} {k j : Nat} {Ng : List Str} {params : Arguments} {body : Expr} {scope : Scope} {t : XK → TE} {p lpos pos : Pos} (hg : Gl X x) (D : M3.Def X.K X.mg x st [a]) (Sg : FnScope Ng [a] (defScope st)) (hNg : Ng[0]? = some a) (hva : Vis (defScope st) a)
    (hG : ∀ g cdv, LamX.GivesTo X Ng x (defScope st) g cdv (defBody st) a (X.env.qual ++ "<lambda>") (TTM X.K wm)) (TB : LamX.TabB X.base X.mg c P) (hcode : X.env.code = .ref c) (hmT : (P, X.env.qual ++ "<lambda>") ∈ TabsP.T) (hu : ∀ p ∈ TabsP.T, p.1 = P → p.2 = X.env.qual ++ "<lambda>")
    (hr : Room j X.A) (hj : k + 2 ≤ j) (L : LamX.LamS X.env.scope scope) (hdef : defaultsOf params X.env = ([], [])) (hbind : ∀ (q : Str) (cl : List (Str × Addr)) (pm cv ctv : Value), bindArgs (PySem.W.kla_fn "<lambda>" q params body scope cl pm cv ctv) ⟨[], []⟩ = pure [])
    (hbody : ∀ (A : Around) (outer : List Env) (s : Shared) (H : Hp) (E : XK) (f c' : Addr), Room k (A.deeper (LamX.lamEnv X scope s.heap.objs.size f c')) → PE (LamX.lamCx X A outer s H E scope f c') body (t E))
    (hdb : (x == ("__debug__" : Str)) = false := by decide) (hd : (a == ("__debug__" : Str)) = false := by decide) (hcd : (a == ("__classdict__" : Str)) = false := by decide) :
    PE X (.Call (.Name x p) [.Lambda params body scope lpos] [] pos) (LamX.tLam TabsP.T (TTM X.K wm) t) := by
  obtain ⟨g, fd, F, hm, b⟩ := D.ex
  obtain ⟨oc, od, kV, doc, pm, an, cdv, ct, osl, rfl, lk, hcg⟩ := F.ex
  exact LamX.pe_lamcall hg hm F.kp lk hcg b Sg hNg hva (hG g cdv) TB hcode hmT hu (hr.mono hj) L hdef hbind hbody hdb hd hcd
/-- a def, its code object known -/
theorem fun_okXc {P : Program} {w : World} {K : PySem.W.Frag} {mg : Str → Option Value} {base : Heap} {x qual : Str} {st : Stmt} {f : Addr} {fd : FuncData} {N ps : List Str} {k : Nat} {sp : Sp} (F : Fun K x qual st f fd) (S : FnScope N ps (defScope st)) (len : ∀ vs H Q E, sp vs H Q E → vs.length = ps.length)
    (hbody : ∀ (cdv : Value) (A : Around) (outer : List Env) (s : Shared) (H : Hp) (vs : List V) (Q : VK) (E : XK), fd.code = cdv → Room k (A.deeper (envOfC qual (defScope st) s.heap.objs.size f cdv)) → sp vs H Q E →
      ∃ t, PSs (cxOf (L2.CX P w) P w K mg base N qual (defScope st) f cdv A outer s H E) (defBody st) t ∧ t { nx := fun _ H' => Q .non H', rt := Q } (L2.start N vs) H) : FnOk P w K mg base (L2.CX P w) (k + 1) f fd ps sp := by
  obtain ⟨oc, od, kV, doc, pm, an, cdv, ct, osl, rfl, lk, hcd⟩ := F.ex
  exact fn_of lk hcd S len fun A outer s H vs Q E hr hsp => hbody cdv A outer s H vs Q E rfl hr hsp
/-- a def's code object, by the head's reading -/
theorem code_ofD {K : PySem.W.Frag} {d : He.Defn} {x q : Str} {st : Stmt} {f : Addr} {fd : FuncData} (F : FunD K x q (defArgs st) (defBody st) (defScope st) [] [] f fd) (e : He.fAd K d = f) : fd.code = .ref (He.cT K d).1 := by
  obtain ⟨oc, od, dV, kV, doc, pm, an, cdv, ct, osl, rfl, lk, hc, _⟩ := F.ex
  obtain ⟨c, rfl⟩ := He.codeIn_ref hc
  subst e
  show Value.ref c = .ref (He.codeOf K d)
  rw [He.codeOf_eq lk rfl]
end M3
namespace M3
open PySem PySem.Spec PyProof.Rows L2
variable [TabsP]
def mCallV (i : Nat) (tb : List (Addr × (List D → Store → R D))) (a : DA) : DE := fun δ S => match δ[i]? with
  | some (some (.dat (.con (.ref f)))) => (match tb.find? fun p => p.1 == f with
    | some p => mDef 1 p.2 a δ S
    | none => .fail)
  | _ => .fail
def tCallVs (i : Nat) (l : List (Addr × Sp)) (E : XK) (t : TA) : TE := fun σ H Q => ∃ p, p ∈ l ∧ tCallL i p.1 p.2 [] E t σ H Q
/-- what is asked of each -/
def HeldV (P : Program) (w : World) (K : PySem.W.Frag) (mg : Str → Option Value) (base : Heap) (j : Nat) (f : Addr) (sp : Sp) : Prop :=
  ∃ (k : Nat) (fd : FuncData) (ps : List Str), FnOk P w K mg base (L2.CX P w) k f fd ps sp ∧ k ≤ j ∧ PySem.W.keepIn K (.ref f) = true ∧ Binds K fd ps []
theorem Cal.held {P : Program} {w : World} {K : PySem.W.Frag} {mg : Str → Option Value} {base : Heap} {k j : Nat} {x : Str} {ps : List Str} {sp : Sp} {f : Addr} (C : Cal P w K mg base k x ps sp) (h : k ≤ j) (hm : mg x = some (.ref f)) : HeldV P w K mg base j f sp := by
  obtain ⟨f', fd, F, hm', kp, b⟩ := C.ex
  rw [hm] at hm'
  cases hm'
  exact ⟨k, fd, ps, F, h, kp, b⟩
inductive HeldVs (P : Program) (w : World) (K : PySem.W.Frag) (mg : Str → Option Value) (base : Heap) (j : Nat) : List (Addr × (List D → Store → R D)) → Prop
  | nil : HeldVs P w K mg base j []
  | cons {f : Addr} {m : List D → Store → R D} {tb : List (Addr × (List D → Store → R D))} (h : HeldV P w K mg base j f (spM K 1 m)) (t : HeldVs P w K mg base j tb) : HeldVs P w K mg base j ((f, m) :: tb)
theorem HeldVs.at_ {P : Program} {w : World} {K : PySem.W.Frag} {mg : Str → Option Value} {base : Heap} {j : Nat} {tb : List (Addr × (List D → Store → R D))} (h : HeldVs P w K mg base j tb) : ∀ p ∈ tb, HeldV P w K mg base j p.1 (spM K 1 p.2) := by
  induction h with
  | nil => exact fun _ m => nomatch m
  | cons h t ih =>
    intro p m
    cases m with
    | head => exact h
    | tail _ m => exact ih p m
def spTb (K : PySem.W.Frag) (tb : List (Addr × (List D → Store → R D))) : List (Addr × Sp) := tb.map fun p => (p.1, spM K 1 p.2)
theorem pe_callVs {X : Cx} {K : PySem.W.Frag} {tb : List (Addr × (List D → Store → R D))} {E : XK} {i j : Nat} {x : Str} {p pos : Pos} {e : Expr} {es : List Expr} {t : TA} (hl : HeldVs X.prog X.w K X.mg X.base j tb) (hK : X.K = K) (hr : Room j X.A) (tk : Takes X (fun c d _ H => E c d H)) (hN : X.N[i]? = some x) (hv : Vis X.env.scope x) (ha : PA X (e :: es) t)
    (hdb : (x == ("__debug__" : Str)) = false := by decide) (hcd : (x == ("__classdict__" : Str)) = false := by decide) (he : starEach (e :: es) X.env = (false, eval e X.env) :: starEach es X.env := by rfl) (hpl : (backTo pos (starEach es X.env)).any (·.1) = false := by rfl) :
    PE X (.Call (.Name x p) (e :: es) [] pos) (tCallVs i (spTb K tb) E t) := by
  subst hK
  refine ⟨fun pins s σ H Q I h => ?_⟩
  obtain ⟨q, hq, h⟩ := h
  obtain ⟨z, hz, rfl⟩ := List.mem_map.mp hq
  obtain ⟨k, fd, ps, F, hk, kp, b⟩ := hl.at_ z hz
  exact (pe_callL (p := p) F (hr.mono hk) hN hv kp b .nil (passes_call tk fun _ _ _ _ h => h) ha hdb hcd he hpl).run pins s σ H Q I h
theorem se_callVs {K : PySem.W.Frag} {E : XK} {i : Nat} {tb : List (Addr × (List D → Store → R D))} {t : TA} {a : DA} (ha : SA K (wk fun c d _ H => E c d H) t a) : SE K (wk fun c d _ H => E c d H) (tCallVs i (spTb K tb) E t) (mCallV i tb a) := by
  intro ι X S H σ δ Q rel re h
  unfold mCallV at h
  split at h
  · rename_i f e
    cases q : tb.find? fun p => p.1 == f with
    | none => rw [q] at h; exact h.elim
    | some p =>
      simp only [q] at h
      have hf1 := List.find?_some (p := fun p : Addr × (List D → Store → R D) => p.1 == f) q
      have hf : p.1 = f := eq_of_beq hf1
      obtain ⟨v, ev, rv⟩ := re.2 i _ e
      have := rC_inv rv
      subst this
      refine ⟨(p.1, spM K 1 p.2), List.mem_map.mpr ⟨p, List.mem_of_find?_eq_some q, rfl⟩, ?_, ?_⟩
      · rw [ev, hf]
      · refine ha ι X S H σ δ _ rel re (Post.bind h fun ι1 H1 ds S1 vs x1 rel1 rv h1 => ?_)
        rw [List.append_nil]
        by_cases hn : ds.length = 1
        · rw [if_pos hn] at h1
          exact ⟨by rw [repDs_len rv]; exact hn, ι1, X, S1, ds, rel1, rv, h1⟩
        · rw [if_neg hn] at h1
          exact h1.elim
  · exact h.elim
def datKV : List (Key × D) → Option (List (P × P))
  | [] => some []
  | (k, .dat p) :: l => (datKV l).map fun r => (.con (kV k), p) :: r
  | (_, .obj _) :: _ => none
theorem datKV_rep {K : PySem.W.Frag} {ι X : List Addr} {H : Hp} : ∀ {l : List (Key × D)} {ps : List (P × P)} {xs : List (Key × V)}, datKV l = some ps → RepDK K ι X H l xs → RepKs K ι X H ps xs
  | [], ps, xs, e, r => by
    cases e
    rw [RepKs]
    exact r
  | (k, .dat p) :: l, ps, xs, e, ⟨y, ys, ev, f, g⟩ => by
    unfold datKV at e
    cases q : datKV l with
    | none => rw [q] at e; cases e
    | some qs =>
      rw [q] at e
      cases e
      rw [RepKs]
      exact ⟨k, y, ys, ev, by rw [RepP], f, datKV_rep q g⟩
  | (_, .obj _) :: _, _, _, e, _ => by cases e
def mDispF (ps : List (DE × DE)) : DE := fun δ S => (mPairs ps δ S).bnf fun kvs S1 => if kvs.length ≤ 15 then (match datKV (mergeKD [] kvs) with
  | some l => .ok (.dat (.dic l)) S1
  | none => .fail) else .fail
theorem se_dispF {K : PySem.W.Frag} {W : L2.St → WK} {trs : List (TE × TE)} {ms : List (DE × DE)} (hp : SPs K W trs ms) : SE K W (tDisp trs) (mDispF ms) := by
  intro ι X S H σ δ Q rel re h p hp0
  unfold mDispF at h
  cases e : mPairs ms δ S with
  | fail => rw [e] at h; exact h.elim
  | exc C z S1 => rw [e] at h; exact h.elim
  | ok kvs S1 =>
    rw [e, R.bnf_ok] at h
    by_cases hl : kvs.length ≤ 15
    · rw [if_pos hl] at h
      have x0 := ext_alloc (o := .dK []) rel hp0
      have o0 : Out1 ι X H ι (p :: X) (upd H p (.dK [])) := Out1.more hp0
      have hX : p ∉ X := (rel.nin hp0).2
      refine pairs_ok hp (rel.more hp0) (re.out o0) e fun ι2 H2 xs x2 rel2 g => ?_
      have np : p ∉ ι2 := (rel2.ex p List.mem_cons_self).1
      have hp2 : H2 p = some (.dK []) := x2.old p _ (rel.nin hp0).1 upd_same nt_dK
      refine ⟨hp2, xs, rfl, by rw [repDK_len g]; exact hl, ?_⟩
      have o3 : Out1 ι2 (p :: X) H2 ι2 (p :: X) (upd H2 p (.dK (mergeK [] xs))) := ⟨fun e => e, fun a o n m e nt => ⟨by rw [upd_ne (fun z => m (by rw [z]; exact List.mem_cons_self))]; exact e, n, m⟩⟩
      have rel3 : Rel K ι2 (p :: X) S1 (upd H2 p (.dK (mergeK [] xs))) := rel2.keep o3 rfl (fun a m => upd_ne (fun z => np (by rw [← z]; exact m))) (fun a m => by
        by_cases z : a = p
        · subst z; exact ⟨np, _, upd_same, nt_dK⟩
        · obtain ⟨n, o, eo, zo⟩ := rel2.ex a m
          exact ⟨n, o, by rw [upd_ne z]; exact eo, zo⟩) (tabs_put hp2 ⟨nt_dK, fun f z => by cases z⟩ rel2.tabs)
      have ext3 : Ext ι H ι2 (upd H2 p (.dK (mergeK [] xs))) := by
        refine ⟨x2.pre, fun b o n eb zb => ?_, fun b m n o eb zb => ?_, fun t => tabs_put hp2 ⟨nt_dK, fun f z => by cases z⟩ (x2.tab (tabs_new hp0 t))⟩
        · have nb : b ≠ p := fun z => by rw [z, hp0] at eb; cases eb
          rw [upd_ne nb]
          exact x2.old b o n (by rw [upd_ne nb]; exact eb) zb
        · have nb : b ≠ p := fun z => np (by rw [← z]; exact m)
          exact x2.new b m n o (by rw [upd_ne nb]; exact eb) zb
      cases q : datKV (mergeKD [] kvs) with
      | none => rw [q] at h; exact h.elim
      | some l =>
        simp only [q] at h
        refine h _ _ _ ext3 rel3.less ?_
        show RepP K ι2 X _ (.dic l) _
        rw [RepP]
        exact ⟨p, mergeK [] xs, rfl, np, hX, upd_same, datKV_rep q (RepDK.out Out1.less (mergeKD_rep rfl (RepDK.out o3 g)))⟩
    · rw [if_neg hl] at h
      exact h.elim
end M3
namespace W3
open PySem PySem.Spec PyProof.Rows L2 M3
instance (priority := 1) tabsNone : TabsP := ⟨[]⟩
section
/-- what the pure part asks of the classes -/
structure Gx (g : G) : Prop where
  CS : g.CS = [g.Forest, g.Stand]
  FL : g.FL = [(g.Forest, ("parents" : Str)), (g.Forest, ("worths" : Str)), (g.Stand, ("up" : Str)), (g.Stand, ("left" : Str)), (g.Stand, ("right" : Str)), (g.Stand, ("turned" : Str)), (g.Stand, ("added" : Str)), (g.Stand, ("value" : Str))]
  k_Forest_int : PySem.W.kitOne g.K (.ref g.Forest) (.type "int") = some false
  k_Forest_bool : PySem.W.kitOne g.K (.ref g.Forest) (.type "bool") = some false
  k_Forest_tuple : PySem.W.kitOne g.K (.ref g.Forest) (.type "tuple") = some false
  kk_Forest_Forest : PySem.W.kitOne g.K (.ref g.Forest) (.ref g.Forest) = some true
  k_Stand_int : PySem.W.kitOne g.K (.ref g.Stand) (.type "int") = some false
  k_Stand_bool : PySem.W.kitOne g.K (.ref g.Stand) (.type "bool") = some false
  k_Stand_tuple : PySem.W.kitOne g.K (.ref g.Stand) (.type "tuple") = some false
  kk_Stand_Forest : PySem.W.kitOne g.K (.ref g.Stand) (.ref g.Forest) = some false
  t_NoneType_Forest : PySem.W.kitOne g.K (.type "NoneType") (.ref g.Forest) = some false
  t_int_Forest : PySem.W.kitOne g.K (.type "int") (.ref g.Forest) = some false
  t_bool_Forest : PySem.W.kitOne g.K (.type "bool") (.ref g.Forest) = some false
  t_tuple_Forest : PySem.W.kitOne g.K (.type "tuple") (.ref g.Forest) = some false
  t_list_Forest : PySem.W.kitOne g.K (.type "list") (.ref g.Forest) = some false
  t_str_Forest : PySem.W.kitOne g.K (.type "str") (.ref g.Forest) = some false
  t_dict_Forest : PySem.W.kitOne g.K (.type "dict") (.ref g.Forest) = some false
  ke_NoShape_NoShape : PySem.W.kitOne g.K (.ref g.NoShape) (.ref g.NoShape) = some true
  ke_NoShape_NoHouse : PySem.W.kitOne g.K (.ref g.NoShape) (.ref g.NoHouse) = some false
  ke_NoShape_NoTurn : PySem.W.kitOne g.K (.ref g.NoShape) (.ref g.NoTurn) = some false
  ke_NoShape_NoNumber : PySem.W.kitOne g.K (.ref g.NoShape) (.ref g.NoNumber) = some false
  ke_NoShape_ValueError : PySem.W.kitOne g.K (.ref g.NoShape) (.type "ValueError") = some true
  ke_NoHouse_NoShape : PySem.W.kitOne g.K (.ref g.NoHouse) (.ref g.NoShape) = some false
  ke_NoHouse_NoHouse : PySem.W.kitOne g.K (.ref g.NoHouse) (.ref g.NoHouse) = some true
  ke_NoHouse_NoTurn : PySem.W.kitOne g.K (.ref g.NoHouse) (.ref g.NoTurn) = some false
  ke_NoHouse_NoNumber : PySem.W.kitOne g.K (.ref g.NoHouse) (.ref g.NoNumber) = some false
  ke_NoHouse_ValueError : PySem.W.kitOne g.K (.ref g.NoHouse) (.type "ValueError") = some true
  ke_NoTurn_NoShape : PySem.W.kitOne g.K (.ref g.NoTurn) (.ref g.NoShape) = some false
  ke_NoTurn_NoHouse : PySem.W.kitOne g.K (.ref g.NoTurn) (.ref g.NoHouse) = some false
  ke_NoTurn_NoTurn : PySem.W.kitOne g.K (.ref g.NoTurn) (.ref g.NoTurn) = some true
  ke_NoTurn_NoNumber : PySem.W.kitOne g.K (.ref g.NoTurn) (.ref g.NoNumber) = some false
  ke_NoTurn_ValueError : PySem.W.kitOne g.K (.ref g.NoTurn) (.type "ValueError") = some true
  ke_NoNumber_NoShape : PySem.W.kitOne g.K (.ref g.NoNumber) (.ref g.NoShape) = some false
  ke_NoNumber_NoHouse : PySem.W.kitOne g.K (.ref g.NoNumber) (.ref g.NoHouse) = some false
  ke_NoNumber_NoTurn : PySem.W.kitOne g.K (.ref g.NoNumber) (.ref g.NoTurn) = some false
  ke_NoNumber_NoNumber : PySem.W.kitOne g.K (.ref g.NoNumber) (.ref g.NoNumber) = some true
  ke_NoNumber_ValueError : PySem.W.kitOne g.K (.ref g.NoNumber) (.type "ValueError") = some true
  nv_potential_rows : ¬ (g.V "potential" = g.V "rows")
  nv_potential_told_forest : ¬ (g.V "potential" = g.V "told_forest")
  nv_potential_weights : ¬ (g.V "potential" = g.V "weights")
  nv_rows_told_forest : ¬ (g.V "rows" = g.V "told_forest")
  nv_rows_weights : ¬ (g.V "rows" = g.V "weights")
  nv_told_forest_weights : ¬ (g.V "told_forest" = g.V "weights")
  x_BadForest_ForestError : PySem.W.exmOne g.K (.ref g.BadForest) (.ref g.ForestError) = some true
  x_NoHouse_ForestError : PySem.W.exmOne g.K (.ref g.NoHouse) (.ref g.ForestError) = some true
  x_NoNumber_ForestError : PySem.W.exmOne g.K (.ref g.NoNumber) (.ref g.ForestError) = some true
  x_NoShape_ForestError : PySem.W.exmOne g.K (.ref g.NoShape) (.ref g.ForestError) = some true
  x_NoTurn_ForestError : PySem.W.exmOne g.K (.ref g.NoTurn) (.ref g.ForestError) = some true
def wl_L_word (g : G) : List (Addr × Str) := [(g.NoShape, "shape"), (g.NoHouse, "house"), (g.NoTurn, "turn"), (g.NoNumber, "number")]
def m_is_integer (g : G) : List D → Store → R D := mBody 1 ((mRet (mAnd (mCall (aIsi g.K g.CS) (mCons (mVar 0) (mCons (mC (.con (.ty "int"))) mNil))) (mNot (mCall (aIsi g.K g.CS) (mCons (mVar 0) (mCons (mC (.con (.ty "bool"))) mNil)))))))
def m_come_to_roots (g : G) : List D → Store → R D := mBody 7 ((mSeq (mAsg (mTrk (mLc (mWalk (mVar 0)) (gmName 2) mYes (mOp aIsN (mVar 2) (mC .non)) [2])) (gmName 1))
      (mSeq (mFor (mRng1 (mCons (mCall aLen (mCons (mVar 0) mNil)) mNil)) (gmName 3) (mSeq (mAsg (mTrk (mLst mNil)) (gmName 4))
      (mSeq (mAsg (mVar 3) (gmName 5))
      (mSeq (mWhile (mNotT (mTst (mOp aIx (mVar 1) (mVar 5)))) (mSeq (mIfS (mTst (mOp aEq (mCall aLen (mCons (mVar 4) mNil)) (mCall aLen (mCons (mVar 0) mNil)))) (mRet (mC (.bl false))) mNext)
      (mSeq (mDrop (mBM "list" (updL fAppend) (mVar 4) (mCons (mVar 5) mNil)))
      (mAsg (mOp aIx (mVar 0) (mVar 5)) (gmName 5)))))
      (mFor (mWalk (mVar 4)) (gmName 6) (mAsg (mC (.bl true)) (gmSub (mVar 1) (mVar 6))))))))
      (mRet (mC (.bl true))))))
def m_Stand_init (g : G) : List D → Store → R D := mBody 2 ((mAsg (mVar 1) (gmTup 6 (gmCons (gmFld g.FL "up" (mVar 0)) (gmCons (gmFld g.FL "left" (mVar 0)) (gmCons (gmFld g.FL "right" (mVar 0)) (gmCons (gmFld g.FL "turned" (mVar 0)) (gmCons (gmFld g.FL "added" (mVar 0)) (gmCons (gmFld g.FL "value" (mVar 0)) gmNil)))))))))
def m_has_its_sons (g : G) : List D → Store → R D := mBody 4 ((mSeq (mAsg (mFrz (mLc (mWalk (mSl (mOp aIx (mVar 0) (mVar 1)) (moS (mC (.int 1))) (moS (mC (.int 3))))) (gmName 3) (mTst (mOp aNotN (mVar 3) (mC .non))) (mVar 3) [3])) (gmName 2))
      (mSeq (mIfS (mAndT (mTst (mOp aEq (mCall aLen (mCons (mVar 2) mNil)) (mC (.int 2)))) (mTst (mOp aEq (mOp aIx (mVar 2) (mC (.int 0))) (mOp aIx (mVar 2) (mC (.int 1)))))) (mRet (mC (.bl false))) mNext)
      (mRet (mCall aAll (mCons (mFrz (mLc (mWalk (mVar 2)) (gmName 3) mYes (mOp aEq (mOp aIx (mOp aIx (mVar 0) (mVar 3)) (mC (.int 0))) (mVar 1)) [3])) mNil))))))
def m_shape_of (g : G) : List D → Store → R D := mBody 2 ((mRet (mCall aTuple (mCons (mFrz (mLc (mWalk (mVar 0)) (gmName 1) mYes (mTup (mCons (mFld g.FL "up" (mVar 1)) (mCons (mFld g.FL "left" (mVar 1)) (mCons (mFld g.FL "right" (mVar 1)) (mCons (mFld g.FL "turned" (mVar 1)) (mCons (mFld g.FL "added" (mVar 1)) (mCons (mFld g.FL "value" (mVar 1)) mNil))))))) [1])) mNil))))
def m_is_top (g : G) : List D → Store → R D := mBody 3 ((mSeq (mAsg (mFld g.FL "up" (mOp aIx (mVar 0) (mVar 1))) (gmName 2))
      (mRet (mOr (mOp aIsN (mVar 2) (mC .non)) (mOp aNotIn (mVar 1) (mTup (mCons (mFld g.FL "left" (mOp aIx (mVar 0) (mVar 2))) (mCons (mFld g.FL "right" (mOp aIx (mVar 0) (mVar 2))) mNil))))))))
def m_line_up (g : G) : List D → Store → R D := mBody 3 ((mSeq (mAsg (mTrk (mLst (mCons (mVar 1) mNil))) (gmName 2))
      (mSeq (mWhile (mTst (mOp aNotN (mFld g.FL "up" (mOp aIx (mVar 0) (mOp aIx (mVar 2) (mUn aNeg (mC (.int 1)))))) (mC .non))) (mDrop (mBM "list" (updL fAppend) (mVar 2) (mCons (mFld g.FL "up" (mOp aIx (mVar 0) (mOp aIx (mVar 2) (mUn aNeg (mC (.int 1)))))) mNil))))
      (mRet (mVar 2)))))
def m_hand_on (g : G) : List D → Store → R D := mBody 5 ((mSeq (mAsg (mOp aIx (mVar 0) (mVar 1)) (gmName 2))
      (mSeq (mAsg (mTrk (mLc (mWalk (mTup (mCons (mFld g.FL "left" (mVar 2)) (mCons (mFld g.FL "right" (mVar 2)) mNil)))) (gmName 4) (mTst (mOp aNotN (mVar 4) (mC .non))) (mOp aIx (mVar 0) (mVar 4)) [4])) (gmName 3))
      (mSeq (mIfS (mTst (mFld g.FL "turned" (mVar 2))) (mSeq (mAsg (mTup (mCons (mFld g.FL "right" (mVar 2)) (mCons (mFld g.FL "left" (mVar 2)) mNil))) (gmTup 2 (gmCons (gmFld g.FL "left" (mVar 2)) (gmCons (gmFld g.FL "right" (mVar 2)) gmNil))))
      (mSeq (mSetF g.FL "turned" (mVar 2) (mC (.bl false)))
      (mFor (mWalk (mVar 3)) (gmName 4) (mSetF g.FL "turned" (mVar 4) (mNot (mFld g.FL "turned" (mVar 4))))))) mNext)
      (mSeq (mFor (mWalk (mVar 3)) (gmName 4) (mSeq (mAugF g.FL "value" aAddI (mVar 4) (mFld g.FL "added" (mVar 2)))
      (mAugF g.FL "added" aAddI (mVar 4) (mFld g.FL "added" (mVar 2)))))
      (mSetF g.FL "added" (mVar 2) (mC (.int 0))))))))
def m_take_place (g : G) : List D → Store → R D := mBody 5 ((mSeq (mAsg (mOp aIx (mVar 0) (mVar 1)) (gmName 3))
      (mSeq (mSetF g.FL "up" (mVar 3) (mFld g.FL "up" (mOp aIx (mVar 0) (mVar 2))))
      (mSeq (mIfS (mTst (mOp aIsN (mFld g.FL "up" (mVar 3)) (mC .non))) mRetN mNext)
      (mSeq (mAsg (mOp aIx (mVar 0) (mFld g.FL "up" (mVar 3))) (gmName 4))
      (mIfS (mTst (mOp aEq (mFld g.FL "left" (mVar 4)) (mVar 2))) (mSetF g.FL "left" (mVar 4) (mVar 1)) (mIfS (mTst (mOp aEq (mFld g.FL "right" (mVar 4)) (mVar 2))) (mSetF g.FL "right" (mVar 4) (mVar 1)) mNext)))))))
def m_L_hand (g : G) : List D → Store → R D := mBody 2 ((mRet (mTrk (mLst (mCons (mFrz (mLc (mWalk (mSl (mVar 0) moN (moS (mC (.int 63))))) (gmName 1) mYes (mCall aInt (mCons (mVar 1) mNil)) [1])) (mCons (mC (.int 0)) (mCons (mC (.int 0)) (mCons (mOp aAdd (mC (.int 1)) (mCall aLen (mCons (mSl (mVar 0) moN (moS (mC (.int 63)))) mNil))) (mCons (mC (.int 0)) mNil)))))))))
def m_L_draw (g : G) : List D → Store → R D := mBody 5 ((mSeq (mIfS (mAndT (mTst (mOp aEq (mOp aIx (mVar 0) (mC (.int 2))) (mC (.int 0)))) (mTst (mOp aLt (mOp aIx (mVar 0) (mC (.int 1))) (mCall aLen (mCons (mOp aIx (mVar 0) (mC (.int 0))) mNil))))) (mSeq (mAsg (mOp aIx (mOp aIx (mVar 0) (mC (.int 0))) (mOp aIx (mVar 0) (mC (.int 1)))) (gmName 2))
      (mSeq (mAsg (mOp aAdd (mOp aIx (mVar 0) (mC (.int 1))) (mC (.int 1))) (gmSub (mVar 0) (mC (.int 1))))
      (mSeq (mAsg (mOp aMod (mCall aInt (mCons (mOp aAdd (mOp aAdd (mOp aMul (mOp aIx (mVar 0) (mC (.int 3))) (mC (.int 69621))) (mOp aMul (mVar 2) (mC (.int 16)))) (mC (.int 11))) mNil)) (mC (.int 2147483629))) (gmSub (mVar 0) (mC (.int 3))))
      (mIfS (mTst (mOp aGe (mVar 2) (mOp aPow (mC (.int 10)) (mC (.int 18))))) (mAsg (mVar 2) (gmSub (mVar 0) (mC (.int 2)))) mNext)))) mNext)
      (mSeq (mIfS (mTst (mOp aGt (mOp aIx (mVar 0) (mC (.int 2))) (mC (.int 0)))) (mSeq (mAsg (mOp aMod (mCall aInt (mCons (mOp aIx (mVar 0) (mC (.int 2))) mNil)) (mVar 1)) (gmName 3))
      (mSeq (mAsg (mOp aDiv (mOp aIx (mVar 0) (mC (.int 2))) (mVar 1)) (gmSub (mVar 0) (mC (.int 2))))
      (mRet (mVar 3)))) mNext)
      (mSeq (mAsg (mOp aAdd (mOp aIx (mVar 0) (mC (.int 4))) (mC (.int 1))) (gmSub (mVar 0) (mC (.int 4))))
      (mSeq (mAsg (mOp aMod (mCall aInt (mCons (mOp aMul (mCall aInt (mCons (mOp aAdd (mOp aIx (mVar 0) (mC (.int 3))) (mOp aMul (mC (.int 7919)) (mOp aIx (mVar 0) (mC (.int 4))))) mNil)) (mC (.int 48271))) mNil)) (mC (.int 2147483647))) (gmName 4))
      (mSeq (mAsg (mOp aMod (mCall aInt (mCons (mOp aMul (mVar 4) (mOp aAdd (mOp aDiv (mVar 4) (mC (.int 1009))) (mC (.int 69621)))) mNil)) (mC (.int 2147483647))) (gmName 4))
      (mSeq (mAsg (mOp aMod (mCall aInt (mCons (mOp aMul (mVar 4) (mOp aAdd (mOp aDiv (mVar 4) (mC (.int 2003))) (mC (.int 40692)))) mNil)) (mC (.int 2147483399))) (gmName 4))
      (mRet (mOp aMod (mCall aInt (mCons (mOp aDiv (mVar 4) (mC (.int 16))) mNil)) (mVar 1))))))))))
def m_L_number (g : G) : List D → Store → R D := mBody 3 ((mRet (mAnd (mCall (aIsi g.K g.CS) (mCons (mVar 0) (mCons (mC (.con (.ty "int"))) mNil))) (mAnd (mNot (mCall (aIsi g.K g.CS) (mCons (mVar 0) (mCons (mC (.con (.ty "bool"))) mNil)))) (mChain aLe aLe (mVar 1) (mVar 0) (mVar 2))))))
def m_L_is_integer (g : G) : List D → Store → R D := mBody 1 ((mRet (mAnd (mCall (aIsi g.K g.CS) (mCons (mVar 0) (mCons (mC (.con (.ty "int"))) mNil))) (mNot (mCall (aIsi g.K g.CS) (mCons (mVar 0) (mCons (mC (.con (.ty "bool"))) mNil)))))))
def m_L_house (g : G) : List D → Store → R D := mBody 2 ((mRet (mTrk (mLst (mCons (mVar 0) (mCons (mC .non) (mCons (mC .non) (mCons (mC (.bl false)) (mCons (mC (.int 0)) (mCons (mVar 1) mNil))))))))))
def m_L_is_son (g : G) : List D → Store → R D := mBody 3 ((mSeq (mAsg (mOp aIx (mOp aIx (mVar 0) (mVar 1)) (mC (.int 0))) (gmName 2))
      (mRet (mAnd (mOp aNotN (mVar 2) (mC .non)) (mOp aIn (mVar 1) (mSl (mOp aIx (mVar 0) (mVar 2)) (moS (mC (.int 1))) (moS (mC (.int 3)))))))))
def m_is_between (g : G) : List D → Store → R D := mBody 3 ((mRet (mAnd (mDef 1 (mPure (m_is_integer g)) (mCons (mVar 2) mNil)) (mChain aLe aLe (mVar 0) (mVar 2) (mVar 1)))))
def m_are_worths (g : G) : List D → Store → R D := mBody 3 ((mSeq (mIfS (mOrT (mNotT (mTst (mCall (aIsi g.K g.CS) (mCons (mVar 0) (mCons (mC (.con (.ty "tuple"))) mNil))))) (mTst (mOp aNe (mCall aLen (mCons (mVar 0) mNil)) (mVar 1)))) (mRet (mC (.bl false))) mNext)
      (mRet (mCall aAll (mCons (mFrz (mLc (mWalk (mVar 0)) (gmName 2) mYes (mDef 1 (mPure (m_is_integer g)) (mCons (mVar 2) mNil)) [2])) mNil)))))
def m_rank (g : G) : List D → Store → R D := mBody 1 ((mSeq (mIfS (mOrT (mNotT (mTst (mDef 1 (mPure (m_is_integer g)) (mCons (mVar 0) mNil)))) (mTst (mOp aLt (mVar 0) (mC (.int 1))))) (mRaise0 g.NoNumber) mNext)
      (mRet (mOp aSub (mUn aBits (mVar 0)) (mC (.int 1))))))
def m_told_worth (g : G) : List D → Store → R D := mBody 3 ((mSeq (mAsg (mFld g.FL "value" (mOp aIx (mVar 0) (mVar 1))) (gmName 2))
      (mSeq (mWhile (mNotT (mTst (mDef 2 (mScope (m_is_top g)) (mCons (mVar 0) (mCons (mVar 1) mNil))))) (mSeq (mAsg (mFld g.FL "up" (mOp aIx (mVar 0) (mVar 1))) (gmName 1))
      (mAug 2 aAddI (mFld g.FL "added" (mOp aIx (mVar 0) (mVar 1))))))
      (mRet (mVar 2)))))
def m_weights_of (g : G) : List D → Store → R D := mBody 4 ((mSeq (mAsg (mTrk (mMulL (mFrz (mLst (mCons (mC (.int 0)) mNil))) (mCall aLen (mCons (mVar 0) mNil)))) (gmName 1))
      (mSeq (mFor (mRng1 (mCons (mCall aLen (mCons (mVar 0) mNil)) mNil)) (gmName 2) (mFor (mWalk (mDef 2 (mScope (m_line_up g)) (mCons (mVar 0) (mCons (mVar 2) mNil)))) (gmName 3) (mAugS (mVar 1) (mVar 3) (mC (.int 1)))))
      (mRet (mCall aTuple (mCons (mVar 1) mNil))))))
def m_turn_up (g : G) : List D → Store → R D := mBody 7 ((mSeq (mAsg (mOp aIx (mVar 0) (mVar 1)) (gmName 2))
      (mSeq (mAsg (mFld g.FL "up" (mVar 2)) (gmName 3))
      (mSeq (mAsg (mOp aIx (mVar 0) (mVar 3)) (gmName 4))
      (mSeq (mDrop (mDef 2 (mScope (m_hand_on g)) (mCons (mVar 0) (mCons (mVar 3) mNil))))
      (mSeq (mDrop (mDef 2 (mScope (m_hand_on g)) (mCons (mVar 0) (mCons (mVar 1) mNil))))
      (mSeq (mDrop (mDef 3 (mScope (m_take_place g)) (mCons (mVar 0) (mCons (mVar 1) (mCons (mVar 3) mNil)))))
      (mSeq (mIfS (mTst (mOp aEq (mFld g.FL "right" (mVar 4)) (mVar 1))) (mSeq (mAsg (mFld g.FL "left" (mVar 2)) (gmName 5))
      (mSeq (mSetF g.FL "right" (mVar 4) (mVar 5))
      (mSetF g.FL "left" (mVar 2) (mVar 3)))) (mSeq (mAsg (mFld g.FL "right" (mVar 2)) (gmName 5))
      (mSeq (mSetF g.FL "left" (mVar 4) (mVar 5))
      (mSetF g.FL "right" (mVar 2) (mVar 3)))))
      (mSeq (mSetF g.FL "up" (mVar 4) (mVar 1))
      (mIfS (mTst (mOp aNotN (mVar 5) (mC .non))) (mSeq (mAsg (mOp aIx (mVar 0) (mVar 5)) (gmName 6))
      (mSetF g.FL "up" (mVar 6) (mVar 3))) mNext))))))))))
def m_L_deep (g : G) : List D → Store → R D := mBody 3 ((mSeq (mAsg (mOp aIx (mFrz (mLst (mCons (mC .non) (mCons (mC (.str "a")) (mCons (mUn aNeg (mC (.int 1))) (mCons mDnew mNil)))))) (mDef 2 (mScope (m_L_draw g)) (mCons (mVar 0) (mCons (mC (.int 4)) mNil)))) (gmName 1))
      (mSeq (mFor (mRng1 (mCons (mOp aAdd (mC (.int 1)) (mDef 2 (mScope (m_L_draw g)) (mCons (mVar 0) (mCons (mC (.int 30)) mNil)))) mNil)) (gmName 2) (mAsg (mOp aIx (mFrz (mLst (mCons (mTup (mCons (mVar 1) mNil)) (mCons (mFrz (mLst (mCons (mVar 1) mNil))) (mCons (mSl (mTup (mCons (mVar 1) (mCons (mVar 1) mNil))) moN (moS (mC (.int 1)))) (mCons (mDispF (((mC (.int 0)), (mVar 1)) :: [])) mNil)))))) (mDef 2 (mScope (m_L_draw g)) (mCons (mVar 0) (mCons (mC (.int 4)) mNil)))) (gmName 1)))
      (mRet (mVar 1)))))
def m_L_value (g : G) : List D → Store → R D := mBody 2 ((mSeq (mAsg (mDef 2 (mScope (m_L_draw g)) (mCons (mVar 0) (mCons (mC (.int 8)) mNil))) (gmName 1))
      (mSeq (mIfS (mTst (mOp aEq (mVar 1) (mC (.int 0)))) (mRet (mOp aIx (mFrz (mLst (mCons (mOp aPow (mC (.int 10)) (mC (.int 18))) (mCons (mOp aSub (mC (.int 0)) (mOp aPow (mC (.int 10)) (mC (.int 18)))) (mCons (mOp aPow (mC (.int 2)) (mC (.int 62))) (mCons (mUn aNeg (mC (.int 1))) (mCons (mC (.int 0)) (mCons (mOp aPow (mC (.int 10)) (mC (.int 9))) mNil)))))))) (mDef 2 (mScope (m_L_draw g)) (mCons (mVar 0) (mCons (mC (.int 6)) mNil))))) mNext)
      (mRet (mOp aSub (mDef 2 (mScope (m_L_draw g)) (mCons (mVar 0) (mCons (mC (.int 41)) mNil))) (mC (.int 20)))))))
def m_L_shuffled (g : G) : List D → Store → R D := mBody 5 ((mSeq (mAsg (mTrk (mListRg1 (mVar 1))) (gmName 2))
      (mSeq (mFor (mRng1 (mCons (mVar 1) mNil)) (gmName 3) (mSeq (mAsg (mOp aAdd (mVar 3) (mDef 2 (mScope (m_L_draw g)) (mCons (mVar 0) (mCons (mOp aSub (mVar 1) (mVar 3)) mNil)))) (gmName 4))
      (mAsg (mTup (mCons (mOp aIx (mVar 2) (mVar 4)) (mCons (mOp aIx (mVar 2) (mVar 3)) mNil))) (gmTup 2 (gmCons (gmSub (mVar 2) (mVar 3)) (gmCons (gmSub (mVar 2) (mVar 4)) gmNil))))))
      (mRet (mVar 2)))))
def m_L_is_shape (g : G) : List D → Store → R D := mBody 10 ((mSeq (mIfS (mOrT (mNotT (mTst (mCall (aIsi g.K g.CS) (mCons (mVar 0) (mCons (mC (.con (.ty "tuple"))) mNil))))) (mNotT (mTst (mChain aLe aLe (mC (.int 1)) (mCall aLen (mCons (mVar 0) mNil)) (mC (.int 64)))))) (mRet (mC (.bl false))) mNext)
      (mSeq (mAsg (mCall aLen (mCons (mVar 0) mNil)) (gmName 1))
      (mSeq (mFor (mWalk (mVar 0)) (gmName 2) (mSeq (mIfS (mOrT (mNotT (mTst (mCall (aIsi g.K g.CS) (mCons (mVar 2) (mCons (mC (.con (.ty "tuple"))) mNil))))) (mOrT (mTst (mOp aNe (mCall aLen (mCons (mVar 2) mNil)) (mC (.int 6)))) (mNotT (mTst (mCall (aIsi g.K g.CS) (mCons (mOp aIx (mVar 2) (mC (.int 3))) (mCons (mC (.con (.ty "bool"))) mNil))))))) (mRet (mC (.bl false))) mNext)
      (mSeq (mIfS (mNotT (mTst (mCall aAll (mCons (mFrz (mLc (mWalk (mSl (mVar 2) moN (moS (mC (.int 3))))) (gmName 3) mYes (mOr (mOp aIsN (mVar 3) (mC .non)) (mDef 3 (mPure (m_L_number g)) (mCons (mVar 3) (mCons (mC (.int 0)) (mCons (mOp aSub (mVar 1) (mC (.int 1))) mNil))))) [3])) mNil)))) (mRet (mC (.bl false))) mNext)
      (mIfS (mOrT (mNotT (mTst (mDef 1 (mPure (m_L_is_integer g)) (mCons (mOp aIx (mVar 2) (mC (.int 4))) mNil)))) (mNotT (mTst (mDef 1 (mPure (m_L_is_integer g)) (mCons (mOp aIx (mVar 2) (mC (.int 5))) mNil))))) (mRet (mC (.bl false))) mNext))))
      (mSeq (mFor (mRng1 (mCons (mVar 1) mNil)) (gmName 4) (mSeq (mAsg (mSl (mOp aIx (mVar 0) (mVar 4)) (moS (mC (.int 1))) (moS (mC (.int 3)))) (gmTup 2 (gmCons (gmName 5) (gmCons (gmName 6) gmNil))))
      (mSeq (mIfS (mAndT (mTst (mOp aNotN (mVar 5) (mC .non))) (mTst (mOp aEq (mVar 5) (mVar 6)))) (mRet (mC (.bl false))) mNext)
      (mSeq (mFor (mWalk (mFrz (mLst (mCons (mVar 5) (mCons (mVar 6) mNil))))) (gmName 7) (mIfS (mAndT (mTst (mOp aNotN (mVar 7) (mC .non))) (mTst (mOp aNe (mOp aIx (mOp aIx (mVar 0) (mVar 7)) (mC (.int 0))) (mVar 4)))) (mRet (mC (.bl false))) mNext))
      (mSeq (mAsg (mVar 4) (gmName 8))
      (mSeq (mFor (mRng1 (mCons (mVar 1) mNil)) (gmName 9) (mIfS (mTst (mOp aNotN (mVar 8) (mC .non))) (mAsg (mOp aIx (mOp aIx (mVar 0) (mVar 8)) (mC (.int 0))) (gmName 8)) mNext))
      (mIfS (mTst (mOp aNotN (mVar 8) (mC .non))) (mRet (mC (.bl false))) mNext)))))))
      (mRet (mC (.bl true))))))))
def m_is_house (g : G) : List D → Store → R D := mBody 2 ((mRet (mDef 3 (mPure (m_is_between g)) (mCons (mC (.int 0)) (mCons (mOp aSub (mVar 0) (mC (.int 1))) (mCons (mVar 1) mNil))))))
def m_is_many (g : G) : List D → Store → R D := mBody 1 ((mRet (mDef 3 (mPure (m_is_between g)) (mCons (mC (.int 1)) (mCons (mC (.int 64)) (mCons (mVar 0) mNil))))))
def m_told_worths (g : G) : List D → Store → R D := mBody 2 ((mRet (mCall aTuple (mCons (mFrz (mLc (mRng1 (mCons (mCall aLen (mCons (mVar 0) mNil)) mNil)) (gmName 1) mYes (mDef 2 (mScope (m_told_worth g)) (mCons (mVar 0) (mCons (mVar 1) mNil))) [1])) mNil))))
def m_potential_of (g : G) : List D → Store → R D := mBody 2 ((mRet (mCall aSum (mCons (mFrz (mLc (mWalk (mDef 1 (mScope (m_weights_of g)) (mCons (mVar 0) mNil))) (gmName 1) mYes (mDef 1 (mPure (m_rank g)) (mCons (mVar 1) mNil)) [1])) mNil))))
def m_L_shape (g : G) : List D → Store → R D := mBody 12 ((mSeq (mAsg (mDef 2 (mScope (m_L_shuffled g)) (mCons (mVar 0) (mCons (mVar 1) mNil))) (gmName 2))
      (mSeq (mAsg (mTrk (mLc (mRng1 (mCons (mVar 1) mNil)) (gmName 4) mYes (mDef 2 (m_L_house g) (mCons (mC .non) (mCons (mDef 1 (mScope (m_L_value g)) (mCons (mVar 0) mNil)) mNil))) [4])) (gmName 3))
      (mSeq (mAsg (mDef 2 (mScope (m_L_draw g)) (mCons (mVar 0) (mCons (mC (.int 4)) mNil))) (gmName 5))
      (mSeq (mFor (mRng1 (mCons (mVar 1) mNil)) (gmName 6) (mSeq (mAsg (mOp aIx (mVar 3) (mOp aIx (mVar 2) (mVar 6))) (gmName 7))
      (mSeq (mAsg (mOp aEq (mDef 2 (mScope (m_L_draw g)) (mCons (mVar 0) (mCons (mC (.int 3)) mNil))) (mC (.int 0))) (gmSub (mVar 7) (mC (.int 3))))
      (mSeq (mAsg (mOp aIx (mFrz (mLst (mCons (mC (.int 0)) (mCons (mC (.int 0)) (mCons (mC (.int 0)) (mCons (mC (.int 1)) (mCons (mUn aNeg (mC (.int 7))) (mCons (mOp aPow (mC (.int 10)) (mC (.int 18))) mNil)))))))) (mDef 2 (mScope (m_L_draw g)) (mCons (mVar 0) (mCons (mC (.int 6)) mNil)))) (gmSub (mVar 7) (mC (.int 4))))
      (mIfS (mTst (mOp aGt (mVar 6) (mC (.int 0)))) (mSeq (mAsg (mOp aIx (mVar 2) (mOp aSub (mOp aSub (mVar 6) (mC (.int 1))) (mDef 2 (mScope (m_L_draw g)) (mCons (mVar 0) (mCons (mOp aIx (mFrz (mLst (mCons (mVar 6) (mCons (mCall aMin (mCons (mVar 6) (mCons (mC (.int 2)) mNil))) (mCons (mC (.int 1)) (mCons (mVar 6) mNil)))))) (mVar 5)) mNil))))) (gmName 8))
      (mSeq (mAsg (mOp aIx (mVar 3) (mVar 8)) (gmName 9))
      (mSeq (mAsg (mOp aAdd (mC (.int 1)) (mDef 2 (mScope (m_L_draw g)) (mCons (mVar 0) (mCons (mC (.int 2)) mNil)))) (gmName 10))
      (mIfS (mTst (mOp aGt (mDef 2 (mScope (m_L_draw g)) (mCons (mVar 0) (mCons (mC (.int 8)) mNil))) (mC (.int 0)))) (mSeq (mAsg (mVar 8) (gmSub (mVar 7) (mC (.int 0))))
      (mIfS (mAndT (mTst (mOp aIsN (mOp aIx (mVar 9) (mVar 10)) (mC .non))) (mTst (mOp aGt (mDef 2 (mScope (m_L_draw g)) (mCons (mVar 0) (mCons (mC (.int 4)) mNil))) (mC (.int 0))))) (mAsg (mOp aIx (mVar 2) (mVar 6)) (gmSub (mVar 9) (mVar 10))) mNext)) mNext)))) mNext)))))
      (mRet (mCall aTuple (mCons (mFrz (mLc (mWalk (mVar 3)) (gmName 11) mYes (mCall aTuple (mCons (mVar 11) mNil)) [11])) mNil))))))))
def m_are_parents (g : G) : List D → Store → R D := mBody 2 ((mSeq (mIfS (mOrT (mNotT (mTst (mCall (aIsi g.K g.CS) (mCons (mVar 0) (mCons (mC (.con (.ty "tuple"))) mNil))))) (mNotT (mTst (mDef 1 (mPure (m_is_many g)) (mCons (mCall aLen (mCons (mVar 0) mNil)) mNil))))) (mRet (mC (.bl false))) mNext)
      (mSeq (mIfS (mNotT (mTst (mCall aAll (mCons (mFrz (mLc (mWalk (mVar 0)) (gmName 1) mYes (mOr (mOp aIsN (mVar 1) (mC .non)) (mDef 2 (mPure (m_is_house g)) (mCons (mCall aLen (mCons (mVar 0) mNil)) (mCons (mVar 1) mNil)))) [1])) mNil)))) (mRet (mC (.bl false))) mNext)
      (mRet (mDef 1 (mPure (m_come_to_roots g)) (mCons (mVar 0) mNil))))))
def m_is_part (g : G) : List D → Store → R D := mBody 3 ((mSeq (mIfS (mOrT (mNotT (mTst (mCall (aIsi g.K g.CS) (mCons (mVar 1) (mCons (mC (.con (.ty "tuple"))) mNil))))) (mTst (mOp aNe (mCall aLen (mCons (mVar 1) mNil)) (mC (.int 6))))) (mRet (mC (.bl false))) mNext)
      (mSeq (mIfS (mNotT (mTst (mCall aAll (mCons (mFrz (mLc (mWalk (mSl (mVar 1) moN (moS (mC (.int 3))))) (gmName 2) mYes (mOr (mOp aIsN (mVar 2) (mC .non)) (mDef 2 (mPure (m_is_house g)) (mCons (mVar 0) (mCons (mVar 2) mNil)))) [2])) mNil)))) (mRet (mC (.bl false))) mNext)
      (mRet (mAnd (mCall (aIsi g.K g.CS) (mCons (mOp aIx (mVar 1) (mC (.int 3))) (mCons (mC (.con (.ty "bool"))) mNil))) (mAnd (mDef 1 (mPure (m_is_integer g)) (mCons (mOp aIx (mVar 1) (mC (.int 4))) mNil)) (mDef 1 (mPure (m_is_integer g)) (mCons (mOp aIx (mVar 1) (mC (.int 5))) mNil))))))))
def m_need_house (g : G) : List D → Store → R D := mBody 2 ((mIfS (mNotT (mTst (mDef 2 (mPure (m_is_house g)) (mCons (mCall aLen (mCons (mVar 0) mNil)) (mCons (mVar 1) mNil))))) (mRaise0 g.NoHouse) mNext))
def m_Forest_init (g : G) : List D → Store → R D := mBody 3 ((mSeq (mIfS (mNotT (mTst (mDef 1 (mPure (m_are_parents g)) (mCons (mVar 1) mNil)))) (mRaise1 g.BadForest "part" (mCons (mC (.str "parents")) mNil)) mNext)
      (mSeq (mIfS (mNotT (mTst (mDef 2 (mPure (m_are_worths g)) (mCons (mVar 2) (mCons (mCall aLen (mCons (mVar 1) mNil)) mNil))))) (mRaise1 g.BadForest "part" (mCons (mC (.str "worths")) mNil)) mNext)
      (mSeq (mSetF g.FL "parents" (mVar 0) (mVar 1))
      (mSetF g.FL "worths" (mVar 0) (mVar 2))))))
def m_is_shape (g : G) : List D → Store → R D := mBody 3 ((mSeq (mIfS (mOrT (mNotT (mTst (mCall (aIsi g.K g.CS) (mCons (mVar 0) (mCons (mC (.con (.ty "tuple"))) mNil))))) (mNotT (mTst (mDef 1 (mPure (m_is_many g)) (mCons (mCall aLen (mCons (mVar 0) mNil)) mNil))))) (mRet (mC (.bl false))) mNext)
      (mSeq (mIfS (mNotT (mTst (mCall aAll (mCons (mFrz (mLc (mWalk (mVar 0)) (gmName 1) mYes (mDef 2 (mPure (m_is_part g)) (mCons (mCall aLen (mCons (mVar 0) mNil)) (mCons (mVar 1) mNil))) [1])) mNil)))) (mRet (mC (.bl false))) mNext)
      (mSeq (mIfS (mNotT (mTst (mCall aAll (mCons (mFrz (mLc (mRng1 (mCons (mCall aLen (mCons (mVar 0) mNil)) mNil)) (gmName 2) mYes (mDef 2 (mPure (m_has_its_sons g)) (mCons (mVar 0) (mCons (mVar 2) mNil))) [2])) mNil)))) (mRet (mC (.bl false))) mNext)
      (mRet (mDef 1 (mPure (m_come_to_roots g)) (mCons (mCall aTuple (mCons (mFrz (mLc (mWalk (mVar 0)) (gmName 1) mYes (mOp aIx (mVar 1) (mC (.int 0))) [1])) mNil)) mNil)))))))
def m_stands_of (g : G) : List D → Store → R D := mBody 2 ((mSeq (mIfS (mNotT (mTst (mDef 1 (mPure (m_is_shape g)) (mCons (mVar 0) mNil)))) (mRaise0 g.NoShape) mNext)
      (mRet (mTrk (mLc (mWalk (mVar 0)) (gmName 1) mYes (mDef 1 (mkC g.Stand (m_Stand_init g)) (mCons (mVar 1) mNil)) [1])))))
def m_weights (g : G) : List D → Store → R D := mBody 1 ((mRet (mDef 1 (mScope (m_weights_of g)) (mCons (mDef 1 (m_stands_of g) (mCons (mVar 0) mNil)) mNil))))
def m_potential (g : G) : List D → Store → R D := mBody 1 ((mRet (mDef 1 (mScope (m_potential_of g)) (mCons (mDef 1 (m_stands_of g) (mCons (mVar 0) mNil)) mNil))))
def m_handed_on (g : G) : List D → Store → R D := mBody 3 ((mSeq (mAsg (mDef 1 (m_stands_of g) (mCons (mVar 0) mNil)) (gmName 2))
      (mSeq (mDrop (mDef 2 (mScope (m_need_house g)) (mCons (mVar 2) (mCons (mVar 1) mNil))))
      (mSeq (mDrop (mDef 2 (mScope (m_hand_on g)) (mCons (mVar 2) (mCons (mVar 1) mNil))))
      (mRet (mDef 1 (mScope (m_shape_of g)) (mCons (mVar 2) mNil)))))))
def m_turned_up (g : G) : List D → Store → R D := mBody 3 ((mSeq (mAsg (mDef 1 (m_stands_of g) (mCons (mVar 0) mNil)) (gmName 2))
      (mSeq (mDrop (mDef 2 (mScope (m_need_house g)) (mCons (mVar 2) (mCons (mVar 1) mNil))))
      (mSeq (mIfS (mTst (mDef 2 (mScope (m_is_top g)) (mCons (mVar 2) (mCons (mVar 1) mNil)))) (mRaise0 g.NoTurn) mNext)
      (mSeq (mDrop (mDef 2 (mScope (m_turn_up g)) (mCons (mVar 2) (mCons (mVar 1) mNil))))
      (mRet (mDef 1 (mScope (m_shape_of g)) (mCons (mVar 2) mNil))))))))
def m_L_odd_shape (g : G) : List D → Store → R D := mBody 8 ((mSeq (mAsg (mDef 2 (mScope (m_L_draw g)) (mCons (mVar 0) (mCons (mCall aLen (mCons (mVar 1) mNil)) mNil))) (gmName 2))
      (mSeq (mAsg (mOp aIx (mVar 1) (mVar 2)) (gmName 3))
      (mSeq (mAsg (mOp aAdd (mOp aAdd (mSl (mVar 3) moN (moS (mC (.int 1)))) (mTup (mCons (mVar 2) mNil))) (mSl (mVar 3) (moS (mC (.int 2))) moN)) (gmName 4))
      (mSeq (mAsg (mFrz (mLst (mCons (mOp aAdd (mTup (mCons (mVar 2) mNil)) (mSl (mVar 3) (moS (mC (.int 1))) moN)) (mCons (mVar 4) (mCons (mOp aAdd (mOp aAdd (mSl (mVar 3) moN (moS (mC (.int 3)))) (mTup (mCons (mC (.int 0)) mNil))) (mSl (mVar 3) (moS (mC (.int 4))) moN)) (mCons (mOp aAdd (mSl (mVar 3) moN (moS (mC (.int 5)))) (mTup (mCons (mC (.bl true)) mNil))) (mCons (mFrz (mList (mCons (mVar 3) mNil))) (mCons (mSl (mVar 3) moN (moS (mC (.int 5)))) mNil)))))))) (gmName 5))
      (mSeq (mAsg (mOp aAdd (mOp aAdd (mSl (mVar 1) moN (moS (mVar 2))) (mTup (mCons (mOp aIx (mVar 5) (mDef 2 (mScope (m_L_draw g)) (mCons (mVar 0) (mCons (mC (.int 6)) mNil)))) mNil))) (mSl (mVar 1) (moS (mOp aAdd (mVar 2) (mC (.int 1)))) moN)) (gmName 6))
      (mSeq (mAsg (mTrk (mLst (mCons (mVar 1) (mCons (mVar 1) (mCons (mVar 1) (mCons (mVar 6) (mCons (mVar 6) (mCons (mFrz (mList (mCons (mVar 1) mNil))) (mCons (mC .non) (mCons (mTup mNil) (mCons (mC (.int 0)) (mCons (mOp aMul (mVar 1) (mC (.int 65))) (mCons (mDef 1 (mScope (m_L_deep g)) (mCons (mVar 0) mNil)) mNil))))))))))))) (gmName 7))
      (mSeq (mDrop (mBM "list" (updL fAppend) (mVar 7) (mCons (mDef 2 (mPure (mkC g.Forest (m_Forest_init g))) (mCons (mTup (mCons (mC .non) mNil)) (mCons (mTup (mCons (mC (.int 7)) mNil)) mNil))) mNil)))
      (mRet (mOp aIx (mVar 7) (mDef 2 (mScope (m_L_draw g)) (mCons (mVar 0) (mCons (mC (.int 12)) mNil)))))))))))))
def m_part_in_order (g : G) : Nat → List D → Store → R D
  | 0 => fun _ _ => .fail
  | d + 1 => mBody 6 ((mSeq (mIfS (mTst (mOp aIsN (mVar 1) (mC .non))) (mRet (mFrz (mLst mNil))) mNext)
      (mSeq (mAsg (mOp aIx (mVar 0) (mVar 1)) (gmName 3))
      (mSeq (mAsg (mOp aNe (mVar 2) (mFld g.FL "turned" (mVar 3))) (gmName 2))
      (mSeq (mAsg (mDef 3 (mScope (m_part_in_order g d)) (mCons (mVar 0) (mCons (mFld g.FL "left" (mVar 3)) (mCons (mVar 2) mNil)))) (gmName 4))
      (mSeq (mAsg (mDef 3 (mScope (m_part_in_order g d)) (mCons (mVar 0) (mCons (mFld g.FL "right" (mVar 3)) (mCons (mVar 2) mNil)))) (gmName 5))
      (mSeq (mIfS (mTst (mVar 2)) (mRet (mOp aAdd (mOp aAdd (mVar 5) (mFrz (mLst (mCons (mVar 1) mNil)))) (mVar 4))) mNext)
      (mRet (mOp aAdd (mOp aAdd (mVar 4) (mFrz (mLst (mCons (mVar 1) mNil)))) (mVar 5))))))))))
def m_row_in_order (g : G) : List D → Store → R D := mBody 2 ((mRet (mCall aTuple (mCons (mDef 3 (mScope (m_part_in_order g 70)) (mCons (mVar 0) (mCons (mVar 1) (mCons (mC (.bl false)) mNil)))) mNil))))
def m_rows (g : G) : List D → Store → R D := mBody 3 ((mSeq (mAsg (mDef 1 (m_stands_of g) (mCons (mVar 0) mNil)) (gmName 1))
      (mRet (mCall aTuple (mCons (mFrz (mLc (mRng1 (mCons (mCall aLen (mCons (mVar 1) mNil)) mNil)) (gmName 2) (mTst (mDef 2 (mScope (m_is_top g)) (mCons (mVar 1) (mCons (mVar 2) mNil)))) (mDef 2 (mScope (m_row_in_order g)) (mCons (mVar 1) (mCons (mVar 2) mNil))) [2])) mNil)))))
def m_forest_of (g : G) : List D → Store → R D := mBody 5 ((mSeq (mAsg (mTrk (mMulL (mFrz (mLst (mCons (mC .non) mNil))) (mCall aLen (mCons (mVar 0) mNil)))) (gmName 1))
      (mSeq (mFor (mRng1 (mCons (mCall aLen (mCons (mVar 0) mNil)) mNil)) (gmName 2) (mIfS (mTst (mDef 2 (mScope (m_is_top g)) (mCons (mVar 0) (mCons (mVar 2) mNil)))) (mSeq (mAsg (mFld g.FL "up" (mOp aIx (mVar 0) (mVar 2))) (gmName 3))
      (mFor (mWalk (mDef 2 (mScope (m_row_in_order g)) (mCons (mVar 0) (mCons (mVar 2) mNil)))) (gmName 4) (mSeq (mAsg (mVar 3) (gmSub (mVar 1) (mVar 4)))
      (mAsg (mVar 4) (gmName 3))))) mNext))
      (mRet (mDef 2 (mPure (mkC g.Forest (m_Forest_init g))) (mCons (mCall aTuple (mCons (mVar 1) mNil)) (mCons (mDef 1 (mScope (m_told_worths g)) (mCons (mVar 0) mNil)) mNil)))))))
def m_told_forest (g : G) : List D → Store → R D := mBody 1 ((mRet (mDef 1 (mScope (m_forest_of g)) (mCons (mDef 1 (m_stands_of g) (mCons (mVar 0) mNil)) mNil))))
def m_law (g : G) : List D → Store → R D := mBody 12 ((mSeq (mAsg (mDef 1 (m_L_hand g) (mCons (mVar 0) mNil)) (gmName 1))
      (mSeq (mAsg (mDef 2 (mScope (m_L_shape g)) (mCons (mVar 1) (mCons (mOp aAdd (mC (.int 1)) (mDef 2 (mScope (m_L_draw g)) (mCons (mVar 1) (mCons (mC (.int 12)) mNil)))) mNil))) (gmName 2))
      (mSeq (mFor (mRng1 (mCons (mC (.int 5)) mNil)) (gmName 3) (mSeq (mAsg (mDef 2 (mScope (m_L_odd_shape g)) (mCons (mVar 1) (mCons (mVar 2) mNil))) (gmName 4))
      (mSeq (mAsg (mDef 1 (mPure (m_L_is_shape g)) (mCons (mVar 4) mNil)) (gmName 5))
      (mSeq (mAsg (mOp aIx (mFrz (mLst (mCons (mC (.str "shape")) (mCons (mC (.str "let")) mNil)))) (mCall aInt (mCons (mVar 5) mNil))) (gmName 6))
      (mSeq (mFor (mWalk (mFrz (mLst (mCons (mC (.con (.ref (g.V "rows")))) (mCons (mC (.con (.ref (g.V "told_forest")))) (mCons (mC (.con (.ref (g.V "weights")))) (mCons (mC (.con (.ref (g.V "potential")))) mNil))))))) (gmName 7) (mIfS (mTst (mOp aNe (mLamW (mWord (wl_L_word g)) (mCallV 7 [(g.V "rows", (mPure (m_rows g))), (g.V "told_forest", (mPure (m_told_forest g))), (g.V "weights", (mPure (m_weights g))), (g.V "potential", (mPure (m_potential g)))] (mCons (mVar 4) mNil))) (mVar 6))) (mRet (mC (.bl false))) mNext))
      (mSeq (mAsg (mCall aLen (mCons (mVar 2) mNil)) (gmName 8))
      (mSeq (mAsg (mDef 2 (mScope (m_L_draw g)) (mCons (mVar 1) (mCons (mVar 8) mNil))) (gmName 9))
      (mSeq (mIfS (mTst (mOp aEq (mDef 2 (mScope (m_L_draw g)) (mCons (mVar 1) (mCons (mC (.int 3)) mNil))) (mC (.int 0)))) (mAsg (mOp aIx (mFrz (mLst (mCons (mVar 8) (mCons (mUn aNeg (mC (.int 1))) (mCons (mC (.bl true)) (mCons (mC .non) (mCons (mC (.str "0")) (mCons (mTup (mCons (mC (.int 0)) mNil)) (mCons (mOp aPow (mC (.int 10)) (mC (.int 19))) (mCons (mDef 2 (mPure (mkC g.Forest (m_Forest_init g))) (mCons (mTup (mCons (mC .non) mNil)) (mCons (mTup (mCons (mC (.int 7)) mNil)) mNil))) mNil)))))))))) (mDef 2 (mScope (m_L_draw g)) (mCons (mVar 1) (mCons (mC (.int 8)) mNil)))) (gmName 9)) mNext)
      (mSeq (mIfS (mAndT (mTst (mOp aEq (mVar 6) (mC (.str "let")))) (mNotT (mTst (mDef 3 (mPure (m_L_number g)) (mCons (mVar 9) (mCons (mC (.int 0)) (mCons (mOp aSub (mVar 8) (mC (.int 1))) mNil))))))) (mAsg (mC (.str "house")) (gmName 6)) mNext)
      (mSeq (mIfS (mTst (mOp aNe (mLamW (mWord (wl_L_word g)) (mDef 2 (mPure (m_handed_on g)) (mCons (mVar 4) (mCons (mVar 9) mNil)))) (mVar 6))) (mRet (mC (.bl false))) mNext)
      (mSeq (mIfS (mAndT (mTst (mOp aEq (mVar 6) (mC (.str "let")))) (mNotT (mTst (mDef 2 (mPure (m_L_is_son g)) (mCons (mVar 4) (mCons (mVar 9) mNil)))))) (mAsg (mC (.str "turn")) (gmName 6)) mNext)
      (mSeq (mIfS (mTst (mOp aNe (mLamW (mWord (wl_L_word g)) (mDef 2 (mPure (m_turned_up g)) (mCons (mVar 4) (mCons (mVar 9) mNil)))) (mVar 6))) (mRet (mC (.bl false))) mNext)
      (mSeq (mAsg (mFrz (mLst (mCons (mC (.int 1)) (mCons (mOp aPow (mC (.int 2)) (mC (.int 60))) (mCons (mC (.int 0)) (mCons (mUn aNeg (mC (.int 1))) (mCons (mC (.bl true)) (mCons (mC .non) (mCons (mC (.str "1")) (mCons (mTup (mCons (mC (.int 1)) mNil)) (mCons (mFrz (mLst (mCons (mC (.int 1)) mNil))) (mCons (mDef 1 (mScope (m_L_deep g)) (mCons (mVar 1) mNil)) (mCons (mDef 2 (mPure (mkC g.Forest (m_Forest_init g))) (mCons (mTup (mCons (mC .non) mNil)) (mCons (mTup (mCons (mC (.int 7)) mNil)) mNil))) mNil))))))))))))) (gmName 10))
      (mSeq (mAsg (mOp aIx (mVar 10) (mDef 2 (mScope (m_L_draw g)) (mCons (mVar 1) (mCons (mC (.int 11)) mNil)))) (gmName 11))
      (mIfS (mTst (mOp aNe (mLamW (mWord (wl_L_word g)) (mDef 1 (mPure (m_rank g)) (mCons (mVar 11) mNil))) (mOp aIx (mFrz (mLst (mCons (mC (.str "number")) (mCons (mC (.str "let")) mNil)))) (mCall aInt (mCons (mDef 3 (mPure (m_L_number g)) (mCons (mVar 11) (mCons (mC (.int 1)) (mCons (mOp aPow (mC (.int 10)) (mC (.int 21))) mNil)))) mNil))))) (mRet (mC (.bl false))) mNext)))))))))))))))
      (mRet (mC (.bl true)))))))
end
end W3
local macro_rules | `(tactic| decreasing_trivial) => `(tactic| omega)
namespace PySem
namespace XBadForest
open PySem.W PySem.Calls PyProof.Rows PySem.HandSPX
def iA (p1 p2 : Pos) : Arguments := { posonlyargs := [], args := [{ arg := "self", annotation := none, pos := p1 }, { arg := "part", annotation := none, pos := p2 }], vararg := none, kwonlyargs := [], kw_defaults := [], kwarg := none, defaults := [] }
def iB (q1 q2 q3 q4 : Pos) : List Stmt := [.Assign [.Attribute (.Name "self" q1) "part" q2] (.Name "part" q3) q4]
def iS : Scope := { kind := .function, names := [(PySem.Str.ofString "self", .local), (PySem.Str.ofString "part", .local)], isGenerator := false, isCoroutine := false, more := [] }
/-- what the written part says of Low, at C, and of its __init__, at fI -/
structure TxtBadForest (K : Frag) (mg : Str → Option Value) (C fI : Addr) : Prop where
  gC : mg "BadForest" = some (.ref C)
  cls : ∃ nm q N bs bm sn sub ab col dd k0 k1 k2 k3 k5, K.lookup C = some (excClassObj nm q C N bs bm true sn sub ab col dd k0 k1 k2 k3 k5 "ValueError.__new__") ∧ refsVE bm = true
  sa : findIn K (.ref C) "__setattr__" = some (some (.builtin "object.__setattr__"))
  ga : findIn K (.ref C) "__getattribute__" = some (some (.builtin "BaseException.__getattribute__"))
  gg : findIn K (.ref C) "__getattr__" = some none
  noN : findIn K (.ref C) "part" = some none
  iC : findIn K (.ref C) "__init__" = some (some (.ref fI))
  tC : typeIn K (.ref fI) = some (.type "function")
  kC : keepIn K (.ref C) = true
  exC : subIn K (.ref C) (.type "BaseException") = some true
  tyC : typeIn K (.ref C) = some (.type "type")
  hdC : hasDictIn K C = true
  te : exmOne K (.ref C) (.ref C) = some true
  fn : ∃ (oc : Value) (od : Option Addr) (doc pm : Value) (an : Option Addr) (cdv ct : Value) (osl : Array (Option Value)) (p1 p2 q1 q2 q3 q4 : Pos),
    K.lookup fI = some ⟨oc, od, .func (fnOf "__init__" "BadForest.__init__" (iA p1 p2) (iB q1 q2 q3 q4) iS .none .none doc pm an cdv ct), osl⟩ ∧ codeIn K cdv "BadForest.__init__" = true
theorem one_size (v : Value) : [v].length ≤ sizeLine := by
  rw [sizeLine_eq]
  exact (by decide : 1 ≤ 16777216)
theorem ldC {M : Model} {s : Shared} {name : Str} {scope : Scope} {L a : Addr} {cd : Value} {m : Str → Option Value} {x : Str} {pos : Pos} {v : Value} {Q : Value → Shared → Prop} {A : Around} {E : Value → Shared → Prop} (hn : s.heap.Ns L m) (hv : m x = some v) (h : Q v s)
    (hk : scope.kind = .function := by rfl) (hl : (envOfC name scope L a cd).kindOf x = some .local := by rfl) (hd : (x == ("__debug__" : Str)) = false := by decide) :
    wpAny M A (eval (.Name x pos) (envOfC name scope L a cd)) Q E s := wpAny_Name (wpAny_loadName_local hk hl hn hv h) hd
/-- what __init__ leaves of a fresh exception at x -/
structure InitEnd (h h' : Heap) (x C dx t1 : Addr) (v : Value) : Prop where
  keep : ∀ b o, b ≠ x → h.get? b = some o → h'.get? b = some o
  obj : h'.get? x = some { cls := .ref C, dict := some dx, data := .fields #[.ref t1, .none, .none, .none, .bool false, .none] }
  dbig : h.objs.size ≤ dx
  dne : dx ≠ x
  ns : h'.Ns1 dx (fun y => if y = "part" then some v else none)
/-- a made Low -/
structure OwnMade (h h' : Heap) (e C d : Addr) (v : Value) : Prop where
  keep : ∀ b o, h.get? b = some o → h'.get? b = some o
  new : h.objs.size ≤ e
  obj : ∃ oe vs, h'.get? e = some oe ∧ oe.cls = .ref C ∧ oe.dict = some d ∧ oe.data = .fields vs ∧ vs[1]? = some .none
  dbig : h.objs.size ≤ d
  dne : d ≠ e
  ns : h'.Ns1 d (fun y => if y = "part" then some v else none)
section
variable {prog : Program} {w : World} {A : Around} {E : Value → Shared → Prop} {R : Result → Shared → Prop} {s : Shared} {K : Frag} {mg : Str → Option Value} {C fI : Addr}
theorem low_init (T : TxtBadForest K mg C fI) {x t0 : Addr} {v : Value} (X : K.In s.heap) (hlim : s.heap.NoLimit) (hx : s.heap.get? x = some (excO C t0)) (hnx : K.lookup x = none) (hroom : A.depth < recursionLimit)
    (hq : ∀ h' tk dx, InitEnd s.heap h' x C dx t0 v → R (.ok (.ret .none)) { s with heap := h', toks := tk }) :
    codeAny (model prog w) A (.call (.ref fI) ⟨[.ref x, v], []⟩) R s := by
  obtain ⟨oc, od, doc, pm, an, cdv, ct, osl, p1, p2, q1, q2, q3, q4, ho, hcd⟩ := T.fn
  obtain ⟨nm, q, N, bs, bm, sn, sub, ab, col, dd, k0, k1, k2, k3, k5, hC, hbm⟩ := T.cls
  have hcl : clsIn K C = some { name := nm, bases := bs, mro := .ref C :: bm, ns := N, qualname := q, hasDict := true, slotNames := sn, subclasses := sub, abstract := ab, collection := col, hasDel := false } := by unfold clsIn; rw [hC] <;> rfl
  refine Att.call_fn (binds := [("self", .ref x), ("part", v)]) X hlim ho hcd hroom (BindsTo.of_eq (by first | rfl | with_unfolding_all rfl)) (by first | rfl | decide | with_unfolding_all rfl) (fun s₁ IC => ?_) rfl rfl rfl
  obtain ⟨h₁, tk₁, rfl⟩ := IC.toInCall.same
  have k : ∀ b o, s.heap.get? b = some o → h₁.get? b = some o := IC.toInCall.keep
  have hn := IC.toInCall.ns
  have hxL : s.heap.objs.size ≠ x := Nat.ne_of_gt (Heap.lt_size hx)
  have X₁ : K.In h₁ := X.keeps k
  have hx₁ := k _ _ hx
  -- self.by = by
  show wpAny _ _ (execs _ _) _ _ _
  refine wpAny_execs_cons (plainObj_wpAny_Assign_Attribute ?_)
  refine ldC (v := v) hn (by first | rfl | with_unfolding_all rfl | kernel_rfl) (ldC (v := .ref x) hn (by first | rfl | with_unfolding_all rfl | kernel_rfl) ?_)
  refine set_plain X₁ (ox := excO C t0) (od := none) ⟨hx₁, rfl, rfl, trivial⟩ T.sa ?_
  refine exc_osa X₁ hx₁ hcl (show refsVE (.ref C :: bm) = true from hbm) rfl T.noN (fun h₃ tk₃ dx k₃ dn dne hx₃ hn₃ => ?_)
  show wpAny _ _ (execs _ _) _ _ _
  have z : s.heap.objs.size < h₁.objs.size := hn.lt
  exact wpAny_execs_nil (hq h₃ tk₃ dx ⟨fun b o hb e => k₃ b o hb (k b o e), hx₃, Nat.le_of_lt (Nat.lt_of_lt_of_le z dn), dne, hn₃⟩)
theorem low_made (T : TxtBadForest K mg C fI) {v : Value} (X : K.In s.heap) (hlim : s.heap.NoLimit) (hroom : A.depth + 1 < recursionLimit)
    (hq : ∀ h' tk e d, OwnMade s.heap h' e C d v → R (.ok (.ret (.ref e))) { s with heap := h', toks := tk }) :
    codeAny (model prog w) A (.call (.ref C) ⟨[v], []⟩) R s := by
  obtain ⟨nm, q, N, bs, bm, sn, sub, ab, col, dd, k0, k1, k2, k3, k5, hC, hbm⟩ := T.cls
  obtain ⟨hp, g, dr, tk, os⟩ := s
  have k : ∀ b o, hp.get? b = some o → ((hp.push (kdv_tup [v])).push (excO C hp.objs.size)).get? b = some o := fun b o e => Heap.get?_push_of_some _ (Heap.get?_push_of_some _ e)
  have hget : ((hp.push (kdv_tup [v])).push (excO C hp.objs.size)).get? (hp.objs.size + 1) = some (excO C hp.objs.size) := by heap_get
  have hnx : K.lookup (hp.objs.size + 1) = none := by
    cases e : K.lookup (hp.objs.size + 1) with
    | none => rfl
    | some o =>
      have z : hp.get? (hp.objs.size + 1) = some o := X _ _ e
      exact absurd (Nat.lt_of_succ_lt (Heap.lt_size z)) (Nat.lt_irrefl _)
  refine call_own F.excBase_ValueError (fun X => refsVE_contains X bm hbm) (X _ _ hC) (looks_findIn X T.iC) (fun self => bind_fn X self T.tC) (one_size v) ?_
  refine low_init (s := ⟨(hp.push (kdv_tup [v])).push (excO C hp.objs.size), g, dr, tk, os⟩) T (X.keeps k) (hlim.keeps k) hget hnx ?_ fun h' tk' dx ⟨k', hx, dn, dne, hns⟩ => ?_
  · show A.depth + 1 < recursionLimit
    exact hroom
  · have old : ∀ b o, hp.get? b = some o → h'.get? b = some o := fun b o e => k' b o (Nat.ne_of_lt (Nat.lt_succ_of_lt (Heap.lt_size e))) (k b o e)
    have z : hp.objs.size + 1 + 1 ≤ dx := by
      first
        | (simpa only [Heap.size_push] using dn)
        | exact dn
        | (have q := dn; rw [Heap.size_push, Heap.size_push] at q; exact q)
    exact ⟨rfl, hq h' tk' (hp.objs.size + 1) dx ⟨old, Nat.le_succ _, ⟨_, _, hx, rfl, rfl, rfl, rfl⟩, Nat.le_trans (Nat.le_trans (Nat.le_succ _) (Nat.le_succ _)) z, dne, hns⟩⟩
end
end XBadForest
end PySem
namespace L2
open PySem PySem.Spec PyProof.Rows
theorem relO__BadForest {v : V} {v' : Value} (r : RelV v v') (f : Str) : RelO (List.lookup f [(("part" : Str), v)]) (if f = "part" then some v' else none) := by
  by_cases hw : f = "part"
  · subst hw
    rw [if_pos rfl]
    have q : List.lookup ("part" : Str) [(("part" : Str), v)] = some v := by simp [List.lookup]
    rw [q]
    exact r
  · rw [if_neg hw]
    have qw : (f == ("part" : Str)) = false := by simpa using hw
    have q2 : List.lookup f [(("part" : Str), v)] = none := by simp [List.lookup, qw]
    rw [q2]
    trivial
section
variable {X : Cx} {C fI : Addr}
/-- Low(e) -/
def tMk_BadForest (C : Addr) (ta : TA) : St → Hp → XK → Prop := fun σ H Q => ta σ H fun vs H1 => ∃ v, vs = [v] ∧ ∀ d, H1 d = none → Q (.ref C) (some d) (upd H1 d (.xd [(("part" : Str), v)]))
theorem pmk__BadForest {a : Expr} {ta : TA} {p pos : Pos} {k : Nat} (T : PySem.XBadForest.TxtBadForest X.K X.mg C fI) (hr : Room k X.A) (ha : PA X [a] ta) (hg : Gl X "BadForest" := by rfl)
    (he : starEach (a :: []) X.env = (false, eval a X.env) :: starEach [] X.env := by rfl) (hpl : (backTo pos (starEach [] X.env)).any (·.1) = false := by rfl) :
    PMk X (.Call (.Name "BadForest" p) [a] [] pos) (tMk_BadForest C ta) := by
  intro pins s σ H Q I h
  refine wpAny_Call_Name_kw (ld_glob I hg T.gC ?_)
  refine PySem.W.callWith_K (h₀ := X.base) I.ok.mod.kin T.kC (thn (ha.run pos pins s σ H _ I h) fun us s1 hh => ?_) he hpl
  obtain ⟨vs, H1, I1, r1, v, ev, q1⟩ := hh
  subst ev
  refine ⟨I1.kIn, ?_⟩
  cases r1 with
  | cons rv rn =>
    rename_i v' us'
    cases rn
    show wpAny _ _ (call (.ref C) [v']) _ _ _
    have hlim := I1.nolimit
    obtain ⟨hp, g, dr, tk, os⟩ := s1
    refine wpAny_call (PySem.XBadForest.low_made T I1.kIn hlim (by have := hr.dp; omega) fun h' tk' e d M => ?_)
    show MkP X pins σ Q (.ref e) ⟨h', g, dr, tk', os⟩
    obtain ⟨oe, fv, hoe, hc, hd, hdat, h1⟩ := M.obj
    have hns := M.ns
    obtain ⟨G', g1, g2⟩ := restrict h' fun b => decide (b ≠ e)
    have gk : ∀ b, b ≠ e → G'.get? b = h'.get? b := fun b hb => g1 b (decide_eq_true hb)
    have ge : G'.get? e = none := g2 e (by simp)
    have old : ∀ b o, hp.get? b = some o → G'.get? b = some o := fun b o q => (gk b (Nat.ne_of_lt (Nat.lt_of_lt_of_le (Heap.lt_size q) M.new))).trans (M.keep b o q)
    have ob : ObjOk X.prog X.w (upd H1 d (.xd [(("part" : Str), v)])) G' d (.xd [(("part" : Str), v)]) :=
      ⟨_, hns.at (fun o q => (gk d M.dne).trans q), fun f => relO__BadForest rv f⟩
    have J : Inv X pins σ (upd H1 d (.xd [(("part" : Str), v)])) ⟨G', g, dr, tk', os⟩ := I1.laid (t' := tk') old M.dbig ob
    refine ⟨e, oe, fv, ⟨G', g, dr, tk', os⟩, _, .ref C, some d, rfl, J, fun b o q => ?_, ge, hoe, ⟨hc, hd⟩, hdat, h1, ?_, rfl, I1.bare, raises_own T.exC T.tyC, q1 d (I1.hok.fresh M.dbig)⟩
    · by_cases hb : b = e
      · have q' : G'.get? b = some o := q
        rw [hb, ge] at q'; cases q'
      · exact (gk b hb).symm.trans q
    · rw [upd_ne (Ne.symm M.dne)]
      exact I1.hok.fresh M.new
/-- raise Low(e) -/
def tRaise_BadForest (C : Addr) (W : WX) (ta : TA) : TS := fun _ σ H => tMk_BadForest C ta σ H fun cls d H' => W cls d σ H'
theorem ps_raise_BadForest {a : Expr} {ta : TA} {W : WX} {p pos pos2 : Pos} {k : Nat} (hc : X.calm = true) (T : PySem.XBadForest.TxtBadForest X.K X.mg C fI) (hr : Room k X.A) (tk : Takes X W) (ha : PA X [a] ta) (hg : Gl X "BadForest" := by rfl)
    (he : starEach (a :: []) X.env = (false, eval a X.env) :: starEach [] X.env := by rfl) (hpl : (backTo pos (starEach [] X.env)).any (·.1) = false := by rfl) :
    PS X (.Raise (some (.Call (.Name "BadForest" p) [a] [] pos)) none pos2) (tRaise_BadForest C W ta) := ps_raise hc tk (pmk__BadForest T hr ha hg he hpl)
end
end L2
namespace PySem
namespace XNoHouse
open PySem.W PySem.Calls PyProof.Rows PySem.HandSPX
def iA (p1 : Pos) : Arguments := { posonlyargs := [], args := [{ arg := "self", annotation := none, pos := p1 }], vararg := none, kwonlyargs := [], kw_defaults := [], kwarg := none, defaults := [] }
def iB (q1 : Pos) : List Stmt := [.Pass q1]
def iS : Scope := { kind := .function, names := [(PySem.Str.ofString "self", .local)], isGenerator := false, isCoroutine := false, more := [] }
structure TxtNoHouse (K : Frag) (mg : Str → Option Value) (C fI : Addr) : Prop where
  gC : mg "NoHouse" = some (.ref C)
  cls : ∃ nm q N bs bm sn sub ab col dd k0 k1 k2 k3 k5, K.lookup C = some (excClassObj nm q C N bs bm true sn sub ab col dd k0 k1 k2 k3 k5 "ValueError.__new__") ∧ refsVE bm = true
  iC : findIn K (.ref C) "__init__" = some (some (.ref fI))
  tC : typeIn K (.ref fI) = some (.type "function")
  kC : keepIn K (.ref C) = true
  exC : subIn K (.ref C) (.type "BaseException") = some true
  tyC : typeIn K (.ref C) = some (.type "type")
  te : exmOne K (.ref C) (.ref C) = some true
  fn : ∃ (oc : Value) (od : Option Addr) (doc pm : Value) (an : Option Addr) (cdv ct : Value) (osl : Array (Option Value)) (p1 q1 : Pos),
    K.lookup fI = some ⟨oc, od, .func (fnOf "__init__" "NoHouse.__init__" (iA p1) (iB q1) iS .none .none doc pm an cdv ct), osl⟩ ∧ codeIn K cdv "NoHouse.__init__" = true
section
variable {prog : Program} {w : World} {A : Around} {E : Value → Shared → Prop} {R : Result → Shared → Prop} {s : Shared} {K : Frag} {mg : Str → Option Value} {C fI : Addr}
theorem low_init (T : TxtNoHouse K mg C fI) {x : Addr} (X : K.In s.heap) (hlim : s.heap.NoLimit) (hroom : A.depth < recursionLimit)
    (hq : ∀ h' tk, (∀ b o, s.heap.get? b = some o → h'.get? b = some o) → R (.ok (.ret .none)) { s with heap := h', toks := tk }) :
    codeAny (model prog w) A (.call (.ref fI) ⟨[.ref x], []⟩) R s := by
  obtain ⟨oc, od, doc, pm, an, cdv, ct, osl, p1, q1, ho, hcd⟩ := T.fn
  refine Att.call_fn (binds := [("self", .ref x)]) X hlim ho hcd hroom (BindsTo.of_eq (by first | rfl | with_unfolding_all rfl)) (by first | rfl | decide | with_unfolding_all rfl) (fun s₁ IC => ?_) rfl rfl rfl
  obtain ⟨h₁, tk₁, rfl⟩ := IC.toInCall.same
  have k : ∀ b o, s.heap.get? b = some o → h₁.get? b = some o := IC.toInCall.keep
  show wpAny _ _ (execs _ _) _ _ _
  refine wpAny_execs_cons (wpAny_Pass ?_)
  show wpAny _ _ (execs _ _) _ _ _
  exact wpAny_execs_nil (hq h₁ tk₁ k)
theorem low_made (T : TxtNoHouse K mg C fI) (X : K.In s.heap) (hlim : s.heap.NoLimit) (hroom : A.depth + 1 < recursionLimit)
    (hq : ∀ h' tk e t1, (∀ b o, s.heap.get? b = some o → h'.get? b = some o) → s.heap.objs.size ≤ e → h'.get? e = some (excO C t1) → R (.ok (.ret (.ref e))) { s with heap := h', toks := tk }) :
    codeAny (model prog w) A (.call (.ref C) ⟨[], []⟩) R s := by
  obtain ⟨nm, q, N, bs, bm, sn, sub, ab, col, dd, k0, k1, k2, k3, k5, hC, hbm⟩ := T.cls
  obtain ⟨hp, g, dr, tk, os⟩ := s
  have k : ∀ b o, hp.get? b = some o → ((hp.push (kdv_tup [])).push (excO C hp.objs.size)).get? b = some o := fun b o e => Heap.get?_push_of_some _ (Heap.get?_push_of_some _ e)
  have hget : ((hp.push (kdv_tup [])).push (excO C hp.objs.size)).get? (hp.objs.size + 1) = some (excO C hp.objs.size) := by heap_get
  refine call_own F.excBase_ValueError (fun X => refsVE_contains X bm hbm) (X _ _ hC) (looks_findIn X T.iC) (fun self => bind_fn X self T.tC) (Nat.zero_le _) ?_
  refine low_init (s := ⟨(hp.push (kdv_tup [])).push (excO C hp.objs.size), g, dr, tk, os⟩) T (X.keeps k) (hlim.keeps k) ?_ fun h' tk' k' => ?_
  · show A.depth + 1 < recursionLimit
    exact hroom
  · exact ⟨rfl, hq h' tk' (hp.objs.size + 1) hp.objs.size (fun b o e => k' b o (k b o e)) (Nat.le_succ _) (k' _ _ hget)⟩
end
end XNoHouse
end PySem
namespace L2
open PySem PySem.Spec PyProof.Rows
section
variable {X : Cx} {C fI : Addr}
theorem pmk__NoHouse {p pos : Pos} {k : Nat} (T : PySem.XNoHouse.TxtNoHouse X.K X.mg C fI) (hr : Room k X.A) (hg : Gl X "NoHouse" := by rfl) :
    PMk X (.Call (.Name "NoHouse" p) [] [] pos) (fun _ H Q => Q (.ref C) none H) := by
  intro pins s σ H Q I h
  refine wpAny_Call_Name_kw (ld_glob I hg T.gC ?_)
  refine PySem.W.callWith_K0 I.kIn T.kC ?_
  have hlim := I.nolimit
  have kin := I.kIn
  obtain ⟨hp, g, dr, tk, os⟩ := s
  show wpAny _ _ (call (.ref C) []) _ _ _
  refine wpAny_call (PySem.XNoHouse.low_made T kin hlim (by have := hr.dp; omega) fun h' tk' e t1 kp hnew he => ?_)
  show MkP X pins σ Q (.ref e) ⟨h', g, dr, tk', os⟩
  obtain ⟨G', g1, g2⟩ := restrict h' fun b => decide (b ≠ e)
  have gk : ∀ b, b ≠ e → G'.get? b = h'.get? b := fun b hb => g1 b (decide_eq_true hb)
  have ge : G'.get? e = none := g2 e (by simp)
  have old : ∀ b o, hp.get? b = some o → G'.get? b = some o := fun b o q => (gk b (Nat.ne_of_lt (Nat.lt_of_lt_of_le (Heap.lt_size q) hnew))).trans (kp b o q)
  have J : Inv X pins σ H ⟨G', g, dr, tk', os⟩ := I.kept (t' := tk') old
  refine ⟨e, _, _, ⟨G', g, dr, tk', os⟩, H, .ref C, none, rfl, J, fun b o q => ?_, ge, he, ⟨rfl, rfl⟩, rfl, rfl, I.hok.fresh hnew, rfl, I.bare, raises_own T.exC T.tyC, h⟩
  by_cases hb : b = e
  · have q' : G'.get? b = some o := q
    rw [hb, ge] at q'; cases q'
  · exact (gk b hb).symm.trans q
def tRaise_NoHouse (C : Addr) (W : WX) : TS := fun _ σ H => W (.ref C) none σ H
theorem ps_raise_NoHouse {W : WX} {p pos pos2 : Pos} {k : Nat} (hc : X.calm = true) (T : PySem.XNoHouse.TxtNoHouse X.K X.mg C fI) (hr : Room k X.A) (tk : Takes X W) (hg : Gl X "NoHouse" := by rfl) :
    PS X (.Raise (some (.Call (.Name "NoHouse" p) [] [] pos)) none pos2) (tRaise_NoHouse C W) := ps_raise hc tk (pmk__NoHouse T hr hg)
end
end L2
namespace PySem
namespace XNoNumber
open PySem.W PySem.Calls PyProof.Rows PySem.HandSPX
def iA (p1 : Pos) : Arguments := { posonlyargs := [], args := [{ arg := "self", annotation := none, pos := p1 }], vararg := none, kwonlyargs := [], kw_defaults := [], kwarg := none, defaults := [] }
def iB (q1 : Pos) : List Stmt := [.Pass q1]
def iS : Scope := { kind := .function, names := [(PySem.Str.ofString "self", .local)], isGenerator := false, isCoroutine := false, more := [] }
structure TxtNoNumber (K : Frag) (mg : Str → Option Value) (C fI : Addr) : Prop where
  gC : mg "NoNumber" = some (.ref C)
  cls : ∃ nm q N bs bm sn sub ab col dd k0 k1 k2 k3 k5, K.lookup C = some (excClassObj nm q C N bs bm true sn sub ab col dd k0 k1 k2 k3 k5 "ValueError.__new__") ∧ refsVE bm = true
  iC : findIn K (.ref C) "__init__" = some (some (.ref fI))
  tC : typeIn K (.ref fI) = some (.type "function")
  kC : keepIn K (.ref C) = true
  exC : subIn K (.ref C) (.type "BaseException") = some true
  tyC : typeIn K (.ref C) = some (.type "type")
  te : exmOne K (.ref C) (.ref C) = some true
  fn : ∃ (oc : Value) (od : Option Addr) (doc pm : Value) (an : Option Addr) (cdv ct : Value) (osl : Array (Option Value)) (p1 q1 : Pos),
    K.lookup fI = some ⟨oc, od, .func (fnOf "__init__" "NoNumber.__init__" (iA p1) (iB q1) iS .none .none doc pm an cdv ct), osl⟩ ∧ codeIn K cdv "NoNumber.__init__" = true
section
variable {prog : Program} {w : World} {A : Around} {E : Value → Shared → Prop} {R : Result → Shared → Prop} {s : Shared} {K : Frag} {mg : Str → Option Value} {C fI : Addr}
theorem low_init (T : TxtNoNumber K mg C fI) {x : Addr} (X : K.In s.heap) (hlim : s.heap.NoLimit) (hroom : A.depth < recursionLimit)
    (hq : ∀ h' tk, (∀ b o, s.heap.get? b = some o → h'.get? b = some o) → R (.ok (.ret .none)) { s with heap := h', toks := tk }) :
    codeAny (model prog w) A (.call (.ref fI) ⟨[.ref x], []⟩) R s := by
  obtain ⟨oc, od, doc, pm, an, cdv, ct, osl, p1, q1, ho, hcd⟩ := T.fn
  refine Att.call_fn (binds := [("self", .ref x)]) X hlim ho hcd hroom (BindsTo.of_eq (by first | rfl | with_unfolding_all rfl)) (by first | rfl | decide | with_unfolding_all rfl) (fun s₁ IC => ?_) rfl rfl rfl
  obtain ⟨h₁, tk₁, rfl⟩ := IC.toInCall.same
  have k : ∀ b o, s.heap.get? b = some o → h₁.get? b = some o := IC.toInCall.keep
  show wpAny _ _ (execs _ _) _ _ _
  refine wpAny_execs_cons (wpAny_Pass ?_)
  show wpAny _ _ (execs _ _) _ _ _
  exact wpAny_execs_nil (hq h₁ tk₁ k)
theorem low_made (T : TxtNoNumber K mg C fI) (X : K.In s.heap) (hlim : s.heap.NoLimit) (hroom : A.depth + 1 < recursionLimit)
    (hq : ∀ h' tk e t1, (∀ b o, s.heap.get? b = some o → h'.get? b = some o) → s.heap.objs.size ≤ e → h'.get? e = some (excO C t1) → R (.ok (.ret (.ref e))) { s with heap := h', toks := tk }) :
    codeAny (model prog w) A (.call (.ref C) ⟨[], []⟩) R s := by
  obtain ⟨nm, q, N, bs, bm, sn, sub, ab, col, dd, k0, k1, k2, k3, k5, hC, hbm⟩ := T.cls
  obtain ⟨hp, g, dr, tk, os⟩ := s
  have k : ∀ b o, hp.get? b = some o → ((hp.push (kdv_tup [])).push (excO C hp.objs.size)).get? b = some o := fun b o e => Heap.get?_push_of_some _ (Heap.get?_push_of_some _ e)
  have hget : ((hp.push (kdv_tup [])).push (excO C hp.objs.size)).get? (hp.objs.size + 1) = some (excO C hp.objs.size) := by heap_get
  refine call_own F.excBase_ValueError (fun X => refsVE_contains X bm hbm) (X _ _ hC) (looks_findIn X T.iC) (fun self => bind_fn X self T.tC) (Nat.zero_le _) ?_
  refine low_init (s := ⟨(hp.push (kdv_tup [])).push (excO C hp.objs.size), g, dr, tk, os⟩) T (X.keeps k) (hlim.keeps k) ?_ fun h' tk' k' => ?_
  · show A.depth + 1 < recursionLimit
    exact hroom
  · exact ⟨rfl, hq h' tk' (hp.objs.size + 1) hp.objs.size (fun b o e => k' b o (k b o e)) (Nat.le_succ _) (k' _ _ hget)⟩
end
end XNoNumber
end PySem
namespace L2
open PySem PySem.Spec PyProof.Rows
section
variable {X : Cx} {C fI : Addr}
theorem pmk__NoNumber {p pos : Pos} {k : Nat} (T : PySem.XNoNumber.TxtNoNumber X.K X.mg C fI) (hr : Room k X.A) (hg : Gl X "NoNumber" := by rfl) :
    PMk X (.Call (.Name "NoNumber" p) [] [] pos) (fun _ H Q => Q (.ref C) none H) := by
  intro pins s σ H Q I h
  refine wpAny_Call_Name_kw (ld_glob I hg T.gC ?_)
  refine PySem.W.callWith_K0 I.kIn T.kC ?_
  have hlim := I.nolimit
  have kin := I.kIn
  obtain ⟨hp, g, dr, tk, os⟩ := s
  show wpAny _ _ (call (.ref C) []) _ _ _
  refine wpAny_call (PySem.XNoNumber.low_made T kin hlim (by have := hr.dp; omega) fun h' tk' e t1 kp hnew he => ?_)
  show MkP X pins σ Q (.ref e) ⟨h', g, dr, tk', os⟩
  obtain ⟨G', g1, g2⟩ := restrict h' fun b => decide (b ≠ e)
  have gk : ∀ b, b ≠ e → G'.get? b = h'.get? b := fun b hb => g1 b (decide_eq_true hb)
  have ge : G'.get? e = none := g2 e (by simp)
  have old : ∀ b o, hp.get? b = some o → G'.get? b = some o := fun b o q => (gk b (Nat.ne_of_lt (Nat.lt_of_lt_of_le (Heap.lt_size q) hnew))).trans (kp b o q)
  have J : Inv X pins σ H ⟨G', g, dr, tk', os⟩ := I.kept (t' := tk') old
  refine ⟨e, _, _, ⟨G', g, dr, tk', os⟩, H, .ref C, none, rfl, J, fun b o q => ?_, ge, he, ⟨rfl, rfl⟩, rfl, rfl, I.hok.fresh hnew, rfl, I.bare, raises_own T.exC T.tyC, h⟩
  by_cases hb : b = e
  · have q' : G'.get? b = some o := q
    rw [hb, ge] at q'; cases q'
  · exact (gk b hb).symm.trans q
def tRaise_NoNumber (C : Addr) (W : WX) : TS := fun _ σ H => W (.ref C) none σ H
theorem ps_raise_NoNumber {W : WX} {p pos pos2 : Pos} {k : Nat} (hc : X.calm = true) (T : PySem.XNoNumber.TxtNoNumber X.K X.mg C fI) (hr : Room k X.A) (tk : Takes X W) (hg : Gl X "NoNumber" := by rfl) :
    PS X (.Raise (some (.Call (.Name "NoNumber" p) [] [] pos)) none pos2) (tRaise_NoNumber C W) := ps_raise hc tk (pmk__NoNumber T hr hg)
end
end L2
namespace PySem
namespace XNoShape
open PySem.W PySem.Calls PyProof.Rows PySem.HandSPX
def iA (p1 : Pos) : Arguments := { posonlyargs := [], args := [{ arg := "self", annotation := none, pos := p1 }], vararg := none, kwonlyargs := [], kw_defaults := [], kwarg := none, defaults := [] }
def iB (q1 : Pos) : List Stmt := [.Pass q1]
def iS : Scope := { kind := .function, names := [(PySem.Str.ofString "self", .local)], isGenerator := false, isCoroutine := false, more := [] }
structure TxtNoShape (K : Frag) (mg : Str → Option Value) (C fI : Addr) : Prop where
  gC : mg "NoShape" = some (.ref C)
  cls : ∃ nm q N bs bm sn sub ab col dd k0 k1 k2 k3 k5, K.lookup C = some (excClassObj nm q C N bs bm true sn sub ab col dd k0 k1 k2 k3 k5 "ValueError.__new__") ∧ refsVE bm = true
  iC : findIn K (.ref C) "__init__" = some (some (.ref fI))
  tC : typeIn K (.ref fI) = some (.type "function")
  kC : keepIn K (.ref C) = true
  exC : subIn K (.ref C) (.type "BaseException") = some true
  tyC : typeIn K (.ref C) = some (.type "type")
  te : exmOne K (.ref C) (.ref C) = some true
  fn : ∃ (oc : Value) (od : Option Addr) (doc pm : Value) (an : Option Addr) (cdv ct : Value) (osl : Array (Option Value)) (p1 q1 : Pos),
    K.lookup fI = some ⟨oc, od, .func (fnOf "__init__" "NoShape.__init__" (iA p1) (iB q1) iS .none .none doc pm an cdv ct), osl⟩ ∧ codeIn K cdv "NoShape.__init__" = true
section
variable {prog : Program} {w : World} {A : Around} {E : Value → Shared → Prop} {R : Result → Shared → Prop} {s : Shared} {K : Frag} {mg : Str → Option Value} {C fI : Addr}
theorem low_init (T : TxtNoShape K mg C fI) {x : Addr} (X : K.In s.heap) (hlim : s.heap.NoLimit) (hroom : A.depth < recursionLimit)
    (hq : ∀ h' tk, (∀ b o, s.heap.get? b = some o → h'.get? b = some o) → R (.ok (.ret .none)) { s with heap := h', toks := tk }) :
    codeAny (model prog w) A (.call (.ref fI) ⟨[.ref x], []⟩) R s := by
  obtain ⟨oc, od, doc, pm, an, cdv, ct, osl, p1, q1, ho, hcd⟩ := T.fn
  refine Att.call_fn (binds := [("self", .ref x)]) X hlim ho hcd hroom (BindsTo.of_eq (by first | rfl | with_unfolding_all rfl)) (by first | rfl | decide | with_unfolding_all rfl) (fun s₁ IC => ?_) rfl rfl rfl
  obtain ⟨h₁, tk₁, rfl⟩ := IC.toInCall.same
  have k : ∀ b o, s.heap.get? b = some o → h₁.get? b = some o := IC.toInCall.keep
  show wpAny _ _ (execs _ _) _ _ _
  refine wpAny_execs_cons (wpAny_Pass ?_)
  show wpAny _ _ (execs _ _) _ _ _
  exact wpAny_execs_nil (hq h₁ tk₁ k)
theorem low_made (T : TxtNoShape K mg C fI) (X : K.In s.heap) (hlim : s.heap.NoLimit) (hroom : A.depth + 1 < recursionLimit)
    (hq : ∀ h' tk e t1, (∀ b o, s.heap.get? b = some o → h'.get? b = some o) → s.heap.objs.size ≤ e → h'.get? e = some (excO C t1) → R (.ok (.ret (.ref e))) { s with heap := h', toks := tk }) :
    codeAny (model prog w) A (.call (.ref C) ⟨[], []⟩) R s := by
  obtain ⟨nm, q, N, bs, bm, sn, sub, ab, col, dd, k0, k1, k2, k3, k5, hC, hbm⟩ := T.cls
  obtain ⟨hp, g, dr, tk, os⟩ := s
  have k : ∀ b o, hp.get? b = some o → ((hp.push (kdv_tup [])).push (excO C hp.objs.size)).get? b = some o := fun b o e => Heap.get?_push_of_some _ (Heap.get?_push_of_some _ e)
  have hget : ((hp.push (kdv_tup [])).push (excO C hp.objs.size)).get? (hp.objs.size + 1) = some (excO C hp.objs.size) := by heap_get
  refine call_own F.excBase_ValueError (fun X => refsVE_contains X bm hbm) (X _ _ hC) (looks_findIn X T.iC) (fun self => bind_fn X self T.tC) (Nat.zero_le _) ?_
  refine low_init (s := ⟨(hp.push (kdv_tup [])).push (excO C hp.objs.size), g, dr, tk, os⟩) T (X.keeps k) (hlim.keeps k) ?_ fun h' tk' k' => ?_
  · show A.depth + 1 < recursionLimit
    exact hroom
  · exact ⟨rfl, hq h' tk' (hp.objs.size + 1) hp.objs.size (fun b o e => k' b o (k b o e)) (Nat.le_succ _) (k' _ _ hget)⟩
end
end XNoShape
end PySem
namespace L2
open PySem PySem.Spec PyProof.Rows
section
variable {X : Cx} {C fI : Addr}
theorem pmk__NoShape {p pos : Pos} {k : Nat} (T : PySem.XNoShape.TxtNoShape X.K X.mg C fI) (hr : Room k X.A) (hg : Gl X "NoShape" := by rfl) :
    PMk X (.Call (.Name "NoShape" p) [] [] pos) (fun _ H Q => Q (.ref C) none H) := by
  intro pins s σ H Q I h
  refine wpAny_Call_Name_kw (ld_glob I hg T.gC ?_)
  refine PySem.W.callWith_K0 I.kIn T.kC ?_
  have hlim := I.nolimit
  have kin := I.kIn
  obtain ⟨hp, g, dr, tk, os⟩ := s
  show wpAny _ _ (call (.ref C) []) _ _ _
  refine wpAny_call (PySem.XNoShape.low_made T kin hlim (by have := hr.dp; omega) fun h' tk' e t1 kp hnew he => ?_)
  show MkP X pins σ Q (.ref e) ⟨h', g, dr, tk', os⟩
  obtain ⟨G', g1, g2⟩ := restrict h' fun b => decide (b ≠ e)
  have gk : ∀ b, b ≠ e → G'.get? b = h'.get? b := fun b hb => g1 b (decide_eq_true hb)
  have ge : G'.get? e = none := g2 e (by simp)
  have old : ∀ b o, hp.get? b = some o → G'.get? b = some o := fun b o q => (gk b (Nat.ne_of_lt (Nat.lt_of_lt_of_le (Heap.lt_size q) hnew))).trans (kp b o q)
  have J : Inv X pins σ H ⟨G', g, dr, tk', os⟩ := I.kept (t' := tk') old
  refine ⟨e, _, _, ⟨G', g, dr, tk', os⟩, H, .ref C, none, rfl, J, fun b o q => ?_, ge, he, ⟨rfl, rfl⟩, rfl, rfl, I.hok.fresh hnew, rfl, I.bare, raises_own T.exC T.tyC, h⟩
  by_cases hb : b = e
  · have q' : G'.get? b = some o := q
    rw [hb, ge] at q'; cases q'
  · exact (gk b hb).symm.trans q
def tRaise_NoShape (C : Addr) (W : WX) : TS := fun _ σ H => W (.ref C) none σ H
theorem ps_raise_NoShape {W : WX} {p pos pos2 : Pos} {k : Nat} (hc : X.calm = true) (T : PySem.XNoShape.TxtNoShape X.K X.mg C fI) (hr : Room k X.A) (tk : Takes X W) (hg : Gl X "NoShape" := by rfl) :
    PS X (.Raise (some (.Call (.Name "NoShape" p) [] [] pos)) none pos2) (tRaise_NoShape C W) := ps_raise hc tk (pmk__NoShape T hr hg)
end
end L2
namespace PySem
namespace XNoTurn
open PySem.W PySem.Calls PyProof.Rows PySem.HandSPX
def iA (p1 : Pos) : Arguments := { posonlyargs := [], args := [{ arg := "self", annotation := none, pos := p1 }], vararg := none, kwonlyargs := [], kw_defaults := [], kwarg := none, defaults := [] }
def iB (q1 : Pos) : List Stmt := [.Pass q1]
def iS : Scope := { kind := .function, names := [(PySem.Str.ofString "self", .local)], isGenerator := false, isCoroutine := false, more := [] }
structure TxtNoTurn (K : Frag) (mg : Str → Option Value) (C fI : Addr) : Prop where
  gC : mg "NoTurn" = some (.ref C)
  cls : ∃ nm q N bs bm sn sub ab col dd k0 k1 k2 k3 k5, K.lookup C = some (excClassObj nm q C N bs bm true sn sub ab col dd k0 k1 k2 k3 k5 "ValueError.__new__") ∧ refsVE bm = true
  iC : findIn K (.ref C) "__init__" = some (some (.ref fI))
  tC : typeIn K (.ref fI) = some (.type "function")
  kC : keepIn K (.ref C) = true
  exC : subIn K (.ref C) (.type "BaseException") = some true
  tyC : typeIn K (.ref C) = some (.type "type")
  te : exmOne K (.ref C) (.ref C) = some true
  fn : ∃ (oc : Value) (od : Option Addr) (doc pm : Value) (an : Option Addr) (cdv ct : Value) (osl : Array (Option Value)) (p1 q1 : Pos),
    K.lookup fI = some ⟨oc, od, .func (fnOf "__init__" "NoTurn.__init__" (iA p1) (iB q1) iS .none .none doc pm an cdv ct), osl⟩ ∧ codeIn K cdv "NoTurn.__init__" = true
section
variable {prog : Program} {w : World} {A : Around} {E : Value → Shared → Prop} {R : Result → Shared → Prop} {s : Shared} {K : Frag} {mg : Str → Option Value} {C fI : Addr}
theorem low_init (T : TxtNoTurn K mg C fI) {x : Addr} (X : K.In s.heap) (hlim : s.heap.NoLimit) (hroom : A.depth < recursionLimit)
    (hq : ∀ h' tk, (∀ b o, s.heap.get? b = some o → h'.get? b = some o) → R (.ok (.ret .none)) { s with heap := h', toks := tk }) :
    codeAny (model prog w) A (.call (.ref fI) ⟨[.ref x], []⟩) R s := by
  obtain ⟨oc, od, doc, pm, an, cdv, ct, osl, p1, q1, ho, hcd⟩ := T.fn
  refine Att.call_fn (binds := [("self", .ref x)]) X hlim ho hcd hroom (BindsTo.of_eq (by first | rfl | with_unfolding_all rfl)) (by first | rfl | decide | with_unfolding_all rfl) (fun s₁ IC => ?_) rfl rfl rfl
  obtain ⟨h₁, tk₁, rfl⟩ := IC.toInCall.same
  have k : ∀ b o, s.heap.get? b = some o → h₁.get? b = some o := IC.toInCall.keep
  show wpAny _ _ (execs _ _) _ _ _
  refine wpAny_execs_cons (wpAny_Pass ?_)
  show wpAny _ _ (execs _ _) _ _ _
  exact wpAny_execs_nil (hq h₁ tk₁ k)
theorem low_made (T : TxtNoTurn K mg C fI) (X : K.In s.heap) (hlim : s.heap.NoLimit) (hroom : A.depth + 1 < recursionLimit)
    (hq : ∀ h' tk e t1, (∀ b o, s.heap.get? b = some o → h'.get? b = some o) → s.heap.objs.size ≤ e → h'.get? e = some (excO C t1) → R (.ok (.ret (.ref e))) { s with heap := h', toks := tk }) :
    codeAny (model prog w) A (.call (.ref C) ⟨[], []⟩) R s := by
  obtain ⟨nm, q, N, bs, bm, sn, sub, ab, col, dd, k0, k1, k2, k3, k5, hC, hbm⟩ := T.cls
  obtain ⟨hp, g, dr, tk, os⟩ := s
  have k : ∀ b o, hp.get? b = some o → ((hp.push (kdv_tup [])).push (excO C hp.objs.size)).get? b = some o := fun b o e => Heap.get?_push_of_some _ (Heap.get?_push_of_some _ e)
  have hget : ((hp.push (kdv_tup [])).push (excO C hp.objs.size)).get? (hp.objs.size + 1) = some (excO C hp.objs.size) := by heap_get
  refine call_own F.excBase_ValueError (fun X => refsVE_contains X bm hbm) (X _ _ hC) (looks_findIn X T.iC) (fun self => bind_fn X self T.tC) (Nat.zero_le _) ?_
  refine low_init (s := ⟨(hp.push (kdv_tup [])).push (excO C hp.objs.size), g, dr, tk, os⟩) T (X.keeps k) (hlim.keeps k) ?_ fun h' tk' k' => ?_
  · show A.depth + 1 < recursionLimit
    exact hroom
  · exact ⟨rfl, hq h' tk' (hp.objs.size + 1) hp.objs.size (fun b o e => k' b o (k b o e)) (Nat.le_succ _) (k' _ _ hget)⟩
end
end XNoTurn
end PySem
namespace L2
open PySem PySem.Spec PyProof.Rows
section
variable {X : Cx} {C fI : Addr}
theorem pmk__NoTurn {p pos : Pos} {k : Nat} (T : PySem.XNoTurn.TxtNoTurn X.K X.mg C fI) (hr : Room k X.A) (hg : Gl X "NoTurn" := by rfl) :
    PMk X (.Call (.Name "NoTurn" p) [] [] pos) (fun _ H Q => Q (.ref C) none H) := by
  intro pins s σ H Q I h
  refine wpAny_Call_Name_kw (ld_glob I hg T.gC ?_)
  refine PySem.W.callWith_K0 I.kIn T.kC ?_
  have hlim := I.nolimit
  have kin := I.kIn
  obtain ⟨hp, g, dr, tk, os⟩ := s
  show wpAny _ _ (call (.ref C) []) _ _ _
  refine wpAny_call (PySem.XNoTurn.low_made T kin hlim (by have := hr.dp; omega) fun h' tk' e t1 kp hnew he => ?_)
  show MkP X pins σ Q (.ref e) ⟨h', g, dr, tk', os⟩
  obtain ⟨G', g1, g2⟩ := restrict h' fun b => decide (b ≠ e)
  have gk : ∀ b, b ≠ e → G'.get? b = h'.get? b := fun b hb => g1 b (decide_eq_true hb)
  have ge : G'.get? e = none := g2 e (by simp)
  have old : ∀ b o, hp.get? b = some o → G'.get? b = some o := fun b o q => (gk b (Nat.ne_of_lt (Nat.lt_of_lt_of_le (Heap.lt_size q) hnew))).trans (kp b o q)
  have J : Inv X pins σ H ⟨G', g, dr, tk', os⟩ := I.kept (t' := tk') old
  refine ⟨e, _, _, ⟨G', g, dr, tk', os⟩, H, .ref C, none, rfl, J, fun b o q => ?_, ge, he, ⟨rfl, rfl⟩, rfl, rfl, I.hok.fresh hnew, rfl, I.bare, raises_own T.exC T.tyC, h⟩
  by_cases hb : b = e
  · have q' : G'.get? b = some o := q
    rw [hb, ge] at q'; cases q'
  · exact (gk b hb).symm.trans q
def tRaise_NoTurn (C : Addr) (W : WX) : TS := fun _ σ H => W (.ref C) none σ H
theorem ps_raise_NoTurn {W : WX} {p pos pos2 : Pos} {k : Nat} (hc : X.calm = true) (T : PySem.XNoTurn.TxtNoTurn X.K X.mg C fI) (hr : Room k X.A) (tk : Takes X W) (hg : Gl X "NoTurn" := by rfl) :
    PS X (.Raise (some (.Call (.Name "NoTurn" p) [] [] pos)) none pos2) (tRaise_NoTurn C W) := ps_raise hc tk (pmk__NoTurn T hr hg)
end
end L2
namespace W3
open PySem PySem.Spec PyProof.Rows L2 M3
variable [TabsP]
theorem sc_L_word : FnScope ["call", "word", "error", "flags"] ["call"] (defScope s_L_word) := ⟨rfl, rfl, rfl, by decide +kernel, rfl, by decide +kernel, by decide +kernel⟩
theorem sc_is_integer : FnScope ["thing"] ["thing"] (defScope s_is_integer) := ⟨rfl, rfl, rfl, by decide +kernel, rfl, by decide +kernel, by decide +kernel⟩
theorem sc_come_to_roots : FnScope ["parents", "sure", "parent", "house", "line", "at", "passed"] ["parents"] (defScope s_come_to_roots) := ⟨rfl, rfl, rfl, by decide +kernel, rfl, by decide +kernel, by decide +kernel⟩
theorem sc_Stand_init : FnScope ["self", "part"] ["self", "part"] (defScope s_Stand_init) := ⟨rfl, rfl, rfl, by decide +kernel, rfl, by decide +kernel, by decide +kernel⟩
theorem sc_has_its_sons : FnScope ["parts", "house", "sons", "son"] ["parts", "house"] (defScope s_has_its_sons) := ⟨rfl, rfl, rfl, by decide +kernel, rfl, by decide +kernel, by decide +kernel⟩
theorem sc_shape_of : FnScope ["stands", "at"] ["stands"] (defScope s_shape_of) := ⟨rfl, rfl, rfl, by decide +kernel, rfl, by decide +kernel, by decide +kernel⟩
theorem sc_is_top : FnScope ["stands", "house", "up"] ["stands", "house"] (defScope s_is_top) := ⟨rfl, rfl, rfl, by decide +kernel, rfl, by decide +kernel, by decide +kernel⟩
theorem sc_line_up : FnScope ["stands", "house", "line"] ["stands", "house"] (defScope s_line_up) := ⟨rfl, rfl, rfl, by decide +kernel, rfl, by decide +kernel, by decide +kernel⟩
theorem sc_hand_on : FnScope ["stands", "house", "stand", "sons", "son"] ["stands", "house"] (defScope s_hand_on) := ⟨rfl, rfl, rfl, by decide +kernel, rfl, by decide +kernel, by decide +kernel⟩
theorem sc_take_place : FnScope ["stands", "house", "ahead", "stand", "above"] ["stands", "house", "ahead"] (defScope s_take_place) := ⟨rfl, rfl, rfl, by decide +kernel, rfl, by decide +kernel, by decide +kernel⟩
theorem sc_L_hand : FnScope ["script", "cell"] ["script"] (defScope s_L_hand) := ⟨rfl, rfl, rfl, by decide +kernel, rfl, by decide +kernel, by decide +kernel⟩
theorem sc_L_draw : FnScope ["hand", "many", "cell", "digit", "number"] ["hand", "many"] (defScope s_L_draw) := ⟨rfl, rfl, rfl, by decide +kernel, rfl, by decide +kernel, by decide +kernel⟩
theorem sc_L_number : FnScope ["thing", "least", "most"] ["thing", "least", "most"] (defScope s_L_number) := ⟨rfl, rfl, rfl, by decide +kernel, rfl, by decide +kernel, by decide +kernel⟩
theorem sc_L_is_integer : FnScope ["thing"] ["thing"] (defScope s_L_is_integer) := ⟨rfl, rfl, rfl, by decide +kernel, rfl, by decide +kernel, by decide +kernel⟩
theorem sc_L_house : FnScope ["up", "value"] ["up", "value"] (defScope s_L_house) := ⟨rfl, rfl, rfl, by decide +kernel, rfl, by decide +kernel, by decide +kernel⟩
theorem sc_L_is_son : FnScope ["shape", "house", "up"] ["shape", "house"] (defScope s_L_is_son) := ⟨rfl, rfl, rfl, by decide +kernel, rfl, by decide +kernel, by decide +kernel⟩
theorem sc_is_between : FnScope ["least", "most", "thing"] ["least", "most", "thing"] (defScope s_is_between) := ⟨rfl, rfl, rfl, by decide +kernel, rfl, by decide +kernel, by decide +kernel⟩
theorem sc_are_worths : FnScope ["thing", "houses", "worth"] ["thing", "houses"] (defScope s_are_worths) := ⟨rfl, rfl, rfl, by decide +kernel, rfl, by decide +kernel, by decide +kernel⟩
theorem sc_rank : FnScope ["number"] ["number"] (defScope s_rank) := ⟨rfl, rfl, rfl, by decide +kernel, rfl, by decide +kernel, by decide +kernel⟩
theorem sc_told_worth : FnScope ["stands", "house", "worth"] ["stands", "house"] (defScope s_told_worth) := ⟨rfl, rfl, rfl, by decide +kernel, rfl, by decide +kernel, by decide +kernel⟩
theorem sc_weights_of : FnScope ["stands", "found", "house", "at"] ["stands"] (defScope s_weights_of) := ⟨rfl, rfl, rfl, by decide +kernel, rfl, by decide +kernel, by decide +kernel⟩
theorem sc_turn_up : FnScope ["stands", "house", "lower", "ahead", "upper", "between", "inner"] ["stands", "house"] (defScope s_turn_up) := ⟨rfl, rfl, rfl, by decide +kernel, rfl, by decide +kernel, by decide +kernel⟩
theorem sc_L_deep : FnScope ["hand", "found", "turn"] ["hand"] (defScope s_L_deep) := ⟨rfl, rfl, rfl, by decide +kernel, rfl, by decide +kernel, by decide +kernel⟩
theorem sc_L_value : FnScope ["hand", "kind"] ["hand"] (defScope s_L_value) := ⟨rfl, rfl, rfl, by decide +kernel, rfl, by decide +kernel, by decide +kernel⟩
theorem sc_L_shuffled : FnScope ["hand", "many", "found", "at", "other"] ["hand", "many"] (defScope s_L_shuffled) := ⟨rfl, rfl, rfl, by decide +kernel, rfl, by decide +kernel, by decide +kernel⟩
theorem sc_L_is_shape : FnScope ["thing", "many", "row", "part", "house", "left", "right", "son", "here", "turn"] ["thing"] (defScope s_L_is_shape) := ⟨rfl, rfl, rfl, by decide +kernel, rfl, by decide +kernel, by decide +kernel⟩
theorem sc_is_house : FnScope ["many", "thing"] ["many", "thing"] (defScope s_is_house) := ⟨rfl, rfl, rfl, by decide +kernel, rfl, by decide +kernel, by decide +kernel⟩
theorem sc_is_many : FnScope ["thing"] ["thing"] (defScope s_is_many) := ⟨rfl, rfl, rfl, by decide +kernel, rfl, by decide +kernel, by decide +kernel⟩
theorem sc_told_worths : FnScope ["stands", "house"] ["stands"] (defScope s_told_worths) := ⟨rfl, rfl, rfl, by decide +kernel, rfl, by decide +kernel, by decide +kernel⟩
theorem sc_potential_of : FnScope ["stands", "weight"] ["stands"] (defScope s_potential_of) := ⟨rfl, rfl, rfl, by decide +kernel, rfl, by decide +kernel, by decide +kernel⟩
theorem sc_L_shape : FnScope ["hand", "many", "order", "found", "house", "kind", "at", "mine", "other", "theirs", "side", "row"] ["hand", "many"] (defScope s_L_shape) := ⟨rfl, rfl, rfl, by decide +kernel, rfl, by decide +kernel, by decide +kernel⟩
theorem sc_are_parents : FnScope ["thing", "parent"] ["thing"] (defScope s_are_parents) := ⟨rfl, rfl, rfl, by decide +kernel, rfl, by decide +kernel, by decide +kernel⟩
theorem sc_is_part : FnScope ["many", "thing", "near"] ["many", "thing"] (defScope s_is_part) := ⟨rfl, rfl, rfl, by decide +kernel, rfl, by decide +kernel, by decide +kernel⟩
theorem sc_need_house : FnScope ["stands", "thing"] ["stands", "thing"] (defScope s_need_house) := ⟨rfl, rfl, rfl, by decide +kernel, rfl, by decide +kernel, by decide +kernel⟩
theorem sc_Forest_init : FnScope ["self", "parents", "worths"] ["self", "parents", "worths"] (defScope s_Forest_init) := ⟨rfl, rfl, rfl, by decide +kernel, rfl, by decide +kernel, by decide +kernel⟩
theorem sc_is_shape : FnScope ["thing", "part", "house"] ["thing"] (defScope s_is_shape) := ⟨rfl, rfl, rfl, by decide +kernel, rfl, by decide +kernel, by decide +kernel⟩
theorem sc_stands_of : FnScope ["shape", "part"] ["shape"] (defScope s_stands_of) := ⟨rfl, rfl, rfl, by decide +kernel, rfl, by decide +kernel, by decide +kernel⟩
theorem sc_weights : FnScope ["shape"] ["shape"] (defScope s_weights) := ⟨rfl, rfl, rfl, by decide +kernel, rfl, by decide +kernel, by decide +kernel⟩
theorem sc_potential : FnScope ["shape"] ["shape"] (defScope s_potential) := ⟨rfl, rfl, rfl, by decide +kernel, rfl, by decide +kernel, by decide +kernel⟩
theorem sc_handed_on : FnScope ["shape", "house", "stands"] ["shape", "house"] (defScope s_handed_on) := ⟨rfl, rfl, rfl, by decide +kernel, rfl, by decide +kernel, by decide +kernel⟩
theorem sc_turned_up : FnScope ["shape", "house", "stands"] ["shape", "house"] (defScope s_turned_up) := ⟨rfl, rfl, rfl, by decide +kernel, rfl, by decide +kernel, by decide +kernel⟩
theorem sc_L_odd_shape : FnScope ["hand", "shape", "house", "row", "other", "bent", "near", "some"] ["hand", "shape"] (defScope s_L_odd_shape) := ⟨rfl, rfl, rfl, by decide +kernel, rfl, by decide +kernel, by decide +kernel⟩
theorem sc_part_in_order : FnScope ["stands", "house", "backwards", "stand", "lefts", "rights"] ["stands", "house", "backwards"] (defScope s_part_in_order) := ⟨rfl, rfl, rfl, by decide +kernel, rfl, by decide +kernel, by decide +kernel⟩
theorem sc_row_in_order : FnScope ["stands", "top"] ["stands", "top"] (defScope s_row_in_order) := ⟨rfl, rfl, rfl, by decide +kernel, rfl, by decide +kernel, by decide +kernel⟩
theorem sc_rows : FnScope ["shape", "stands", "house"] ["shape"] (defScope s_rows) := ⟨rfl, rfl, rfl, by decide +kernel, rfl, by decide +kernel, by decide +kernel⟩
theorem sc_forest_of : FnScope ["stands", "parents", "top", "ahead", "house"] ["stands"] (defScope s_forest_of) := ⟨rfl, rfl, rfl, by decide +kernel, rfl, by decide +kernel, by decide +kernel⟩
theorem sc_told_forest : FnScope ["shape"] ["shape"] (defScope s_told_forest) := ⟨rfl, rfl, rfl, by decide +kernel, rfl, by decide +kernel, by decide +kernel⟩
theorem sc_law : FnScope ["script", "hand", "shape", "turn", "thing", "is_right", "due", "call", "many", "house", "odd", "number"] ["script"] (defScope s_law) := ⟨rfl, rfl, rfl, by decide +kernel, rfl, by decide +kernel, by decide +kernel⟩
structure Txt (mg : Str → Option Value) : Prop where
  n_ValueError : mg "ValueError" = none
  n_range : mg "range" = none
  n_all : mg "all" = none
  n_tuple : mg "tuple" = none
  n_sum : mg "sum" = none
  n_list : mg "list" = none
  n_len : mg "len" = none
  n_isinstance : mg "isinstance" = none
  n_int : mg "int" = none
  n_bool : mg "bool" = none
  n_min : mg "min" = none
  c_MOST_HOUSES : ∃ t, mg "MOST_HOUSES" = some (.int 64 t)
structure Fx (g : G) (w : World) (mg : Str → Option Value) (f_eBadForest f_eNoHouse f_eNoNumber f_eNoShape f_eNoTurn f_iForest f_iStand : Addr) : Prop where
  CSO : OwnCs g.K g.CS
  FO : FlOk g.K g.FL
  Forest : mg "Forest" = some (.ref g.Forest)
  mk_Forest : Mk g.K g.Forest f_iForest
  Stand : mg "Stand" = some (.ref g.Stand)
  mk_Stand : Mk g.K g.Stand f_iStand
  ForestError : mg "ForestError" = some (.ref g.ForestError)
  BadForest : PySem.XBadForest.TxtBadForest g.K mg g.BadForest f_eBadForest
  NoHouse : PySem.XNoHouse.TxtNoHouse g.K mg g.NoHouse f_eNoHouse
  NoNumber : PySem.XNoNumber.TxtNoNumber g.K mg g.NoNumber f_eNoNumber
  NoShape : PySem.XNoShape.TxtNoShape g.K mg g.NoShape f_eNoShape
  NoTurn : PySem.XNoTurn.TxtNoTurn g.K mg g.NoTurn f_eNoTurn
  xc_NoShape : ExcC g.K g.NoShape
  xc_NoHouse : ExcC g.K g.NoHouse
  xc_NoTurn : ExcC g.K g.NoTurn
  xc_NoNumber : ExcC g.K g.NoNumber
  v_potential : mg "potential" = some (.ref (g.V "potential"))
  v_rows : mg "rows" = some (.ref (g.V "rows"))
  v_told_forest : mg "told_forest" = some (.ref (g.V "told_forest"))
  v_weights : mg "weights" = some (.ref (g.V "weights"))
theorem cr_Forest_ok (g : G) : ∀ vs H Q E, spM g.K 2 (mPure (mkC g.Forest (m_Forest_init g))) vs H Q E → spNew g.Forest (spM g.K 3 (m_Forest_init g)) vs H Q E := fun vs H Q E h => new_ok vs H Q E (pure_ok vs H Q E h)
theorem cr_Stand_ok (g : G) : ∀ vs H Q E, spM g.K 1 (mkC g.Stand (m_Stand_init g)) vs H Q E → spNew g.Stand (spM g.K 2 (m_Stand_init g)) vs H Q E := fun vs H Q E h => new_ok vs H Q E h
end W3
namespace W3
open PySem PySem.Spec PyProof.Rows L2 M3
section
variable [TabsP]
variable {P : Program} {w : World} {g : G} {mg : Str → Option Value} {base : Heap} {f_eBadForest f_eNoHouse f_eNoNumber f_eNoShape f_eNoTurn f_iForest f_iStand : Addr}
theorem ok_is_integer (D : M3.Def g.K mg "is_integer" s_is_integer ["thing"]) (T : Txt mg) (Z : Fx g w mg f_eBadForest f_eNoHouse f_eNoNumber f_eNoShape f_eNoTurn f_iForest f_iStand) : M3.Cal P w g.K mg base 1 "is_integer" ["thing"] (spM g.K 1 (mPure (m_is_integer g))) := by
  refine M3.Cal.imp (D.cal (sp := (spM g.K 1 (m_is_integer g))) sc_is_integer (spM_len rfl) (fun f cdv A outer s H vs Q E hr h => ?_)) pure_ok
  exact body_all (N := ["thing"]) (E := E) ((pss_one (ps_ret (pe_and (pe_callB (call_isiM (K := g.K) rfl) (by rfl) T.n_isinstance (by decide +kernel) (pa_cons (pv 0) (pa_cons (pe_bltn (v := .ty "int") (by rfl) T.n_int (by decide +kernel) rfl) pa_nil))) (pe_one (pe_not (pe_callB (call_isiM (K := g.K) rfl) (by rfl) T.n_isinstance (by decide +kernel) (pa_cons (pv 0) (pa_cons (pe_bltn (v := .ty "bool") (by rfl) T.n_bool (by decide +kernel) rfl) pa_nil)))))))))
    ((ss_ret (se_and (se_call (isi_ok Z.CSO) (sa_cons se_var (sa_cons se_con sa_nil))) (se_not (se_call (isi_ok Z.CSO) (sa_cons se_var (sa_cons se_con sa_nil))))))) h
end
end W3
namespace W3
open PySem PySem.Spec PyProof.Rows L2 M3
section
variable [TabsP]
variable {P : Program} {w : World} {g : G} {mg : Str → Option Value} {base : Heap} {f_eBadForest f_eNoHouse f_eNoNumber f_eNoShape f_eNoTurn f_iForest f_iStand : Addr}
theorem ok_come_to_roots (D : M3.Def g.K mg "come_to_roots" s_come_to_roots ["parents"]) (T : Txt mg) (Z : Fx g w mg f_eBadForest f_eNoHouse f_eNoNumber f_eNoShape f_eNoTurn f_iForest f_iStand) : M3.Cal P w g.K mg base 1 "come_to_roots" ["parents"] (spM g.K 1 (mPure (m_come_to_roots g))) := by
  refine M3.Cal.imp (D.cal (sp := (spM g.K 1 (m_come_to_roots g))) sc_come_to_roots (spM_len rfl) (fun f cdv A outer s H vs Q E hr h => ?_)) pure_ok
  exact body_all (N := ["parents", "sure", "parent", "house", "line", "at", "passed"]) (E := E) ((pss_cons (ps_setLc (i := 1) (own := [("parent", 2)]) (g := (gName 2)) (tt := tYes) (by rfl) sc_come_to_roots.nd rfl rfl (sw_true rfl rfl rfl (by decide +kernel)) (pi_M (K := g.K) rfl (pv 0)) (blkOk_by (own := [("parent", 2)]) (N := ["parents", "sure", "parent", "house", "line", "at", "passed"]) (sc := defScope s_come_to_roots) (by decide +kernel)) (fun _ _ _ _ _ => (pg_name (i := 2) sc_come_to_roots.nd rfl (Or.inl rfl))) (fun _ _ _ _ _ => pts_nil) (fun _ _ _ _ _ => (pe_cmpR op_isN (pv 2) pe_non (nomark _))))
      (pss_cons (ps_for (passes_of rfl) rfl (pi_range1 rfl T.n_range (pa_cons (pe_callB (call_lenM (K := g.K) rfl) (by rfl) T.n_len PySem.boot_len (pa_cons (pv 0) pa_nil)) pa_nil)) (pg_name (i := 3) sc_come_to_roots.nd rfl (Or.inl rfl)) (pss_cons (ps_set (i := 4) sc_come_to_roots.nd rfl (Or.inl rfl) (pe_lst pa_nil))
      (pss_cons (ps_set (i := 5) sc_come_to_roots.nd rfl (Or.inl rfl) (pv 3))
      (pss_cons (ps_while (passes_of rfl) (pt_not (pt_val (pe_ix (ix_M (K := g.K) rfl) (pv 1) (pv 5) (fun _ _ => rfl)))) (pss_cons (ps_if (pt_cmpR (op_eqM (K := g.K) rfl hr.units) (pe_callB (call_lenM (K := g.K) rfl) (by rfl) T.n_len PySem.boot_len (pa_cons (pv 4) pa_nil)) (pe_callB (call_lenM (K := g.K) rfl) (by rfl) T.n_len PySem.boot_len (pa_cons (pv 0) pa_nil)) (nomark _)) (pss_one (ps_ret pe_bl)) pss_nil)
      (pss_cons (ps_expr (pe_bmK (K := g.K) rfl PySem.F.plainAttrs_list PySem.F.slot_list_append PySem.F.type_list_append mt_append (pv 4) (pa_cons (pv 5) pa_nil)))
      (pss_one (ps_set (i := 5) sc_come_to_roots.nd rfl (Or.inl rfl) (pe_ix (ix_M (K := g.K) rfl) (pv 0) (pv 5) (fun _ _ => rfl)))))))
      (pss_one (ps_for (passes_of rfl) rfl (pi_M (K := g.K) rfl (pv 4)) (pg_name (i := 6) sc_come_to_roots.nd rfl (Or.inl rfl)) (pss_one (ps_asg pe_bl (pg_sub (pv 1) (pv 6) set_list)))))))))
      (pss_one (ps_ret pe_bl)))))
    ((ss_seq (ss_asgG (se_trk (sl_lc (si_walk se_var) (sgv_name (by decide)) st_yes (se_op isN_okR se_var se_non))) sg_name)
      (ss_seq (ss_for (si_rng1 (sa_cons (se_call len_ok (sa_cons se_var sa_nil)) sa_nil)) sg_name (ss_seq (ss_asgG (se_trk (sl_lst sa_nil)) sg_name)
      (ss_seq (ss_asgG se_var sg_name)
      (ss_seq (ss_while (st_not (st_tst (se_op ix_ok se_var se_var))) (ss_seq (ss_ifS (st_test (se_op eq_ok (se_call len_ok (sa_cons se_var sa_nil)) (se_call len_ok (sa_cons se_var sa_nil)))) (ss_ret se_bl) ss_next)
      (ss_seq (ss_drop (se_bm append_ok se_var (sa_cons se_var sa_nil)))
      (ss_asgG (se_op ix_ok se_var se_var) sg_name))))
      (ss_for (si_walk se_var) sg_name (ss_asgG se_bl (sg_sub se_var se_var)))))))
      (ss_ret se_bl)))) h
end
end W3
namespace W3
open PySem PySem.Spec PyProof.Rows L2 M3
section
variable [TabsP]
variable {P : Program} {w : World} {g : G} {mg : Str → Option Value} {base : Heap} {f_eBadForest f_eNoHouse f_eNoNumber f_eNoShape f_eNoTurn f_iForest f_iStand : Addr}
theorem ok_has_its_sons (D : M3.Def g.K mg "_has_its_sons" s_has_its_sons ["parts", "house"]) (T : Txt mg) (Z : Fx g w mg f_eBadForest f_eNoHouse f_eNoNumber f_eNoShape f_eNoTurn f_iForest f_iStand) : M3.Cal P w g.K mg base 1 "_has_its_sons" ["parts", "house"] (spM g.K 2 (mPure (m_has_its_sons g))) := by
  refine M3.Cal.imp (D.cal (sp := (spM g.K 2 (m_has_its_sons g))) sc_has_its_sons (spM_len rfl) (fun f cdv A outer s H vs Q E hr h => ?_)) pure_ok
  exact body_all (N := ["parts", "house", "sons", "son"]) (E := E) ((pss_cons (ps_setLc (i := 2) (own := [("son", 3)]) (g := (gName 3)) (by rfl) sc_has_its_sons.nd rfl rfl (sw_true rfl rfl rfl (by decide +kernel)) (pi_M (K := g.K) rfl (pe_slice (sl_M (K := g.K) rfl) (pe_ix (ix_M (K := g.K) rfl) (pv 0) (pv 1) (fun _ _ => rfl)) (po_some pe_int) (po_some pe_int))) (blkOk_by (own := [("son", 3)]) (N := ["parts", "house", "sons", "son"]) (sc := defScope s_has_its_sons) (by decide +kernel)) (fun _ _ _ _ _ => (pg_name (i := 3) sc_has_its_sons.nd rfl (Or.inl rfl))) (fun _ _ _ _ _ => pts_one (pt_cmpR op_notN (pv 3) pe_non (nomark _))) (fun _ _ _ _ _ => (pv 3)))
      (pss_cons (ps_if (PW.pt (pw_and (pt_cmpR (op_eqM (K := g.K) rfl hr.units) (pe_callB (call_lenM (K := g.K) rfl) (by rfl) T.n_len PySem.boot_len (pa_cons (pv 2) pa_nil)) pe_int (nomark _)) (pw_and1 (pt_cmpR (op_eqM (K := g.K) rfl hr.units) (pe_ix (ix_M (K := g.K) rfl) (pv 2) pe_int (fun _ _ => rfl)) (pe_ix (ix_M (K := g.K) rfl) (pv 2) pe_int (fun _ _ => rfl)) (nomark _))))) (pss_one (ps_ret pe_bl)) pss_nil)
      (pss_one (ps_ret (pe_callB (call_allM (K := g.K) rfl rfl) (by rfl) T.n_all (by decide +kernel) (pa_cons ((pe_lc (own := [("son", 3)]) (g := (gName 3)) (tt := tYes) (by rfl) sc_has_its_sons.nd (pi_M (K := g.K) rfl (pv 2)) (blkOk_by (own := [("son", 3)]) (N := ["parts", "house", "sons", "son"]) (sc := defScope s_has_its_sons) (by decide +kernel)) (fun _ _ _ _ _ => (pg_name (i := 3) sc_has_its_sons.nd rfl (Or.inl rfl))) (fun _ _ _ _ _ => pts_nil) (fun _ _ _ _ _ => (pe_cmpR (op_eqM (K := g.K) rfl hr.units) (pe_ix (ix_M (K := g.K) rfl) (pe_ix (ix_M (K := g.K) rfl) (pv 0) (pv 3) (fun _ _ => rfl)) pe_int (fun _ _ => rfl)) (pv 1) (nomark _))))) pa_nil)))))))
    ((ss_seq (ss_asgG (se_frz (sl_lc (si_walk (se_sl (se_op ix_ok se_var se_var) (so_some se_int) (so_some se_int))) (sgv_name (by decide)) (st_test (se_op notN_okR se_var se_non)) se_var)) sg_name)
      (ss_seq (ss_ifS (st_and (st_test (se_op eq_ok (se_call len_ok (sa_cons se_var sa_nil)) se_int)) (st_test (se_op eq_ok (se_op ix_ok se_var se_int) (se_op ix_ok se_var se_int)))) (ss_ret se_bl) ss_next)
      (ss_ret (se_call all_ok (sa_cons (se_frz (sl_lc (si_walk se_var) (sgv_name (by decide)) st_yes (se_op eq_ok (se_op ix_ok (se_op ix_ok se_var se_var) se_int) se_var))) sa_nil)))))) h
end
end W3
namespace W3
open PySem PySem.Spec PyProof.Rows L2 M3
section
variable [TabsP]
variable {P : Program} {w : World} {g : G} {mg : Str → Option Value} {base : Heap} {f_eBadForest f_eNoHouse f_eNoNumber f_eNoShape f_eNoTurn f_iForest f_iStand : Addr}
theorem ok_shape_of (D : M3.Def g.K mg "shape_of" s_shape_of ["stands"]) (T : Txt mg) (Z : Fx g w mg f_eBadForest f_eNoHouse f_eNoNumber f_eNoShape f_eNoTurn f_iForest f_iStand) : M3.Cal P w g.K mg base 1 "shape_of" ["stands"] (spM g.K 1 (mScope (m_shape_of g))) := by
  refine M3.Cal.imp (D.cal (sp := (spM g.K 1 (m_shape_of g))) sc_shape_of (spM_len rfl) (fun f cdv A outer s H vs Q E hr h => ?_)) scope_ok
  exact body_all (N := ["stands", "at"]) (E := E) ((pss_one (ps_ret (pe_callTy (call_tupM (K := g.K) rfl) (by rfl) T.n_tuple (by decide +kernel) (pa_cons ((pe_lc (own := [("at", 1)]) (g := (gName 1)) (tt := tYes) (by rfl) sc_shape_of.nd (pi_M (K := g.K) rfl (pv 0)) (blkOk_by (own := [("at", 1)]) (N := ["stands", "at"]) (sc := defScope s_shape_of) (by decide +kernel)) (fun _ _ _ _ _ => (pg_name (i := 1) sc_shape_of.nd rfl (Or.inl rfl))) (fun _ _ _ _ _ => pts_nil) (fun _ _ _ _ _ => (pe_tup (pa_cons (pe_fldK (K := g.K) rfl (pv 1) rfl) (pa_cons (pe_fldK (K := g.K) rfl (pv 1) rfl) (pa_cons (pe_fldK (K := g.K) rfl (pv 1) rfl) (pa_cons (pe_fldK (K := g.K) rfl (pv 1) rfl) (pa_cons (pe_fldK (K := g.K) rfl (pv 1) rfl) (pa_cons (pe_fldK (K := g.K) rfl (pv 1) rfl) pa_nil)))))))))) pa_nil)))))
    ((ss_ret (se_call tuple_ok (sa_cons (se_frz (sl_lc (si_walk se_var) (sgv_name (by decide)) st_yes (se_tup (sa_cons (se_fld Z.FO se_var) (sa_cons (se_fld Z.FO se_var) (sa_cons (se_fld Z.FO se_var) (sa_cons (se_fld Z.FO se_var) (sa_cons (se_fld Z.FO se_var) (sa_cons (se_fld Z.FO se_var) sa_nil))))))))) sa_nil)))) h
end
end W3
namespace W3
open PySem PySem.Spec PyProof.Rows L2 M3
section
variable [TabsP]
variable {P : Program} {w : World} {g : G} {mg : Str → Option Value} {base : Heap} {f_eBadForest f_eNoHouse f_eNoNumber f_eNoShape f_eNoTurn f_iForest f_iStand : Addr}
theorem ok_is_top (D : M3.Def g.K mg "is_top" s_is_top ["stands", "house"]) (T : Txt mg) (Z : Fx g w mg f_eBadForest f_eNoHouse f_eNoNumber f_eNoShape f_eNoTurn f_iForest f_iStand) : M3.Cal P w g.K mg base 1 "is_top" ["stands", "house"] (spM g.K 2 (mScope (m_is_top g))) := by
  refine M3.Cal.imp (D.cal (sp := (spM g.K 2 (m_is_top g))) sc_is_top (spM_len rfl) (fun f cdv A outer s H vs Q E hr h => ?_)) scope_ok
  exact body_all (N := ["stands", "house", "up"]) (E := E) ((pss_cons (ps_set (i := 2) sc_is_top.nd rfl (Or.inl rfl) (pe_fldK (K := g.K) rfl (pe_ix (ix_M (K := g.K) rfl) (pv 0) (pv 1) (fun _ _ => rfl)) rfl))
      (pss_one (ps_ret (pe_or (pe_cmpR op_isN (pv 2) pe_non (nomark _)) (pe_one (pe_cmpR (op_notInM (K := g.K) rfl) (pv 1) (pe_tup (pa_cons (pe_fldK (K := g.K) rfl (pe_ix (ix_M (K := g.K) rfl) (pv 0) (pv 2) (fun _ _ => rfl)) rfl) (pa_cons (pe_fldK (K := g.K) rfl (pe_ix (ix_M (K := g.K) rfl) (pv 0) (pv 2) (fun _ _ => rfl)) rfl) pa_nil))) (by rfl))))))))
    ((ss_seq (ss_asgG (se_fld Z.FO (se_op ix_ok se_var se_var)) sg_name)
      (ss_ret (se_or (se_op isN_okR se_var se_non) (se_op notIn_ok se_var (se_tup (sa_cons (se_fld Z.FO (se_op ix_ok se_var se_var)) (sa_cons (se_fld Z.FO (se_op ix_ok se_var se_var)) sa_nil)))))))) h
end
end W3
namespace W3
open PySem PySem.Spec PyProof.Rows L2 M3
section
variable [TabsP]
variable {P : Program} {w : World} {g : G} {mg : Str → Option Value} {base : Heap} {f_eBadForest f_eNoHouse f_eNoNumber f_eNoShape f_eNoTurn f_iForest f_iStand : Addr}
theorem ok_line_up (D : M3.Def g.K mg "line_up" s_line_up ["stands", "house"]) (T : Txt mg) (Z : Fx g w mg f_eBadForest f_eNoHouse f_eNoNumber f_eNoShape f_eNoTurn f_iForest f_iStand) : M3.Cal P w g.K mg base 1 "line_up" ["stands", "house"] (spM g.K 2 (mScope (m_line_up g))) := by
  refine M3.Cal.imp (D.cal (sp := (spM g.K 2 (m_line_up g))) sc_line_up (spM_len rfl) (fun f cdv A outer s H vs Q E hr h => ?_)) scope_ok
  exact body_all (N := ["stands", "house", "line"]) (E := E) ((pss_cons (ps_set (i := 2) sc_line_up.nd rfl (Or.inl rfl) (pe_lst (pa_cons (pv 1) pa_nil)))
      (pss_cons (ps_while (passes_of rfl) (pt_cmpR op_notN (pe_fldK (K := g.K) rfl (pe_ix (ix_M (K := g.K) rfl) (pv 0) (pe_ix (ix_M (K := g.K) rfl) (pv 2) (pe_un un_neg pe_int) (fun _ _ => rfl)) (fun _ _ => rfl)) rfl) pe_non (nomark _)) (pss_one (ps_expr (pe_bmK (K := g.K) rfl PySem.F.plainAttrs_list PySem.F.slot_list_append PySem.F.type_list_append mt_append (pv 2) (pa_cons (pe_fldK (K := g.K) rfl (pe_ix (ix_M (K := g.K) rfl) (pv 0) (pe_ix (ix_M (K := g.K) rfl) (pv 2) (pe_un un_neg pe_int) (fun _ _ => rfl)) (fun _ _ => rfl)) rfl) pa_nil)))))
      (pss_one (ps_ret (pv 2))))))
    ((ss_seq (ss_asgG (se_trk (sl_lst (sa_cons se_var sa_nil))) sg_name)
      (ss_seq (ss_while (st_test (se_op notN_okR (se_fld Z.FO (se_op ix_ok se_var (se_op ix_ok se_var (se_un neg_ok se_int)))) se_non)) (ss_drop (se_bm append_ok se_var (sa_cons (se_fld Z.FO (se_op ix_ok se_var (se_op ix_ok se_var (se_un neg_ok se_int)))) sa_nil))))
      (ss_ret se_var)))) h
end
end W3
namespace W3
open PySem PySem.Spec PyProof.Rows L2 M3
section
variable [TabsP]
variable {P : Program} {w : World} {g : G} {mg : Str → Option Value} {base : Heap} {f_eBadForest f_eNoHouse f_eNoNumber f_eNoShape f_eNoTurn f_iForest f_iStand : Addr}
theorem ok_hand_on (D : M3.Def g.K mg "hand_on" s_hand_on ["stands", "house"]) (T : Txt mg) (Z : Fx g w mg f_eBadForest f_eNoHouse f_eNoNumber f_eNoShape f_eNoTurn f_iForest f_iStand) : M3.Cal P w g.K mg base 1 "hand_on" ["stands", "house"] (spM g.K 2 (mScope (m_hand_on g))) := by
  refine M3.Cal.imp (D.cal (sp := (spM g.K 2 (m_hand_on g))) sc_hand_on (spM_len rfl) (fun f cdv A outer s H vs Q E hr h => ?_)) scope_ok
  exact body_all (N := ["stands", "house", "stand", "sons", "son"]) (E := E) ((pss_cons (ps_set (i := 2) sc_hand_on.nd rfl (Or.inl rfl) (pe_ix (ix_M (K := g.K) rfl) (pv 0) (pv 1) (fun _ _ => rfl)))
      (pss_cons (ps_setLc (i := 3) (own := [("son", 4)]) (g := (gName 4)) (by rfl) sc_hand_on.nd rfl rfl (sw_true rfl rfl rfl (by decide +kernel)) (pi_M (K := g.K) rfl (pe_tup (pa_cons (pe_fldK (K := g.K) rfl (pv 2) rfl) (pa_cons (pe_fldK (K := g.K) rfl (pv 2) rfl) pa_nil)))) (blkOk_by (own := [("son", 4)]) (N := ["stands", "house", "stand", "sons", "son"]) (sc := defScope s_hand_on) (by decide +kernel)) (fun _ _ _ _ _ => (pg_name (i := 4) sc_hand_on.nd rfl (Or.inl rfl))) (fun _ _ _ _ _ => pts_one (pt_cmpR op_notN (pv 4) pe_non (nomark _))) (fun _ _ _ _ _ => (pe_ix (ix_M (K := g.K) rfl) (pv 0) (pv 4) (fun _ _ => rfl))))
      (pss_cons (ps_if (pt_val (pe_fldK (K := g.K) rfl (pv 2) rfl)) (pss_cons (ps_asg (pe_tup (pa_cons (pe_fldK (K := g.K) rfl (pv 2) rfl) (pa_cons (pe_fldK (K := g.K) rfl (pv 2) rfl) pa_nil))) (pg_tup rfl (pgs_cons (pg_fldK (K := g.K) rfl (pv 2)) (pgs_cons (pg_fldK (K := g.K) rfl (pv 2)) pgs_nil))))
      (pss_cons (ps_fld (pv 2) pe_bl rfl)
      (pss_one (ps_for (passes_of rfl) rfl (pi_M (K := g.K) rfl (pv 3)) (pg_name (i := 4) sc_hand_on.nd rfl (Or.inl rfl)) (pss_one (ps_fld (pv 4) (pe_not (pe_fldK (K := g.K) rfl (pv 4) rfl)) rfl)))))) pss_nil)
      (pss_cons (ps_for (passes_of rfl) rfl (pi_M (K := g.K) rfl (pv 3)) (pg_name (i := 4) sc_hand_on.nd rfl (Or.inl rfl)) (pss_cons (ps_fldaug (pv 4) (pe_fldK (K := g.K) rfl (pv 2) rfl) in_add)
      (pss_one (ps_fldaug (pv 4) (pe_fldK (K := g.K) rfl (pv 2) rfl) in_add))))
      (pss_one (ps_fld (pv 2) pe_int rfl)))))))
    ((ss_seq (ss_asgG (se_op ix_ok se_var se_var) sg_name)
      (ss_seq (ss_asgG (se_trk (sl_lc (si_walk (se_tup (sa_cons (se_fld Z.FO se_var) (sa_cons (se_fld Z.FO se_var) sa_nil)))) (sgv_name (by decide)) (st_test (se_op notN_okR se_var se_non)) (se_op ix_ok se_var se_var))) sg_name)
      (ss_seq (ss_ifS (st_tst (se_fld Z.FO se_var)) (ss_seq (ss_asgG (se_tup (sa_cons (se_fld Z.FO se_var) (sa_cons (se_fld Z.FO se_var) sa_nil))) (sg_tup (sgs_cons (fun _ _ => rfl) (sg_fld Z.FO se_var) (sgs_cons (fun _ _ => rfl) (sg_fld Z.FO se_var) sgs_nil))))
      (ss_seq (ss_setF Z.FO se_var se_bl)
      (ss_for (si_walk se_var) sg_name (ss_setF Z.FO se_var (se_not (se_fld Z.FO se_var)))))) ss_next)
      (ss_seq (ss_for (si_walk se_var) sg_name (ss_seq (ss_augF Z.FO in_add_ok se_var (se_fld Z.FO se_var))
      (ss_augF Z.FO in_add_ok se_var (se_fld Z.FO se_var))))
      (ss_setF Z.FO se_var se_int)))))) h
end
end W3
namespace W3
open PySem PySem.Spec PyProof.Rows L2 M3
section
variable [TabsP]
variable {P : Program} {w : World} {g : G} {mg : Str → Option Value} {base : Heap} {f_eBadForest f_eNoHouse f_eNoNumber f_eNoShape f_eNoTurn f_iForest f_iStand : Addr}
theorem ok_take_place (D : M3.Def g.K mg "_take_place" s_take_place ["stands", "house", "ahead"]) (T : Txt mg) (Z : Fx g w mg f_eBadForest f_eNoHouse f_eNoNumber f_eNoShape f_eNoTurn f_iForest f_iStand) : M3.Cal P w g.K mg base 1 "_take_place" ["stands", "house", "ahead"] (spM g.K 3 (mScope (m_take_place g))) := by
  refine M3.Cal.imp (D.cal (sp := (spM g.K 3 (m_take_place g))) sc_take_place (spM_len rfl) (fun f cdv A outer s H vs Q E hr h => ?_)) scope_ok
  exact body_all (N := ["stands", "house", "ahead", "stand", "above"]) (E := E) ((pss_cons (ps_set (i := 3) sc_take_place.nd rfl (Or.inl rfl) (pe_ix (ix_M (K := g.K) rfl) (pv 0) (pv 1) (fun _ _ => rfl)))
      (pss_cons (ps_fld (pv 3) (pe_fldK (K := g.K) rfl (pe_ix (ix_M (K := g.K) rfl) (pv 0) (pv 2) (fun _ _ => rfl)) rfl) rfl)
      (pss_cons (ps_if (pt_cmpR op_isN (pe_fldK (K := g.K) rfl (pv 3) rfl) pe_non (nomark _)) (pss_one (ps_retN)) pss_nil)
      (pss_cons (ps_set (i := 4) sc_take_place.nd rfl (Or.inl rfl) (pe_ix (ix_M (K := g.K) rfl) (pv 0) (pe_fldK (K := g.K) rfl (pv 3) rfl) (fun _ _ => rfl)))
      (pss_one (ps_if (pt_cmpR (op_eqM (K := g.K) rfl hr.units) (pe_fldK (K := g.K) rfl (pv 4) rfl) (pv 2) (nomark _)) (pss_one (ps_fld (pv 4) (pv 1) rfl)) (pss_one (ps_if (pt_cmpR (op_eqM (K := g.K) rfl hr.units) (pe_fldK (K := g.K) rfl (pv 4) rfl) (pv 2) (nomark _)) (pss_one (ps_fld (pv 4) (pv 1) rfl)) pss_nil)))))))))
    ((ss_seq (ss_asgG (se_op ix_ok se_var se_var) sg_name)
      (ss_seq (ss_setF Z.FO se_var (se_fld Z.FO (se_op ix_ok se_var se_var)))
      (ss_seq (ss_ifS (st_test (se_op isN_okR (se_fld Z.FO se_var) se_non)) ss_retN ss_next)
      (ss_seq (ss_asgG (se_op ix_ok se_var (se_fld Z.FO se_var)) sg_name)
      (ss_ifS (st_test (se_op eq_ok (se_fld Z.FO se_var) se_var)) (ss_setF Z.FO se_var se_var) (ss_ifS (st_test (se_op eq_ok (se_fld Z.FO se_var) se_var)) (ss_setF Z.FO se_var se_var) ss_next))))))) h
end
end W3
namespace W3
open PySem PySem.Spec PyProof.Rows L2 M3
section
variable [TabsP]
variable {P : Program} {w : World} {g : G} {mg : Str → Option Value} {base : Heap} {f_eBadForest f_eNoHouse f_eNoNumber f_eNoShape f_eNoTurn f_iForest f_iStand : Addr}
theorem ok_L_hand (D : M3.Def g.K mg "_law_hand" s_L_hand ["script"]) (T : Txt mg) (Z : Fx g w mg f_eBadForest f_eNoHouse f_eNoNumber f_eNoShape f_eNoTurn f_iForest f_iStand) : M3.Cal P w g.K mg base 1 "_law_hand" ["script"] (spM g.K 1 (m_L_hand g)) := by
  refine M3.Cal.mono (D.cal (sp := (spM g.K 1 (m_L_hand g))) sc_L_hand (spM_len rfl) (fun f cdv A outer s H vs Q E hr h => ?_)) (Nat.le_refl _)
  exact body_all (N := ["script", "cell"]) (E := E) ((pss_one (ps_ret (pe_lst (pa_cons ((pe_lc (own := [("cell", 1)]) (g := (gName 1)) (tt := tYes) (by rfl) sc_L_hand.nd (pi_M (K := g.K) rfl (pe_slice (sl_M (K := g.K) rfl) (pv 0) po_none (po_some pe_int))) (blkOk_by (own := [("cell", 1)]) (N := ["script", "cell"]) (sc := defScope s_L_hand) (by decide +kernel)) (fun _ _ _ _ _ => (pg_name (i := 1) sc_L_hand.nd rfl (Or.inl rfl))) (fun _ _ _ _ _ => pts_nil) (fun _ _ _ _ _ => (pe_callTy call_int1 (by rfl) T.n_int (by decide +kernel) (pa_cons (pv 1) pa_nil))))) (pa_cons pe_int (pa_cons pe_int (pa_cons (pe_op (op_addM (K := g.K) rfl) pe_int (pe_callB (call_lenM (K := g.K) rfl) (by rfl) T.n_len PySem.boot_len (pa_cons (pe_slice (sl_M (K := g.K) rfl) (pv 0) po_none (po_some pe_int)) pa_nil))) (pa_cons pe_int pa_nil)))))))))
    ((ss_ret (se_trk (sl_lst (sa_cons (se_frz (sl_lc (si_walk (se_sl se_var so_none (so_some se_int))) (sgv_name (by decide)) st_yes (se_call int_ok (sa_cons se_var sa_nil)))) (sa_cons se_int (sa_cons se_int (sa_cons (se_op add_ok se_int (se_call len_ok (sa_cons (se_sl se_var so_none (so_some se_int)) sa_nil))) (sa_cons se_int sa_nil))))))))) h
end
end W3
namespace W3
open PySem PySem.Spec PyProof.Rows L2 M3
section
variable [TabsP]
variable {P : Program} {w : World} {g : G} {mg : Str → Option Value} {base : Heap} {f_eBadForest f_eNoHouse f_eNoNumber f_eNoShape f_eNoTurn f_iForest f_iStand : Addr}
theorem ok_L_draw (D : M3.Def g.K mg "_law_draw" s_L_draw ["hand", "many"]) (T : Txt mg) (Z : Fx g w mg f_eBadForest f_eNoHouse f_eNoNumber f_eNoShape f_eNoTurn f_iForest f_iStand) : M3.Cal P w g.K mg base 1 "_law_draw" ["hand", "many"] (spM g.K 2 (mScope (m_L_draw g))) := by
  refine M3.Cal.imp (D.cal (sp := (spM g.K 2 (m_L_draw g))) sc_L_draw (spM_len rfl) (fun f cdv A outer s H vs Q E hr h => ?_)) scope_ok
  exact body_all (N := ["hand", "many", "cell", "digit", "number"]) (E := E) ((pss_cons (ps_if (PW.pt (pw_and (pt_cmpR (op_eqM (K := g.K) rfl hr.units) (pe_ix (ix_M (K := g.K) rfl) (pv 0) pe_int (fun _ _ => rfl)) pe_int (nomark _)) (pw_and1 (pt_cmpR op_lt (pe_ix (ix_M (K := g.K) rfl) (pv 0) pe_int (fun _ _ => rfl)) (pe_callB (call_lenM (K := g.K) rfl) (by rfl) T.n_len PySem.boot_len (pa_cons (pe_ix (ix_M (K := g.K) rfl) (pv 0) pe_int (fun _ _ => rfl)) pa_nil)) (nomark _))))) (pss_cons (ps_set (i := 2) sc_L_draw.nd rfl (Or.inl rfl) (pe_ix (ix_M (K := g.K) rfl) (pe_ix (ix_M (K := g.K) rfl) (pv 0) pe_int (fun _ _ => rfl)) (pe_ix (ix_M (K := g.K) rfl) (pv 0) pe_int (fun _ _ => rfl)) (fun _ _ => rfl)))
      (pss_cons (ps_asg (pe_op (op_addM (K := g.K) rfl) (pe_ix (ix_M (K := g.K) rfl) (pv 0) pe_int (fun _ _ => rfl)) pe_int) (pg_sub (pv 0) pe_int set_list))
      (pss_cons (ps_asg (pe_op op_mod (pe_callTy call_int1 (by rfl) T.n_int (by decide +kernel) (pa_cons (pe_op (op_addM (K := g.K) rfl) (pe_op (op_addM (K := g.K) rfl) (pe_op (op_mulM (K := g.K) rfl) (pe_ix (ix_M (K := g.K) rfl) (pv 0) pe_int (fun _ _ => rfl)) pe_int) (pe_op (op_mulM (K := g.K) rfl) (pv 2) pe_int)) pe_int) pa_nil)) pe_int) (pg_sub (pv 0) pe_int set_list))
      (pss_one (ps_if (pt_cmpR op_ge (pv 2) (pe_op op_pow pe_int pe_int) (nomark _)) (pss_one (ps_asg (pv 2) (pg_sub (pv 0) pe_int set_list))) pss_nil))))) pss_nil)
      (pss_cons (ps_if (pt_cmpR op_gt (pe_ix (ix_M (K := g.K) rfl) (pv 0) pe_int (fun _ _ => rfl)) pe_int (nomark _)) (pss_cons (ps_set (i := 3) sc_L_draw.nd rfl (Or.inl rfl) (pe_op op_mod (pe_callTy call_int1 (by rfl) T.n_int (by decide +kernel) (pa_cons (pe_ix (ix_M (K := g.K) rfl) (pv 0) pe_int (fun _ _ => rfl)) pa_nil)) (pv 1)))
      (pss_cons (ps_asg (pe_op op_fdivW (pe_ix (ix_M (K := g.K) rfl) (pv 0) pe_int (fun _ _ => rfl)) (pv 1)) (pg_sub (pv 0) pe_int set_list))
      (pss_one (ps_ret (pv 3))))) pss_nil)
      (pss_cons (ps_asg (pe_op (op_addM (K := g.K) rfl) (pe_ix (ix_M (K := g.K) rfl) (pv 0) pe_int (fun _ _ => rfl)) pe_int) (pg_sub (pv 0) pe_int set_list))
      (pss_cons (ps_set (i := 4) sc_L_draw.nd rfl (Or.inl rfl) (pe_op op_mod (pe_callTy call_int1 (by rfl) T.n_int (by decide +kernel) (pa_cons (pe_op (op_mulM (K := g.K) rfl) (pe_callTy call_int1 (by rfl) T.n_int (by decide +kernel) (pa_cons (pe_op (op_addM (K := g.K) rfl) (pe_ix (ix_M (K := g.K) rfl) (pv 0) pe_int (fun _ _ => rfl)) (pe_op (op_mulM (K := g.K) rfl) pe_int (pe_ix (ix_M (K := g.K) rfl) (pv 0) pe_int (fun _ _ => rfl)))) pa_nil)) pe_int) pa_nil)) pe_int))
      (pss_cons (ps_set (i := 4) sc_L_draw.nd rfl (Or.inl rfl) (pe_op op_mod (pe_callTy call_int1 (by rfl) T.n_int (by decide +kernel) (pa_cons (pe_op (op_mulM (K := g.K) rfl) (pv 4) (pe_op (op_addM (K := g.K) rfl) (pe_op op_fdivW (pv 4) pe_int) pe_int)) pa_nil)) pe_int))
      (pss_cons (ps_set (i := 4) sc_L_draw.nd rfl (Or.inl rfl) (pe_op op_mod (pe_callTy call_int1 (by rfl) T.n_int (by decide +kernel) (pa_cons (pe_op (op_mulM (K := g.K) rfl) (pv 4) (pe_op (op_addM (K := g.K) rfl) (pe_op op_fdivW (pv 4) pe_int) pe_int)) pa_nil)) pe_int))
      (pss_one (ps_ret (pe_op op_mod (pe_callTy call_int1 (by rfl) T.n_int (by decide +kernel) (pa_cons (pe_op op_fdivW (pv 4) pe_int) pa_nil)) (pv 1)))))))))))
    ((ss_seq (ss_ifS (st_and (st_test (se_op eq_ok (se_op ix_ok se_var se_int) se_int)) (st_test (se_op lt_ok (se_op ix_ok se_var se_int) (se_call len_ok (sa_cons (se_op ix_ok se_var se_int) sa_nil))))) (ss_seq (ss_asgG (se_op ix_ok (se_op ix_ok se_var se_int) (se_op ix_ok se_var se_int)) sg_name)
      (ss_seq (ss_asgG (se_op add_ok (se_op ix_ok se_var se_int) se_int) (sg_sub se_var se_int))
      (ss_seq (ss_asgG (se_op mod_ok (se_call int_ok (sa_cons (se_op add_ok (se_op add_ok (se_op mul_ok (se_op ix_ok se_var se_int) se_int) (se_op mul_ok se_var se_int)) se_int) sa_nil)) se_int) (sg_sub se_var se_int))
      (ss_ifS (st_test (se_op ge_ok se_var (se_op pow_ok se_int se_int))) (ss_asgG se_var (sg_sub se_var se_int)) ss_next)))) ss_next)
      (ss_seq (ss_ifS (st_test (se_op gt_ok (se_op ix_ok se_var se_int) se_int)) (ss_seq (ss_asgG (se_op mod_ok (se_call int_ok (sa_cons (se_op ix_ok se_var se_int) sa_nil)) se_var) sg_name)
      (ss_seq (ss_asgG (se_op div_ok (se_op ix_ok se_var se_int) se_var) (sg_sub se_var se_int))
      (ss_ret se_var))) ss_next)
      (ss_seq (ss_asgG (se_op add_ok (se_op ix_ok se_var se_int) se_int) (sg_sub se_var se_int))
      (ss_seq (ss_asgG (se_op mod_ok (se_call int_ok (sa_cons (se_op mul_ok (se_call int_ok (sa_cons (se_op add_ok (se_op ix_ok se_var se_int) (se_op mul_ok se_int (se_op ix_ok se_var se_int))) sa_nil)) se_int) sa_nil)) se_int) sg_name)
      (ss_seq (ss_asgG (se_op mod_ok (se_call int_ok (sa_cons (se_op mul_ok se_var (se_op add_ok (se_op div_ok se_var se_int) se_int)) sa_nil)) se_int) sg_name)
      (ss_seq (ss_asgG (se_op mod_ok (se_call int_ok (sa_cons (se_op mul_ok se_var (se_op add_ok (se_op div_ok se_var se_int) se_int)) sa_nil)) se_int) sg_name)
      (ss_ret (se_op mod_ok (se_call int_ok (sa_cons (se_op div_ok se_var se_int) sa_nil)) se_var))))))))) h
end
end W3
namespace W3
open PySem PySem.Spec PyProof.Rows L2 M3
section
variable [TabsP]
variable {P : Program} {w : World} {g : G} {mg : Str → Option Value} {base : Heap} {f_eBadForest f_eNoHouse f_eNoNumber f_eNoShape f_eNoTurn f_iForest f_iStand : Addr}
theorem ok_L_number (D : M3.Def g.K mg "_law_number" s_L_number ["thing", "least", "most"]) (T : Txt mg) (Z : Fx g w mg f_eBadForest f_eNoHouse f_eNoNumber f_eNoShape f_eNoTurn f_iForest f_iStand) : M3.Cal P w g.K mg base 1 "_law_number" ["thing", "least", "most"] (spM g.K 3 (mPure (m_L_number g))) := by
  refine M3.Cal.imp (D.cal (sp := (spM g.K 3 (m_L_number g))) sc_L_number (spM_len rfl) (fun f cdv A outer s H vs Q E hr h => ?_)) pure_ok
  exact body_all (N := ["thing", "least", "most"]) (E := E) ((pss_one (ps_ret (pe_and (pe_callB (call_isiM (K := g.K) rfl) (by rfl) T.n_isinstance (by decide +kernel) (pa_cons (pv 0) (pa_cons (pe_bltn (v := .ty "int") (by rfl) T.n_int (by decide +kernel) rfl) pa_nil))) (pe_and (pe_not (pe_callB (call_isiM (K := g.K) rfl) (by rfl) T.n_isinstance (by decide +kernel) (pa_cons (pv 0) (pa_cons (pe_bltn (v := .ty "bool") (by rfl) T.n_bool (by decide +kernel) rfl) pa_nil)))) (pe_one (pe_chain op_le op_le (pv 1) (pv 0) (pv 2))))))))
    ((ss_ret (se_and (se_call (isi_ok Z.CSO) (sa_cons se_var (sa_cons se_con sa_nil))) (se_and (se_not (se_call (isi_ok Z.CSO) (sa_cons se_var (sa_cons se_con sa_nil)))) (se_chain le_ok le_ok se_var se_var se_var))))) h
end
end W3
namespace W3
open PySem PySem.Spec PyProof.Rows L2 M3
section
variable [TabsP]
variable {P : Program} {w : World} {g : G} {mg : Str → Option Value} {base : Heap} {f_eBadForest f_eNoHouse f_eNoNumber f_eNoShape f_eNoTurn f_iForest f_iStand : Addr}
theorem ok_L_is_integer (D : M3.Def g.K mg "_law_is_integer" s_L_is_integer ["thing"]) (T : Txt mg) (Z : Fx g w mg f_eBadForest f_eNoHouse f_eNoNumber f_eNoShape f_eNoTurn f_iForest f_iStand) : M3.Cal P w g.K mg base 1 "_law_is_integer" ["thing"] (spM g.K 1 (mPure (m_L_is_integer g))) := by
  refine M3.Cal.imp (D.cal (sp := (spM g.K 1 (m_L_is_integer g))) sc_L_is_integer (spM_len rfl) (fun f cdv A outer s H vs Q E hr h => ?_)) pure_ok
  exact body_all (N := ["thing"]) (E := E) ((pss_one (ps_ret (pe_and (pe_callB (call_isiM (K := g.K) rfl) (by rfl) T.n_isinstance (by decide +kernel) (pa_cons (pv 0) (pa_cons (pe_bltn (v := .ty "int") (by rfl) T.n_int (by decide +kernel) rfl) pa_nil))) (pe_one (pe_not (pe_callB (call_isiM (K := g.K) rfl) (by rfl) T.n_isinstance (by decide +kernel) (pa_cons (pv 0) (pa_cons (pe_bltn (v := .ty "bool") (by rfl) T.n_bool (by decide +kernel) rfl) pa_nil)))))))))
    ((ss_ret (se_and (se_call (isi_ok Z.CSO) (sa_cons se_var (sa_cons se_con sa_nil))) (se_not (se_call (isi_ok Z.CSO) (sa_cons se_var (sa_cons se_con sa_nil))))))) h
end
end W3
namespace W3
open PySem PySem.Spec PyProof.Rows L2 M3
section
variable [TabsP]
variable {P : Program} {w : World} {g : G} {mg : Str → Option Value} {base : Heap} {f_eBadForest f_eNoHouse f_eNoNumber f_eNoShape f_eNoTurn f_iForest f_iStand : Addr}
theorem ok_L_house (D : M3.Def g.K mg "_law_house" s_L_house ["up", "value"]) (T : Txt mg) (Z : Fx g w mg f_eBadForest f_eNoHouse f_eNoNumber f_eNoShape f_eNoTurn f_iForest f_iStand) : M3.Cal P w g.K mg base 1 "_law_house" ["up", "value"] (spM g.K 2 (m_L_house g)) := by
  refine M3.Cal.mono (D.cal (sp := (spM g.K 2 (m_L_house g))) sc_L_house (spM_len rfl) (fun f cdv A outer s H vs Q E hr h => ?_)) (Nat.le_refl _)
  exact body_all (N := ["up", "value"]) (E := E) ((pss_one (ps_ret (pe_lst (pa_cons (pv 0) (pa_cons pe_non (pa_cons pe_non (pa_cons pe_bl (pa_cons pe_int (pa_cons (pv 1) pa_nil))))))))))
    ((ss_ret (se_trk (sl_lst (sa_cons se_var (sa_cons se_non (sa_cons se_non (sa_cons se_bl (sa_cons se_int (sa_cons se_var sa_nil)))))))))) h
end
end W3
namespace W3
open PySem PySem.Spec PyProof.Rows L2 M3
section
variable [TabsP]
variable {P : Program} {w : World} {g : G} {mg : Str → Option Value} {base : Heap} {f_eBadForest f_eNoHouse f_eNoNumber f_eNoShape f_eNoTurn f_iForest f_iStand : Addr}
theorem ok_L_is_son (D : M3.Def g.K mg "_law_is_son" s_L_is_son ["shape", "house"]) (T : Txt mg) (Z : Fx g w mg f_eBadForest f_eNoHouse f_eNoNumber f_eNoShape f_eNoTurn f_iForest f_iStand) : M3.Cal P w g.K mg base 1 "_law_is_son" ["shape", "house"] (spM g.K 2 (mPure (m_L_is_son g))) := by
  refine M3.Cal.imp (D.cal (sp := (spM g.K 2 (m_L_is_son g))) sc_L_is_son (spM_len rfl) (fun f cdv A outer s H vs Q E hr h => ?_)) pure_ok
  exact body_all (N := ["shape", "house", "up"]) (E := E) ((pss_cons (ps_set (i := 2) sc_L_is_son.nd rfl (Or.inl rfl) (pe_ix (ix_M (K := g.K) rfl) (pe_ix (ix_M (K := g.K) rfl) (pv 0) (pv 1) (fun _ _ => rfl)) pe_int (fun _ _ => rfl)))
      (pss_one (ps_ret (pe_and (pe_cmpR op_notN (pv 2) pe_non (nomark _)) (pe_one (pe_cmpR (op_inM (K := g.K) rfl) (pv 1) (pe_slice (sl_M (K := g.K) rfl) (pe_ix (ix_M (K := g.K) rfl) (pv 0) (pv 2) (fun _ _ => rfl)) (po_some pe_int) (po_some pe_int)) (by rfl))))))))
    ((ss_seq (ss_asgG (se_op ix_ok (se_op ix_ok se_var se_var) se_int) sg_name)
      (ss_ret (se_and (se_op notN_okR se_var se_non) (se_op in_ok se_var (se_sl (se_op ix_ok se_var se_var) (so_some se_int) (so_some se_int))))))) h
end
end W3
namespace W3
open PySem PySem.Spec PyProof.Rows L2 M3
section
variable [TabsP]
variable {P : Program} {w : World} {g : G} {mg : Str → Option Value} {base : Heap} {f_eBadForest f_eNoHouse f_eNoNumber f_eNoShape f_eNoTurn f_iForest f_iStand : Addr}
theorem ok_is_between (D : M3.Def g.K mg "is_between" s_is_between ["least", "most", "thing"]) (T : Txt mg) (Z : Fx g w mg f_eBadForest f_eNoHouse f_eNoNumber f_eNoShape f_eNoTurn f_iForest f_iStand) (C_is_integer : M3.Cal P w g.K mg base 1 "is_integer" ["thing"] (spM g.K 1 (mPure (m_is_integer g)))) : M3.Cal P w g.K mg base 2 "is_between" ["least", "most", "thing"] (spM g.K 3 (mPure (m_is_between g))) := by
  refine M3.Cal.imp (D.cal (sp := (spM g.K 3 (m_is_between g))) sc_is_between (spM_len rfl) (fun f cdv A outer s H vs Q E hr h => ?_)) pure_ok
  exact body_all (N := ["least", "most", "thing"]) (E := E) ((pss_one (ps_ret (pe_and (pcal C_is_integer hr (by omega) rfl (takes_of rfl rfl rfl rfl) (pa_cons (pv 2) pa_nil)) (pe_one (pe_chain op_le op_le (pv 0) (pv 2) (pv 1)))))))
    ((ss_ret (se_and (se_def (sa_cons se_var sa_nil)) (se_chain le_ok le_ok se_var se_var se_var)))) h
end
end W3
namespace W3
open PySem PySem.Spec PyProof.Rows L2 M3
section
variable [TabsP]
variable {P : Program} {w : World} {g : G} {mg : Str → Option Value} {base : Heap} {f_eBadForest f_eNoHouse f_eNoNumber f_eNoShape f_eNoTurn f_iForest f_iStand : Addr}
theorem ok_are_worths (D : M3.Def g.K mg "_are_worths" s_are_worths ["thing", "houses"]) (T : Txt mg) (Z : Fx g w mg f_eBadForest f_eNoHouse f_eNoNumber f_eNoShape f_eNoTurn f_iForest f_iStand) (C_is_integer : M3.Cal P w g.K mg base 1 "is_integer" ["thing"] (spM g.K 1 (mPure (m_is_integer g)))) : M3.Cal P w g.K mg base 2 "_are_worths" ["thing", "houses"] (spM g.K 2 (mPure (m_are_worths g))) := by
  refine M3.Cal.imp (D.cal (sp := (spM g.K 2 (m_are_worths g))) sc_are_worths (spM_len rfl) (fun f cdv A outer s H vs Q E hr h => ?_)) pure_ok
  exact body_all (N := ["thing", "houses", "worth"]) (E := E) ((pss_cons (ps_if (PW.pt (pw_or (pt_not (pt_val (pe_callB (call_isiM (K := g.K) rfl) (by rfl) T.n_isinstance (by decide +kernel) (pa_cons (pv 0) (pa_cons (pe_bltn (v := .ty "tuple") (by rfl) T.n_tuple (by decide +kernel) rfl) pa_nil))))) (pw_or1 (pt_cmpR (op_neM (K := g.K) rfl hr.units) (pe_callB (call_lenM (K := g.K) rfl) (by rfl) T.n_len PySem.boot_len (pa_cons (pv 0) pa_nil)) (pv 1) (nomark _))))) (pss_one (ps_ret pe_bl)) pss_nil)
      (pss_one (ps_ret (pe_callB (call_allM (K := g.K) rfl rfl) (by rfl) T.n_all (by decide +kernel) (pa_cons ((pe_lc (own := [("worth", 2)]) (g := (gName 2)) (tt := tYes) (by rfl) sc_are_worths.nd (pi_M (K := g.K) rfl (pv 0)) (blkOk_by (own := [("worth", 2)]) (N := ["thing", "houses", "worth"]) (sc := defScope s_are_worths) (by decide +kernel)) (fun _ _ _ _ _ => (pg_name (i := 2) sc_are_worths.nd rfl (Or.inl rfl))) (fun _ _ _ _ _ => pts_nil) (fun _ _ _ _ _ => (pcalF C_is_integer hr (by omega) rfl (pa_cons (pv 2) pa_nil))))) pa_nil))))))
    ((ss_seq (ss_ifS (st_or (st_not (st_tst (se_call (isi_ok Z.CSO) (sa_cons se_var (sa_cons se_con sa_nil))))) (st_test (se_op ne_ok (se_call len_ok (sa_cons se_var sa_nil)) se_var))) (ss_ret se_bl) ss_next)
      (ss_ret (se_call all_ok (sa_cons (se_frz (sl_lc (si_walk se_var) (sgv_name (by decide)) st_yes (se_defF (sa_cons se_var sa_nil)))) sa_nil))))) h
end
end W3
namespace W3
open PySem PySem.Spec PyProof.Rows L2 M3
section
variable [TabsP]
variable {P : Program} {w : World} {g : G} {mg : Str → Option Value} {base : Heap} {f_eBadForest f_eNoHouse f_eNoNumber f_eNoShape f_eNoTurn f_iForest f_iStand : Addr}
theorem ok_rank (D : M3.Def g.K mg "rank" s_rank ["number"]) (T : Txt mg) (Z : Fx g w mg f_eBadForest f_eNoHouse f_eNoNumber f_eNoShape f_eNoTurn f_iForest f_iStand) (C_is_integer : M3.Cal P w g.K mg base 1 "is_integer" ["thing"] (spM g.K 1 (mPure (m_is_integer g)))) : M3.Cal P w g.K mg base 2 "rank" ["number"] (spM g.K 1 (mPure (m_rank g))) := by
  refine M3.Cal.imp (D.cal (sp := (spM g.K 1 (m_rank g))) sc_rank (spM_len rfl) (fun f cdv A outer s H vs Q E hr h => ?_)) pure_ok
  exact body_all (N := ["number"]) (E := E) ((pss_cons (ps_if (PW.pt (pw_or (pt_not (pt_val (pcal C_is_integer hr (by omega) rfl (takes_of rfl rfl rfl rfl) (pa_cons (pv 0) pa_nil)))) (pw_or1 (pt_cmpR op_lt (pv 0) pe_int (nomark _))))) (pss_one (ps_raise_NoNumber rfl Z.NoNumber hr (takes_of rfl rfl rfl rfl))) pss_nil)
      (pss_one (ps_ret (pe_op op_sub (pe_bits (pv 0)) pe_int)))))
    ((ss_seq (ss_ifS (st_or (st_not (st_tst (se_def (sa_cons se_var sa_nil)))) (st_test (se_op lt_ok se_var se_int))) ss_raise0 ss_next)
      (ss_ret (se_op sub_ok (se_bits se_var) se_int)))) h
end
end W3
namespace W3
open PySem PySem.Spec PyProof.Rows L2 M3
section
variable [TabsP]
variable {P : Program} {w : World} {g : G} {mg : Str → Option Value} {base : Heap} {f_eBadForest f_eNoHouse f_eNoNumber f_eNoShape f_eNoTurn f_iForest f_iStand : Addr}
theorem ok_told_worth (D : M3.Def g.K mg "_told_worth" s_told_worth ["stands", "house"]) (T : Txt mg) (Z : Fx g w mg f_eBadForest f_eNoHouse f_eNoNumber f_eNoShape f_eNoTurn f_iForest f_iStand) (C_is_top : M3.Cal P w g.K mg base 1 "is_top" ["stands", "house"] (spM g.K 2 (mScope (m_is_top g)))) : M3.Cal P w g.K mg base 2 "_told_worth" ["stands", "house"] (spM g.K 2 (mScope (m_told_worth g))) := by
  refine M3.Cal.imp (D.cal (sp := (spM g.K 2 (m_told_worth g))) sc_told_worth (spM_len rfl) (fun f cdv A outer s H vs Q E hr h => ?_)) scope_ok
  exact body_all (N := ["stands", "house", "worth"]) (E := E) ((pss_cons (ps_set (i := 2) sc_told_worth.nd rfl (Or.inl rfl) (pe_fldK (K := g.K) rfl (pe_ix (ix_M (K := g.K) rfl) (pv 0) (pv 1) (fun _ _ => rfl)) rfl))
      (pss_cons (ps_while (passes_of rfl) (pt_not (pt_val (pcal C_is_top hr (by omega) rfl (takes_of rfl rfl rfl rfl) (pa_cons (pv 0) (pa_cons (pv 1) pa_nil))))) (pss_cons (ps_set (i := 1) sc_told_worth.nd rfl (Or.inl rfl) (pe_fldK (K := g.K) rfl (pe_ix (ix_M (K := g.K) rfl) (pv 0) (pv 1) (fun _ _ => rfl)) rfl))
      (pss_one (ps_aug (i := 2) sc_told_worth.nd rfl (Or.inl rfl) (pe_fldK (K := g.K) rfl (pe_ix (ix_M (K := g.K) rfl) (pv 0) (pv 1) (fun _ _ => rfl)) rfl) ip_add))))
      (pss_one (ps_ret (pv 2))))))
    ((ss_seq (ss_asgG (se_fld Z.FO (se_op ix_ok se_var se_var)) sg_name)
      (ss_seq (ss_while (st_not (st_tst (se_def (sa_cons se_var (sa_cons se_var sa_nil))))) (ss_seq (ss_asgG (se_fld Z.FO (se_op ix_ok se_var se_var)) sg_name)
      (ss_aug (se_fld Z.FO (se_op ix_ok se_var se_var)) ip_add_ok)))
      (ss_ret se_var)))) h
end
end W3
namespace W3
open PySem PySem.Spec PyProof.Rows L2 M3
section
variable [TabsP]
variable {P : Program} {w : World} {g : G} {mg : Str → Option Value} {base : Heap} {f_eBadForest f_eNoHouse f_eNoNumber f_eNoShape f_eNoTurn f_iForest f_iStand : Addr}
theorem ok_weights_of (D : M3.Def g.K mg "_weights_of" s_weights_of ["stands"]) (T : Txt mg) (Z : Fx g w mg f_eBadForest f_eNoHouse f_eNoNumber f_eNoShape f_eNoTurn f_iForest f_iStand) (C_line_up : M3.Cal P w g.K mg base 1 "line_up" ["stands", "house"] (spM g.K 2 (mScope (m_line_up g)))) : M3.Cal P w g.K mg base 2 "_weights_of" ["stands"] (spM g.K 1 (mScope (m_weights_of g))) := by
  refine M3.Cal.imp (D.cal (sp := (spM g.K 1 (m_weights_of g))) sc_weights_of (spM_len rfl) (fun f cdv A outer s H vs Q E hr h => ?_)) scope_ok
  exact body_all (N := ["stands", "found", "house", "at"]) (E := E) ((pss_cons (ps_set (i := 1) sc_weights_of.nd rfl (Or.inl rfl) (pe_op (op_mulM (K := g.K) rfl) ((pe_lst (pa_cons pe_int pa_nil))) (pe_callB (call_lenM (K := g.K) rfl) (by rfl) T.n_len PySem.boot_len (pa_cons (pv 0) pa_nil))))
      (pss_cons (ps_for (passes_of rfl) rfl (pi_range1 rfl T.n_range (pa_cons (pe_callB (call_lenM (K := g.K) rfl) (by rfl) T.n_len PySem.boot_len (pa_cons (pv 0) pa_nil)) pa_nil)) (pg_name (i := 2) sc_weights_of.nd rfl (Or.inl rfl)) (pss_one (ps_for (passes_of rfl) rfl (pi_M (K := g.K) rfl (pcal C_line_up hr (by omega) rfl (takes_of rfl rfl rfl rfl) (pa_cons (pv 0) (pa_cons (pv 2) pa_nil)))) (pg_name (i := 3) sc_weights_of.nd rfl (Or.inl rfl)) (pss_one (ps_augS (pv 1) (pv 3) (get_K (K := g.K) rfl) pe_int ip_add set_list)))))
      (pss_one (ps_ret (pe_callTy (call_tupM (K := g.K) rfl) (by rfl) T.n_tuple (by decide +kernel) (pa_cons (pv 1) pa_nil)))))))
    ((ss_seq (ss_asgG (se_trk (sl_mulL (se_frz (sl_lst (sa_cons se_int sa_nil))) (se_call len_ok (sa_cons se_var sa_nil)))) sg_name)
      (ss_seq (ss_for (si_rng1 (sa_cons (se_call len_ok (sa_cons se_var sa_nil)) sa_nil)) sg_name (ss_for (si_walk (se_def (sa_cons se_var (sa_cons se_var sa_nil)))) sg_name (ss_augS se_var se_var se_int)))
      (ss_ret (se_call tuple_ok (sa_cons se_var sa_nil)))))) h
end
end W3
namespace W3
open PySem PySem.Spec PyProof.Rows L2 M3
section
variable [TabsP]
variable {P : Program} {w : World} {g : G} {mg : Str → Option Value} {base : Heap} {f_eBadForest f_eNoHouse f_eNoNumber f_eNoShape f_eNoTurn f_iForest f_iStand : Addr}
theorem ok_turn_up (D : M3.Def g.K mg "turn_up" s_turn_up ["stands", "house"]) (T : Txt mg) (Z : Fx g w mg f_eBadForest f_eNoHouse f_eNoNumber f_eNoShape f_eNoTurn f_iForest f_iStand) (C_take_place : M3.Cal P w g.K mg base 1 "_take_place" ["stands", "house", "ahead"] (spM g.K 3 (mScope (m_take_place g)))) (C_hand_on : M3.Cal P w g.K mg base 1 "hand_on" ["stands", "house"] (spM g.K 2 (mScope (m_hand_on g)))) : M3.Cal P w g.K mg base 2 "turn_up" ["stands", "house"] (spM g.K 2 (mScope (m_turn_up g))) := by
  refine M3.Cal.imp (D.cal (sp := (spM g.K 2 (m_turn_up g))) sc_turn_up (spM_len rfl) (fun f cdv A outer s H vs Q E hr h => ?_)) scope_ok
  exact body_all (N := ["stands", "house", "lower", "ahead", "upper", "between", "inner"]) (E := E) ((pss_cons (ps_set (i := 2) sc_turn_up.nd rfl (Or.inl rfl) (pe_ix (ix_M (K := g.K) rfl) (pv 0) (pv 1) (fun _ _ => rfl)))
      (pss_cons (ps_set (i := 3) sc_turn_up.nd rfl (Or.inl rfl) (pe_fldK (K := g.K) rfl (pv 2) rfl))
      (pss_cons (ps_set (i := 4) sc_turn_up.nd rfl (Or.inl rfl) (pe_ix (ix_M (K := g.K) rfl) (pv 0) (pv 3) (fun _ _ => rfl)))
      (pss_cons (ps_expr (pcal C_hand_on hr (by omega) rfl (takes_of rfl rfl rfl rfl) (pa_cons (pv 0) (pa_cons (pv 3) pa_nil))))
      (pss_cons (ps_expr (pcal C_hand_on hr (by omega) rfl (takes_of rfl rfl rfl rfl) (pa_cons (pv 0) (pa_cons (pv 1) pa_nil))))
      (pss_cons (ps_expr (pcal C_take_place hr (by omega) rfl (takes_of rfl rfl rfl rfl) (pa_cons (pv 0) (pa_cons (pv 1) (pa_cons (pv 3) pa_nil)))))
      (pss_cons (ps_if (pt_cmpR (op_eqM (K := g.K) rfl hr.units) (pe_fldK (K := g.K) rfl (pv 4) rfl) (pv 1) (nomark _)) (pss_cons (ps_set (i := 5) sc_turn_up.nd rfl (Or.inl rfl) (pe_fldK (K := g.K) rfl (pv 2) rfl))
      (pss_cons (ps_fld (pv 4) (pv 5) rfl)
      (pss_one (ps_fld (pv 2) (pv 3) rfl)))) (pss_cons (ps_set (i := 5) sc_turn_up.nd rfl (Or.inl rfl) (pe_fldK (K := g.K) rfl (pv 2) rfl))
      (pss_cons (ps_fld (pv 4) (pv 5) rfl)
      (pss_one (ps_fld (pv 2) (pv 3) rfl)))))
      (pss_cons (ps_fld (pv 4) (pv 1) rfl)
      (pss_one (ps_if (pt_cmpR op_notN (pv 5) pe_non (nomark _)) (pss_cons (ps_set (i := 6) sc_turn_up.nd rfl (Or.inl rfl) (pe_ix (ix_M (K := g.K) rfl) (pv 0) (pv 5) (fun _ _ => rfl)))
      (pss_one (ps_fld (pv 6) (pv 3) rfl))) pss_nil)))))))))))
    ((ss_seq (ss_asgG (se_op ix_ok se_var se_var) sg_name)
      (ss_seq (ss_asgG (se_fld Z.FO se_var) sg_name)
      (ss_seq (ss_asgG (se_op ix_ok se_var se_var) sg_name)
      (ss_seq (ss_drop (se_def (sa_cons se_var (sa_cons se_var sa_nil))))
      (ss_seq (ss_drop (se_def (sa_cons se_var (sa_cons se_var sa_nil))))
      (ss_seq (ss_drop (se_def (sa_cons se_var (sa_cons se_var (sa_cons se_var sa_nil)))))
      (ss_seq (ss_ifS (st_test (se_op eq_ok (se_fld Z.FO se_var) se_var)) (ss_seq (ss_asgG (se_fld Z.FO se_var) sg_name)
      (ss_seq (ss_setF Z.FO se_var se_var)
      (ss_setF Z.FO se_var se_var))) (ss_seq (ss_asgG (se_fld Z.FO se_var) sg_name)
      (ss_seq (ss_setF Z.FO se_var se_var)
      (ss_setF Z.FO se_var se_var))))
      (ss_seq (ss_setF Z.FO se_var se_var)
      (ss_ifS (st_test (se_op notN_okR se_var se_non)) (ss_seq (ss_asgG (se_op ix_ok se_var se_var) sg_name)
      (ss_setF Z.FO se_var se_var)) ss_next)))))))))) h
end
end W3
namespace W3
open PySem PySem.Spec PyProof.Rows L2 M3
section
variable [TabsP]
variable {P : Program} {w : World} {g : G} {mg : Str → Option Value} {base : Heap} {f_eBadForest f_eNoHouse f_eNoNumber f_eNoShape f_eNoTurn f_iForest f_iStand : Addr}
theorem ok_L_deep (D : M3.Def g.K mg "_law_deep" s_L_deep ["hand"]) (T : Txt mg) (Z : Fx g w mg f_eBadForest f_eNoHouse f_eNoNumber f_eNoShape f_eNoTurn f_iForest f_iStand) (C_L_draw : M3.Cal P w g.K mg base 1 "_law_draw" ["hand", "many"] (spM g.K 2 (mScope (m_L_draw g)))) : M3.Cal P w g.K mg base 2 "_law_deep" ["hand"] (spM g.K 1 (mScope (m_L_deep g))) := by
  refine M3.Cal.imp (D.cal (sp := (spM g.K 1 (m_L_deep g))) sc_L_deep (spM_len rfl) (fun f cdv A outer s H vs Q E hr h => ?_)) scope_ok
  exact body_all (N := ["hand", "found", "turn"]) (E := E) ((pss_cons (ps_set (i := 1) sc_L_deep.nd rfl (Or.inl rfl) (pe_ix (ix_M (K := g.K) rfl) ((pe_lst (pa_cons pe_non (pa_cons pe_str (pa_cons (pe_un un_neg pe_int) (pa_cons pe_dnewK pa_nil)))))) (pcal C_L_draw hr (by omega) rfl (takes_of rfl rfl rfl rfl) (pa_cons (pv 0) (pa_cons pe_int pa_nil))) (fun _ _ => rfl)))
      (pss_cons (ps_for (passes_of rfl) rfl (pi_range1 rfl T.n_range (pa_cons (pe_op (op_addM (K := g.K) rfl) pe_int (pcal C_L_draw hr (by omega) rfl (takes_of rfl rfl rfl rfl) (pa_cons (pv 0) (pa_cons pe_int pa_nil)))) pa_nil)) (pg_name (i := 2) sc_L_deep.nd rfl (Or.inl rfl)) (pss_one (ps_set (i := 1) sc_L_deep.nd rfl (Or.inl rfl) (pe_ix (ix_M (K := g.K) rfl) ((pe_lst (pa_cons (pe_tup (pa_cons (pv 1) pa_nil)) (pa_cons ((pe_lst (pa_cons (pv 1) pa_nil))) (pa_cons (pe_slice (sl_M (K := g.K) rfl) (pe_tup (pa_cons (pv 1) (pa_cons (pv 1) pa_nil))) po_none (po_some pe_int)) (pa_cons (pe_disp (pps_cons pe_int (pv 1) pps_nil) rfl rfl (fun h => nomatch h) (by decide)) pa_nil)))))) (pcal C_L_draw hr (by omega) rfl (takes_of rfl rfl rfl rfl) (pa_cons (pv 0) (pa_cons pe_int pa_nil))) (fun _ _ => rfl)))))
      (pss_one (ps_ret (pv 1))))))
    ((ss_seq (ss_asgG (se_op ix_ok (se_frz (sl_lst (sa_cons se_non (sa_cons se_str (sa_cons (se_un neg_ok se_int) (sa_cons se_dnew sa_nil)))))) (se_def (sa_cons se_var (sa_cons se_int sa_nil)))) sg_name)
      (ss_seq (ss_for (si_rng1 (sa_cons (se_op add_ok se_int (se_def (sa_cons se_var (sa_cons se_int sa_nil)))) sa_nil)) sg_name (ss_asgG (se_op ix_ok (se_frz (sl_lst (sa_cons (se_tup (sa_cons se_var sa_nil)) (sa_cons (se_frz (sl_lst (sa_cons se_var sa_nil))) (sa_cons (se_sl (se_tup (sa_cons se_var (sa_cons se_var sa_nil))) so_none (so_some se_int)) (sa_cons (se_dispF (SPs.cons se_int se_var SPs.nil)) sa_nil)))))) (se_def (sa_cons se_var (sa_cons se_int sa_nil)))) sg_name))
      (ss_ret se_var)))) h
end
end W3
namespace W3
open PySem PySem.Spec PyProof.Rows L2 M3
section
variable [TabsP]
variable {P : Program} {w : World} {g : G} {mg : Str → Option Value} {base : Heap} {f_eBadForest f_eNoHouse f_eNoNumber f_eNoShape f_eNoTurn f_iForest f_iStand : Addr}
theorem ok_L_value (D : M3.Def g.K mg "_law_value" s_L_value ["hand"]) (T : Txt mg) (Z : Fx g w mg f_eBadForest f_eNoHouse f_eNoNumber f_eNoShape f_eNoTurn f_iForest f_iStand) (C_L_draw : M3.Cal P w g.K mg base 1 "_law_draw" ["hand", "many"] (spM g.K 2 (mScope (m_L_draw g)))) : M3.Cal P w g.K mg base 2 "_law_value" ["hand"] (spM g.K 1 (mScope (m_L_value g))) := by
  refine M3.Cal.imp (D.cal (sp := (spM g.K 1 (m_L_value g))) sc_L_value (spM_len rfl) (fun f cdv A outer s H vs Q E hr h => ?_)) scope_ok
  exact body_all (N := ["hand", "kind"]) (E := E) ((pss_cons (ps_set (i := 1) sc_L_value.nd rfl (Or.inl rfl) (pcal C_L_draw hr (by omega) rfl (takes_of rfl rfl rfl rfl) (pa_cons (pv 0) (pa_cons pe_int pa_nil))))
      (pss_cons (ps_if (pt_cmpR (op_eqM (K := g.K) rfl hr.units) (pv 1) pe_int (nomark _)) (pss_one (ps_ret (pe_ix (ix_M (K := g.K) rfl) ((pe_lst (pa_cons (pe_op op_pow pe_int pe_int) (pa_cons (pe_op op_sub pe_int (pe_op op_pow pe_int pe_int)) (pa_cons (pe_op op_pow pe_int pe_int) (pa_cons (pe_un un_neg pe_int) (pa_cons pe_int (pa_cons (pe_op op_pow pe_int pe_int) pa_nil)))))))) (pcal C_L_draw hr (by omega) rfl (takes_of rfl rfl rfl rfl) (pa_cons (pv 0) (pa_cons pe_int pa_nil))) (fun _ _ => rfl)))) pss_nil)
      (pss_one (ps_ret (pe_op op_sub (pcal C_L_draw hr (by omega) rfl (takes_of rfl rfl rfl rfl) (pa_cons (pv 0) (pa_cons pe_int pa_nil))) pe_int))))))
    ((ss_seq (ss_asgG (se_def (sa_cons se_var (sa_cons se_int sa_nil))) sg_name)
      (ss_seq (ss_ifS (st_test (se_op eq_ok se_var se_int)) (ss_ret (se_op ix_ok (se_frz (sl_lst (sa_cons (se_op pow_ok se_int se_int) (sa_cons (se_op sub_ok se_int (se_op pow_ok se_int se_int)) (sa_cons (se_op pow_ok se_int se_int) (sa_cons (se_un neg_ok se_int) (sa_cons se_int (sa_cons (se_op pow_ok se_int se_int) sa_nil)))))))) (se_def (sa_cons se_var (sa_cons se_int sa_nil))))) ss_next)
      (ss_ret (se_op sub_ok (se_def (sa_cons se_var (sa_cons se_int sa_nil))) se_int))))) h
end
end W3
namespace W3
open PySem PySem.Spec PyProof.Rows L2 M3
section
variable [TabsP]
variable {P : Program} {w : World} {g : G} {mg : Str → Option Value} {base : Heap} {f_eBadForest f_eNoHouse f_eNoNumber f_eNoShape f_eNoTurn f_iForest f_iStand : Addr}
theorem ok_L_shuffled (D : M3.Def g.K mg "_law_shuffled" s_L_shuffled ["hand", "many"]) (T : Txt mg) (Z : Fx g w mg f_eBadForest f_eNoHouse f_eNoNumber f_eNoShape f_eNoTurn f_iForest f_iStand) (C_L_draw : M3.Cal P w g.K mg base 1 "_law_draw" ["hand", "many"] (spM g.K 2 (mScope (m_L_draw g)))) : M3.Cal P w g.K mg base 2 "_law_shuffled" ["hand", "many"] (spM g.K 2 (mScope (m_L_shuffled g))) := by
  refine M3.Cal.imp (D.cal (sp := (spM g.K 2 (m_L_shuffled g))) sc_L_shuffled (spM_len rfl) (fun f cdv A outer s H vs Q E hr h => ?_)) scope_ok
  exact body_all (N := ["hand", "many", "found", "at", "other"]) (E := E) ((pss_cons (ps_set (i := 2) sc_L_shuffled.nd rfl (Or.inl rfl) (pe_listRg rfl (by rfl) T.n_list (prg_1 (by rfl) T.n_range (pv 1))))
      (pss_cons (ps_for (passes_of rfl) rfl (pi_range1 rfl T.n_range (pa_cons (pv 1) pa_nil)) (pg_name (i := 3) sc_L_shuffled.nd rfl (Or.inl rfl)) (pss_cons (ps_set (i := 4) sc_L_shuffled.nd rfl (Or.inl rfl) (pe_op (op_addM (K := g.K) rfl) (pv 3) (pcal C_L_draw hr (by omega) rfl (takes_of rfl rfl rfl rfl) (pa_cons (pv 0) (pa_cons (pe_op op_sub (pv 1) (pv 3)) pa_nil)))))
      (pss_one (ps_asg (pe_tup (pa_cons (pe_ix (ix_M (K := g.K) rfl) (pv 2) (pv 4) (fun _ _ => rfl)) (pa_cons (pe_ix (ix_M (K := g.K) rfl) (pv 2) (pv 3) (fun _ _ => rfl)) pa_nil))) (pg_tup rfl (pgs_cons (pg_sub (pv 2) (pv 3) set_list) (pgs_cons (pg_sub (pv 2) (pv 4) set_list) pgs_nil)))))))
      (pss_one (ps_ret (pv 2))))))
    ((ss_seq (ss_asgG (se_trk (sl_listRg1 se_var)) sg_name)
      (ss_seq (ss_for (si_rng1 (sa_cons se_var sa_nil)) sg_name (ss_seq (ss_asgG (se_op add_ok se_var (se_def (sa_cons se_var (sa_cons (se_op sub_ok se_var se_var) sa_nil)))) sg_name)
      (ss_asgG (se_tup (sa_cons (se_op ix_ok se_var se_var) (sa_cons (se_op ix_ok se_var se_var) sa_nil))) (sg_tup (sgs_cons (fun _ _ => rfl) (sg_sub se_var se_var) (sgs_cons (fun _ _ => rfl) (sg_sub se_var se_var) sgs_nil))))))
      (ss_ret se_var)))) h
end
end W3
namespace W3
open PySem PySem.Spec PyProof.Rows L2 M3
section
variable [TabsP]
variable {P : Program} {w : World} {g : G} {mg : Str → Option Value} {base : Heap} {f_eBadForest f_eNoHouse f_eNoNumber f_eNoShape f_eNoTurn f_iForest f_iStand : Addr}
theorem ok_L_is_shape (D : M3.Def g.K mg "_law_is_shape" s_L_is_shape ["thing"]) (T : Txt mg) (Z : Fx g w mg f_eBadForest f_eNoHouse f_eNoNumber f_eNoShape f_eNoTurn f_iForest f_iStand) (C_L_is_integer : M3.Cal P w g.K mg base 1 "_law_is_integer" ["thing"] (spM g.K 1 (mPure (m_L_is_integer g)))) (C_L_number : M3.Cal P w g.K mg base 1 "_law_number" ["thing", "least", "most"] (spM g.K 3 (mPure (m_L_number g)))) : M3.Cal P w g.K mg base 2 "_law_is_shape" ["thing"] (spM g.K 1 (mPure (m_L_is_shape g))) := by
  refine M3.Cal.imp (D.cal (sp := (spM g.K 1 (m_L_is_shape g))) sc_L_is_shape (spM_len rfl) (fun f cdv A outer s H vs Q E hr h => ?_)) pure_ok
  exact body_all (N := ["thing", "many", "row", "part", "house", "left", "right", "son", "here", "turn"]) (E := E) ((pss_cons (ps_if (PW.pt (pw_or (pt_not (pt_val (pe_callB (call_isiM (K := g.K) rfl) (by rfl) T.n_isinstance (by decide +kernel) (pa_cons (pv 0) (pa_cons (pe_bltn (v := .ty "tuple") (by rfl) T.n_tuple (by decide +kernel) rfl) pa_nil))))) (pw_or1 (pt_not (pt_chain op_le op_le pe_int (pe_callB (call_lenM (K := g.K) rfl) (by rfl) T.n_len PySem.boot_len (pa_cons (pv 0) pa_nil)) pe_int))))) (pss_one (ps_ret pe_bl)) pss_nil)
      (pss_cons (ps_set (i := 1) sc_L_is_shape.nd rfl (Or.inr rfl) (pe_callB (call_lenM (K := g.K) rfl) (by rfl) T.n_len PySem.boot_len (pa_cons (pv 0) pa_nil)))
      (pss_cons (ps_for (passes_of rfl) rfl (pi_M (K := g.K) rfl (pv 0)) (pg_name (i := 2) sc_L_is_shape.nd rfl (Or.inl rfl)) (pss_cons (ps_if (PW.pt (pw_or (pt_not (pt_val (pe_callB (call_isiM (K := g.K) rfl) (by rfl) T.n_isinstance (by decide +kernel) (pa_cons (pv 2) (pa_cons (pe_bltn (v := .ty "tuple") (by rfl) T.n_tuple (by decide +kernel) rfl) pa_nil))))) (pw_or (pt_cmpR (op_neM (K := g.K) rfl hr.units) (pe_callB (call_lenM (K := g.K) rfl) (by rfl) T.n_len PySem.boot_len (pa_cons (pv 2) pa_nil)) pe_int (nomark _)) (pw_or1 (pt_not (pt_val (pe_callB (call_isiM (K := g.K) rfl) (by rfl) T.n_isinstance (by decide +kernel) (pa_cons (pe_ix (ix_M (K := g.K) rfl) (pv 2) pe_int (fun _ _ => rfl)) (pa_cons (pe_bltn (v := .ty "bool") (by rfl) T.n_bool (by decide +kernel) rfl) pa_nil))))))))) (pss_one (ps_ret pe_bl)) pss_nil)
      (pss_cons (ps_if (pt_not (pt_val (pe_callB (call_allM (K := g.K) rfl rfl) (by rfl) T.n_all (by decide +kernel) (pa_cons ((pe_lc (own := [("part", 3)]) (g := (gName 3)) (tt := tYes) (by rfl) sc_L_is_shape.nd (pi_M (K := g.K) rfl (pe_slice (sl_M (K := g.K) rfl) (pv 2) po_none (po_some pe_int))) (blkOk_by (own := [("part", 3)]) (N := ["thing", "many", "row", "part", "house", "left", "right", "son", "here", "turn"]) (sc := defScope s_L_is_shape) (by decide +kernel)) (fun _ _ _ _ _ => (pg_name (i := 3) sc_L_is_shape.nd rfl (Or.inl rfl))) (fun _ _ _ _ _ => pts_nil) (fun _ _ _ _ _ => (pe_or (pe_cmpR op_isN (pv 3) pe_non (nomark _)) (pe_one (pcalF C_L_number hr (by omega) rfl (pa_cons (pv 3) (pa_cons pe_int (pa_cons (pe_op op_sub (pv 1) pe_int) pa_nil))))))))) pa_nil)))) (pss_one (ps_ret pe_bl)) pss_nil)
      (pss_one (ps_if (PW.pt (pw_or (pt_not (pt_val (pcal C_L_is_integer hr (by omega) rfl (takes_of rfl rfl rfl rfl) (pa_cons (pe_ix (ix_M (K := g.K) rfl) (pv 2) pe_int (fun _ _ => rfl)) pa_nil)))) (pw_or1 (pt_not (pt_val (pcal C_L_is_integer hr (by omega) rfl (takes_of rfl rfl rfl rfl) (pa_cons (pe_ix (ix_M (K := g.K) rfl) (pv 2) pe_int (fun _ _ => rfl)) pa_nil))))))) (pss_one (ps_ret pe_bl)) pss_nil)))))
      (pss_cons (ps_for (passes_of rfl) rfl (pi_range1 rfl T.n_range (pa_cons (pv 1) pa_nil)) (pg_name (i := 4) sc_L_is_shape.nd rfl (Or.inl rfl)) (pss_cons (ps_asg (pe_slice (sl_M (K := g.K) rfl) (pe_ix (ix_M (K := g.K) rfl) (pv 0) (pv 4) (fun _ _ => rfl)) (po_some pe_int) (po_some pe_int)) (pg_tup rfl (pgs_cons (pg_name (i := 5) sc_L_is_shape.nd rfl (Or.inl rfl)) (pgs_cons (pg_name (i := 6) sc_L_is_shape.nd rfl (Or.inl rfl)) pgs_nil))))
      (pss_cons (ps_if (PW.pt (pw_and (pt_cmpR op_notN (pv 5) pe_non (nomark _)) (pw_and1 (pt_cmpR (op_eqM (K := g.K) rfl hr.units) (pv 5) (pv 6) (nomark _))))) (pss_one (ps_ret pe_bl)) pss_nil)
      (pss_cons (ps_for (passes_of rfl) rfl (pi_M (K := g.K) rfl ((pe_lst (pa_cons (pv 5) (pa_cons (pv 6) pa_nil))))) (pg_name (i := 7) sc_L_is_shape.nd rfl (Or.inl rfl)) (pss_one (ps_if (PW.pt (pw_and (pt_cmpR op_notN (pv 7) pe_non (nomark _)) (pw_and1 (pt_cmpR (op_neM (K := g.K) rfl hr.units) (pe_ix (ix_M (K := g.K) rfl) (pe_ix (ix_M (K := g.K) rfl) (pv 0) (pv 7) (fun _ _ => rfl)) pe_int (fun _ _ => rfl)) (pv 4) (nomark _))))) (pss_one (ps_ret pe_bl)) pss_nil)))
      (pss_cons (ps_set (i := 8) sc_L_is_shape.nd rfl (Or.inl rfl) (pv 4))
      (pss_cons (ps_for (passes_of rfl) rfl (pi_range1 rfl T.n_range (pa_cons (pv 1) pa_nil)) (pg_name (i := 9) sc_L_is_shape.nd rfl (Or.inl rfl)) (pss_one (ps_if (pt_cmpR op_notN (pv 8) pe_non (nomark _)) (pss_one (ps_set (i := 8) sc_L_is_shape.nd rfl (Or.inl rfl) (pe_ix (ix_M (K := g.K) rfl) (pe_ix (ix_M (K := g.K) rfl) (pv 0) (pv 8) (fun _ _ => rfl)) pe_int (fun _ _ => rfl)))) pss_nil)))
      (pss_one (ps_if (pt_cmpR op_notN (pv 8) pe_non (nomark _)) (pss_one (ps_ret pe_bl)) pss_nil))))))))
      (pss_one (ps_ret pe_bl)))))))
    ((ss_seq (ss_ifS (st_or (st_not (st_tst (se_call (isi_ok Z.CSO) (sa_cons se_var (sa_cons se_con sa_nil))))) (st_not (st_test (se_chain le_ok le_ok se_int (se_call len_ok (sa_cons se_var sa_nil)) se_int)))) (ss_ret se_bl) ss_next)
      (ss_seq (ss_asgG (se_call len_ok (sa_cons se_var sa_nil)) sg_name)
      (ss_seq (ss_for (si_walk se_var) sg_name (ss_seq (ss_ifS (st_or (st_not (st_tst (se_call (isi_ok Z.CSO) (sa_cons se_var (sa_cons se_con sa_nil))))) (st_or (st_test (se_op ne_ok (se_call len_ok (sa_cons se_var sa_nil)) se_int)) (st_not (st_tst (se_call (isi_ok Z.CSO) (sa_cons (se_op ix_ok se_var se_int) (sa_cons se_con sa_nil))))))) (ss_ret se_bl) ss_next)
      (ss_seq (ss_ifS (st_not (st_tst (se_call all_ok (sa_cons (se_frz (sl_lc (si_walk (se_sl se_var so_none (so_some se_int))) (sgv_name (by decide)) st_yes (se_or (se_op isN_okR se_var se_non) (se_defF (sa_cons se_var (sa_cons se_int (sa_cons (se_op sub_ok se_var se_int) sa_nil))))))) sa_nil)))) (ss_ret se_bl) ss_next)
      (ss_ifS (st_or (st_not (st_tst (se_def (sa_cons (se_op ix_ok se_var se_int) sa_nil)))) (st_not (st_tst (se_def (sa_cons (se_op ix_ok se_var se_int) sa_nil))))) (ss_ret se_bl) ss_next))))
      (ss_seq (ss_for (si_rng1 (sa_cons se_var sa_nil)) sg_name (ss_seq (ss_asgG (se_sl (se_op ix_ok se_var se_var) (so_some se_int) (so_some se_int)) (sg_tup (sgs_cons (fun _ _ => rfl) sg_name (sgs_cons (fun _ _ => rfl) sg_name sgs_nil))))
      (ss_seq (ss_ifS (st_and (st_test (se_op notN_okR se_var se_non)) (st_test (se_op eq_ok se_var se_var))) (ss_ret se_bl) ss_next)
      (ss_seq (ss_for (si_walk (se_frz (sl_lst (sa_cons se_var (sa_cons se_var sa_nil))))) sg_name (ss_ifS (st_and (st_test (se_op notN_okR se_var se_non)) (st_test (se_op ne_ok (se_op ix_ok (se_op ix_ok se_var se_var) se_int) se_var))) (ss_ret se_bl) ss_next))
      (ss_seq (ss_asgG se_var sg_name)
      (ss_seq (ss_for (si_rng1 (sa_cons se_var sa_nil)) sg_name (ss_ifS (st_test (se_op notN_okR se_var se_non)) (ss_asgG (se_op ix_ok (se_op ix_ok se_var se_var) se_int) sg_name) ss_next))
      (ss_ifS (st_test (se_op notN_okR se_var se_non)) (ss_ret se_bl) ss_next)))))))
      (ss_ret se_bl)))))) h
end
end W3
namespace W3
open PySem PySem.Spec PyProof.Rows L2 M3
section
variable [TabsP]
variable {P : Program} {w : World} {g : G} {mg : Str → Option Value} {base : Heap} {f_eBadForest f_eNoHouse f_eNoNumber f_eNoShape f_eNoTurn f_iForest f_iStand : Addr}
theorem ok_is_house (D : M3.Def g.K mg "is_house" s_is_house ["many", "thing"]) (T : Txt mg) (Z : Fx g w mg f_eBadForest f_eNoHouse f_eNoNumber f_eNoShape f_eNoTurn f_iForest f_iStand) (C_is_between : M3.Cal P w g.K mg base 2 "is_between" ["least", "most", "thing"] (spM g.K 3 (mPure (m_is_between g)))) : M3.Cal P w g.K mg base 3 "is_house" ["many", "thing"] (spM g.K 2 (mPure (m_is_house g))) := by
  refine M3.Cal.imp (D.cal (sp := (spM g.K 2 (m_is_house g))) sc_is_house (spM_len rfl) (fun f cdv A outer s H vs Q E hr h => ?_)) pure_ok
  exact body_all (N := ["many", "thing"]) (E := E) ((pss_one (ps_ret (pcal C_is_between hr (by omega) rfl (takes_of rfl rfl rfl rfl) (pa_cons pe_int (pa_cons (pe_op op_sub (pv 0) pe_int) (pa_cons (pv 1) pa_nil)))))))
    ((ss_ret (se_def (sa_cons se_int (sa_cons (se_op sub_ok se_var se_int) (sa_cons se_var sa_nil)))))) h
end
end W3
namespace W3
open PySem PySem.Spec PyProof.Rows L2 M3
section
variable [TabsP]
variable {P : Program} {w : World} {g : G} {mg : Str → Option Value} {base : Heap} {f_eBadForest f_eNoHouse f_eNoNumber f_eNoShape f_eNoTurn f_iForest f_iStand : Addr}
theorem ok_is_many (D : M3.Def g.K mg "is_many" s_is_many ["thing"]) (T : Txt mg) (Z : Fx g w mg f_eBadForest f_eNoHouse f_eNoNumber f_eNoShape f_eNoTurn f_iForest f_iStand) (C_is_between : M3.Cal P w g.K mg base 2 "is_between" ["least", "most", "thing"] (spM g.K 3 (mPure (m_is_between g)))) : M3.Cal P w g.K mg base 3 "is_many" ["thing"] (spM g.K 1 (mPure (m_is_many g))) := by
  obtain ⟨tk_MOST_HOUSES, h_MOST_HOUSES⟩ := T.c_MOST_HOUSES
  refine M3.Cal.imp (D.cal (sp := (spM g.K 1 (m_is_many g))) sc_is_many (spM_len rfl) (fun f cdv A outer s H vs Q E hr h => ?_)) pure_ok
  exact body_all (N := ["thing"]) (E := E) ((pss_one (ps_ret (pcal C_is_between hr (by omega) rfl (takes_of rfl rfl rfl rfl) (pa_cons pe_int (pa_cons (pe_glob (v := .int 64) rfl h_MOST_HOUSES ⟨_, rfl⟩) (pa_cons (pv 0) pa_nil)))))))
    ((ss_ret (se_def (sa_cons se_int (sa_cons se_int (sa_cons se_var sa_nil)))))) h
end
end W3
namespace W3
open PySem PySem.Spec PyProof.Rows L2 M3
section
variable [TabsP]
variable {P : Program} {w : World} {g : G} {mg : Str → Option Value} {base : Heap} {f_eBadForest f_eNoHouse f_eNoNumber f_eNoShape f_eNoTurn f_iForest f_iStand : Addr}
theorem ok_told_worths (D : M3.Def g.K mg "told_worths" s_told_worths ["stands"]) (T : Txt mg) (Z : Fx g w mg f_eBadForest f_eNoHouse f_eNoNumber f_eNoShape f_eNoTurn f_iForest f_iStand) (C_told_worth : M3.Cal P w g.K mg base 2 "_told_worth" ["stands", "house"] (spM g.K 2 (mScope (m_told_worth g)))) : M3.Cal P w g.K mg base 3 "told_worths" ["stands"] (spM g.K 1 (mScope (m_told_worths g))) := by
  refine M3.Cal.imp (D.cal (sp := (spM g.K 1 (m_told_worths g))) sc_told_worths (spM_len rfl) (fun f cdv A outer s H vs Q E hr h => ?_)) scope_ok
  exact body_all (N := ["stands", "house"]) (E := E) ((pss_one (ps_ret (pe_callTy (call_tupM (K := g.K) rfl) (by rfl) T.n_tuple (by decide +kernel) (pa_cons ((pe_lc (own := [("house", 1)]) (g := (gName 1)) (tt := tYes) (by rfl) sc_told_worths.nd (pi_range1 rfl T.n_range (pa_cons (pe_callB (call_lenM (K := g.K) rfl) (by rfl) T.n_len PySem.boot_len (pa_cons (pv 0) pa_nil)) pa_nil)) (blkOk_by (own := [("house", 1)]) (N := ["stands", "house"]) (sc := defScope s_told_worths) (by decide +kernel)) (fun _ _ _ _ _ => (pg_name (i := 1) sc_told_worths.nd rfl (Or.inl rfl))) (fun _ _ _ _ _ => pts_nil) (fun _ _ _ _ _ => (pcalF C_told_worth hr (by omega) rfl (pa_cons (pv 0) (pa_cons (pv 1) pa_nil)))))) pa_nil)))))
    ((ss_ret (se_call tuple_ok (sa_cons (se_frz (sl_lc (si_rng1 (sa_cons (se_call len_ok (sa_cons se_var sa_nil)) sa_nil)) (sgv_name (by decide)) st_yes (se_defF (sa_cons se_var (sa_cons se_var sa_nil))))) sa_nil)))) h
end
end W3
namespace W3
open PySem PySem.Spec PyProof.Rows L2 M3
section
variable [TabsP]
variable {P : Program} {w : World} {g : G} {mg : Str → Option Value} {base : Heap} {f_eBadForest f_eNoHouse f_eNoNumber f_eNoShape f_eNoTurn f_iForest f_iStand : Addr}
theorem ok_potential_of (D : M3.Def g.K mg "potential_of" s_potential_of ["stands"]) (T : Txt mg) (Z : Fx g w mg f_eBadForest f_eNoHouse f_eNoNumber f_eNoShape f_eNoTurn f_iForest f_iStand) (C_weights_of : M3.Cal P w g.K mg base 2 "_weights_of" ["stands"] (spM g.K 1 (mScope (m_weights_of g)))) (C_rank : M3.Cal P w g.K mg base 2 "rank" ["number"] (spM g.K 1 (mPure (m_rank g)))) : M3.Cal P w g.K mg base 3 "potential_of" ["stands"] (spM g.K 1 (mScope (m_potential_of g))) := by
  refine M3.Cal.imp (D.cal (sp := (spM g.K 1 (m_potential_of g))) sc_potential_of (spM_len rfl) (fun f cdv A outer s H vs Q E hr h => ?_)) scope_ok
  exact body_all (N := ["stands", "weight"]) (E := E) ((pss_one (ps_ret (pe_callB (call_sumM (K := g.K) rfl rfl) (by rfl) T.n_sum (by decide +kernel) (pa_cons ((pe_lc (own := [("weight", 1)]) (g := (gName 1)) (tt := tYes) (by rfl) sc_potential_of.nd (pi_M (K := g.K) rfl (pcal C_weights_of hr (by omega) rfl (takes_of rfl rfl rfl rfl) (pa_cons (pv 0) pa_nil))) (blkOk_by (own := [("weight", 1)]) (N := ["stands", "weight"]) (sc := defScope s_potential_of) (by decide +kernel)) (fun _ _ _ _ _ => (pg_name (i := 1) sc_potential_of.nd rfl (Or.inl rfl))) (fun _ _ _ _ _ => pts_nil) (fun _ _ _ _ _ => (pcalF C_rank hr (by omega) rfl (pa_cons (pv 1) pa_nil))))) pa_nil)))))
    ((ss_ret (se_call sum_ok (sa_cons (se_frz (sl_lc (si_walk (se_def (sa_cons se_var sa_nil))) (sgv_name (by decide)) st_yes (se_defF (sa_cons se_var sa_nil)))) sa_nil)))) h
end
end W3
namespace W3
open PySem PySem.Spec PyProof.Rows L2 M3
section
variable [TabsP]
variable {P : Program} {w : World} {g : G} {mg : Str → Option Value} {base : Heap} {f_eBadForest f_eNoHouse f_eNoNumber f_eNoShape f_eNoTurn f_iForest f_iStand : Addr}
theorem ok_L_shape (D : M3.Def g.K mg "_law_shape" s_L_shape ["hand", "many"]) (T : Txt mg) (Z : Fx g w mg f_eBadForest f_eNoHouse f_eNoNumber f_eNoShape f_eNoTurn f_iForest f_iStand) (C_L_draw : M3.Cal P w g.K mg base 1 "_law_draw" ["hand", "many"] (spM g.K 2 (mScope (m_L_draw g)))) (C_L_house : M3.Cal P w g.K mg base 1 "_law_house" ["up", "value"] (spM g.K 2 (m_L_house g))) (C_L_value : M3.Cal P w g.K mg base 2 "_law_value" ["hand"] (spM g.K 1 (mScope (m_L_value g)))) (C_L_shuffled : M3.Cal P w g.K mg base 2 "_law_shuffled" ["hand", "many"] (spM g.K 2 (mScope (m_L_shuffled g)))) : M3.Cal P w g.K mg base 3 "_law_shape" ["hand", "many"] (spM g.K 2 (mScope (m_L_shape g))) := by
  refine M3.Cal.imp (D.cal (sp := (spM g.K 2 (m_L_shape g))) sc_L_shape (spM_len rfl) (fun f cdv A outer s H vs Q E hr h => ?_)) scope_ok
  exact body_all (N := ["hand", "many", "order", "found", "house", "kind", "at", "mine", "other", "theirs", "side", "row"]) (E := E) ((pss_cons (ps_set (i := 2) sc_L_shape.nd rfl (Or.inl rfl) (pcal C_L_shuffled hr (by omega) rfl (takes_of rfl rfl rfl rfl) (pa_cons (pv 0) (pa_cons (pv 1) pa_nil))))
      (pss_cons (ps_setLc (i := 3) (own := [("house", 4)]) (g := (gName 4)) (tt := tYes) (by rfl) sc_L_shape.nd rfl rfl (sw_true rfl rfl rfl (by decide +kernel)) (pi_range1 rfl T.n_range (pa_cons (pv 1) pa_nil)) (blkOk_by (own := [("house", 4)]) (N := ["hand", "many", "order", "found", "house", "kind", "at", "mine", "other", "theirs", "side", "row"]) (sc := defScope s_L_shape) (by decide +kernel)) (fun _ _ _ _ _ => (pg_name (i := 4) sc_L_shape.nd rfl (Or.inl rfl))) (fun _ _ _ _ _ => pts_nil) (fun _ _ _ _ _ => (pcalF C_L_house hr (by omega) rfl (pa_cons pe_non (pa_cons (pcalF C_L_value hr (by omega) rfl (pa_cons (pv 0) pa_nil)) pa_nil)))))
      (pss_cons (ps_set (i := 5) sc_L_shape.nd rfl (Or.inl rfl) (pcal C_L_draw hr (by omega) rfl (takes_of rfl rfl rfl rfl) (pa_cons (pv 0) (pa_cons pe_int pa_nil))))
      (pss_cons (ps_for (passes_of rfl) rfl (pi_range1 rfl T.n_range (pa_cons (pv 1) pa_nil)) (pg_name (i := 6) sc_L_shape.nd rfl (Or.inl rfl)) (pss_cons (ps_set (i := 7) sc_L_shape.nd rfl (Or.inl rfl) (pe_ix (ix_M (K := g.K) rfl) (pv 3) (pe_ix (ix_M (K := g.K) rfl) (pv 2) (pv 6) (fun _ _ => rfl)) (fun _ _ => rfl)))
      (pss_cons (ps_asg (pe_cmpR (op_eqM (K := g.K) rfl hr.units) (pcal C_L_draw hr (by omega) rfl (takes_of rfl rfl rfl rfl) (pa_cons (pv 0) (pa_cons pe_int pa_nil))) pe_int (nomark _)) (pg_sub (pv 7) pe_int set_list))
      (pss_cons (ps_asg (pe_ix (ix_M (K := g.K) rfl) ((pe_lst (pa_cons pe_int (pa_cons pe_int (pa_cons pe_int (pa_cons pe_int (pa_cons (pe_un un_neg pe_int) (pa_cons (pe_op op_pow pe_int pe_int) pa_nil)))))))) (pcal C_L_draw hr (by omega) rfl (takes_of rfl rfl rfl rfl) (pa_cons (pv 0) (pa_cons pe_int pa_nil))) (fun _ _ => rfl)) (pg_sub (pv 7) pe_int set_list))
      (pss_one (ps_if (pt_cmpR op_gt (pv 6) pe_int (nomark _)) (pss_cons (ps_set (i := 8) sc_L_shape.nd rfl (Or.inl rfl) (pe_ix (ix_M (K := g.K) rfl) (pv 2) (pe_op op_sub (pe_op op_sub (pv 6) pe_int) (pcal C_L_draw hr (by omega) rfl (takes_of rfl rfl rfl rfl) (pa_cons (pv 0) (pa_cons (pe_ix (ix_M (K := g.K) rfl) ((pe_lst (pa_cons (pv 6) (pa_cons (pe_callB (call_minM (K := g.K) rfl rfl) (by rfl) T.n_min (by decide +kernel) (pa_cons (pv 6) (pa_cons pe_int pa_nil))) (pa_cons pe_int (pa_cons (pv 6) pa_nil)))))) (pv 5) (fun _ _ => rfl)) pa_nil)))) (fun _ _ => rfl)))
      (pss_cons (ps_set (i := 9) sc_L_shape.nd rfl (Or.inl rfl) (pe_ix (ix_M (K := g.K) rfl) (pv 3) (pv 8) (fun _ _ => rfl)))
      (pss_cons (ps_set (i := 10) sc_L_shape.nd rfl (Or.inl rfl) (pe_op (op_addM (K := g.K) rfl) pe_int (pcal C_L_draw hr (by omega) rfl (takes_of rfl rfl rfl rfl) (pa_cons (pv 0) (pa_cons pe_int pa_nil)))))
      (pss_one (ps_if (pt_cmpR op_gt (pcal C_L_draw hr (by omega) rfl (takes_of rfl rfl rfl rfl) (pa_cons (pv 0) (pa_cons pe_int pa_nil))) pe_int (nomark _)) (pss_cons (ps_asg (pv 8) (pg_sub (pv 7) pe_int set_list))
      (pss_one (ps_if (PW.pt (pw_and (pt_cmpR op_isN (pe_ix (ix_M (K := g.K) rfl) (pv 9) (pv 10) (fun _ _ => rfl)) pe_non (nomark _)) (pw_and1 (pt_cmpR op_gt (pcal C_L_draw hr (by omega) rfl (takes_of rfl rfl rfl rfl) (pa_cons (pv 0) (pa_cons pe_int pa_nil))) pe_int (nomark _))))) (pss_one (ps_asg (pe_ix (ix_M (K := g.K) rfl) (pv 2) (pv 6) (fun _ _ => rfl)) (pg_sub (pv 9) (pv 10) set_list))) pss_nil))) pss_nil))))) pss_nil))))))
      (pss_one (ps_ret (pe_callTy (call_tupM (K := g.K) rfl) (by rfl) T.n_tuple (by decide +kernel) (pa_cons ((pe_lc (own := [("row", 11)]) (g := (gName 11)) (tt := tYes) (by rfl) sc_L_shape.nd (pi_M (K := g.K) rfl (pv 3)) (blkOk_by (own := [("row", 11)]) (N := ["hand", "many", "order", "found", "house", "kind", "at", "mine", "other", "theirs", "side", "row"]) (sc := defScope s_L_shape) (by decide +kernel)) (fun _ _ _ _ _ => (pg_name (i := 11) sc_L_shape.nd rfl (Or.inl rfl))) (fun _ _ _ _ _ => pts_nil) (fun _ _ _ _ _ => (pe_callTy (call_tupM (K := g.K) rfl) (by rfl) T.n_tuple (by decide +kernel) (pa_cons (pv 11) pa_nil))))) pa_nil)))))))))
    ((ss_seq (ss_asgG (se_def (sa_cons se_var (sa_cons se_var sa_nil))) sg_name)
      (ss_seq (ss_asgG (se_trk (sl_lc (si_rng1 (sa_cons se_var sa_nil)) (sgv_name (by decide)) st_yes (se_defF (sa_cons se_non (sa_cons (se_defF (sa_cons se_var sa_nil)) sa_nil))))) sg_name)
      (ss_seq (ss_asgG (se_def (sa_cons se_var (sa_cons se_int sa_nil))) sg_name)
      (ss_seq (ss_for (si_rng1 (sa_cons se_var sa_nil)) sg_name (ss_seq (ss_asgG (se_op ix_ok se_var (se_op ix_ok se_var se_var)) sg_name)
      (ss_seq (ss_asgG (se_op eq_ok (se_def (sa_cons se_var (sa_cons se_int sa_nil))) se_int) (sg_sub se_var se_int))
      (ss_seq (ss_asgG (se_op ix_ok (se_frz (sl_lst (sa_cons se_int (sa_cons se_int (sa_cons se_int (sa_cons se_int (sa_cons (se_un neg_ok se_int) (sa_cons (se_op pow_ok se_int se_int) sa_nil)))))))) (se_def (sa_cons se_var (sa_cons se_int sa_nil)))) (sg_sub se_var se_int))
      (ss_ifS (st_test (se_op gt_ok se_var se_int)) (ss_seq (ss_asgG (se_op ix_ok se_var (se_op sub_ok (se_op sub_ok se_var se_int) (se_def (sa_cons se_var (sa_cons (se_op ix_ok (se_frz (sl_lst (sa_cons se_var (sa_cons (se_call min_ok (sa_cons se_var (sa_cons se_int sa_nil))) (sa_cons se_int (sa_cons se_var sa_nil)))))) se_var) sa_nil))))) sg_name)
      (ss_seq (ss_asgG (se_op ix_ok se_var se_var) sg_name)
      (ss_seq (ss_asgG (se_op add_ok se_int (se_def (sa_cons se_var (sa_cons se_int sa_nil)))) sg_name)
      (ss_ifS (st_test (se_op gt_ok (se_def (sa_cons se_var (sa_cons se_int sa_nil))) se_int)) (ss_seq (ss_asgG se_var (sg_sub se_var se_int))
      (ss_ifS (st_and (st_test (se_op isN_okR (se_op ix_ok se_var se_var) se_non)) (st_test (se_op gt_ok (se_def (sa_cons se_var (sa_cons se_int sa_nil))) se_int))) (ss_asgG (se_op ix_ok se_var se_var) (sg_sub se_var se_var)) ss_next)) ss_next)))) ss_next)))))
      (ss_ret (se_call tuple_ok (sa_cons (se_frz (sl_lc (si_walk se_var) (sgv_name (by decide)) st_yes (se_call tuple_ok (sa_cons se_var sa_nil)))) sa_nil)))))))) h
end
end W3
namespace W3
open PySem PySem.Spec PyProof.Rows L2 M3
section
variable [TabsP]
variable {P : Program} {w : World} {g : G} {mg : Str → Option Value} {base : Heap} {f_eBadForest f_eNoHouse f_eNoNumber f_eNoShape f_eNoTurn f_iForest f_iStand : Addr}
theorem ok_are_parents (D : M3.Def g.K mg "_are_parents" s_are_parents ["thing"]) (T : Txt mg) (Z : Fx g w mg f_eBadForest f_eNoHouse f_eNoNumber f_eNoShape f_eNoTurn f_iForest f_iStand) (C_come_to_roots : M3.Cal P w g.K mg base 1 "come_to_roots" ["parents"] (spM g.K 1 (mPure (m_come_to_roots g)))) (C_is_house : M3.Cal P w g.K mg base 3 "is_house" ["many", "thing"] (spM g.K 2 (mPure (m_is_house g)))) (C_is_many : M3.Cal P w g.K mg base 3 "is_many" ["thing"] (spM g.K 1 (mPure (m_is_many g)))) : M3.Cal P w g.K mg base 4 "_are_parents" ["thing"] (spM g.K 1 (mPure (m_are_parents g))) := by
  refine M3.Cal.imp (D.cal (sp := (spM g.K 1 (m_are_parents g))) sc_are_parents (spM_len rfl) (fun f cdv A outer s H vs Q E hr h => ?_)) pure_ok
  exact body_all (N := ["thing", "parent"]) (E := E) ((pss_cons (ps_if (PW.pt (pw_or (pt_not (pt_val (pe_callB (call_isiM (K := g.K) rfl) (by rfl) T.n_isinstance (by decide +kernel) (pa_cons (pv 0) (pa_cons (pe_bltn (v := .ty "tuple") (by rfl) T.n_tuple (by decide +kernel) rfl) pa_nil))))) (pw_or1 (pt_not (pt_val (pcal C_is_many hr (by omega) rfl (takes_of rfl rfl rfl rfl) (pa_cons (pe_callB (call_lenM (K := g.K) rfl) (by rfl) T.n_len PySem.boot_len (pa_cons (pv 0) pa_nil)) pa_nil))))))) (pss_one (ps_ret pe_bl)) pss_nil)
      (pss_cons (ps_if (pt_not (pt_val (pe_callB (call_allM (K := g.K) rfl rfl) (by rfl) T.n_all (by decide +kernel) (pa_cons ((pe_lc (own := [("parent", 1)]) (g := (gName 1)) (tt := tYes) (by rfl) sc_are_parents.nd (pi_M (K := g.K) rfl (pv 0)) (blkOk_by (own := [("parent", 1)]) (N := ["thing", "parent"]) (sc := defScope s_are_parents) (by decide +kernel)) (fun _ _ _ _ _ => (pg_name (i := 1) sc_are_parents.nd rfl (Or.inl rfl))) (fun _ _ _ _ _ => pts_nil) (fun _ _ _ _ _ => (pe_or (pe_cmpR op_isN (pv 1) pe_non (nomark _)) (pe_one (pcalF C_is_house hr (by omega) rfl (pa_cons (pe_callB (call_lenM (K := g.K) rfl) (by rfl) T.n_len PySem.boot_len (pa_cons (pv 0) pa_nil)) (pa_cons (pv 1) pa_nil)))))))) pa_nil)))) (pss_one (ps_ret pe_bl)) pss_nil)
      (pss_one (ps_ret (pcal C_come_to_roots hr (by omega) rfl (takes_of rfl rfl rfl rfl) (pa_cons (pv 0) pa_nil)))))))
    ((ss_seq (ss_ifS (st_or (st_not (st_tst (se_call (isi_ok Z.CSO) (sa_cons se_var (sa_cons se_con sa_nil))))) (st_not (st_tst (se_def (sa_cons (se_call len_ok (sa_cons se_var sa_nil)) sa_nil))))) (ss_ret se_bl) ss_next)
      (ss_seq (ss_ifS (st_not (st_tst (se_call all_ok (sa_cons (se_frz (sl_lc (si_walk se_var) (sgv_name (by decide)) st_yes (se_or (se_op isN_okR se_var se_non) (se_defF (sa_cons (se_call len_ok (sa_cons se_var sa_nil)) (sa_cons se_var sa_nil)))))) sa_nil)))) (ss_ret se_bl) ss_next)
      (ss_ret (se_def (sa_cons se_var sa_nil)))))) h
end
end W3
namespace W3
open PySem PySem.Spec PyProof.Rows L2 M3
section
variable [TabsP]
variable {P : Program} {w : World} {g : G} {mg : Str → Option Value} {base : Heap} {f_eBadForest f_eNoHouse f_eNoNumber f_eNoShape f_eNoTurn f_iForest f_iStand : Addr}
theorem ok_is_part (D : M3.Def g.K mg "_is_part" s_is_part ["many", "thing"]) (T : Txt mg) (Z : Fx g w mg f_eBadForest f_eNoHouse f_eNoNumber f_eNoShape f_eNoTurn f_iForest f_iStand) (C_is_integer : M3.Cal P w g.K mg base 1 "is_integer" ["thing"] (spM g.K 1 (mPure (m_is_integer g)))) (C_is_house : M3.Cal P w g.K mg base 3 "is_house" ["many", "thing"] (spM g.K 2 (mPure (m_is_house g)))) : M3.Cal P w g.K mg base 4 "_is_part" ["many", "thing"] (spM g.K 2 (mPure (m_is_part g))) := by
  refine M3.Cal.imp (D.cal (sp := (spM g.K 2 (m_is_part g))) sc_is_part (spM_len rfl) (fun f cdv A outer s H vs Q E hr h => ?_)) pure_ok
  exact body_all (N := ["many", "thing", "near"]) (E := E) ((pss_cons (ps_if (PW.pt (pw_or (pt_not (pt_val (pe_callB (call_isiM (K := g.K) rfl) (by rfl) T.n_isinstance (by decide +kernel) (pa_cons (pv 1) (pa_cons (pe_bltn (v := .ty "tuple") (by rfl) T.n_tuple (by decide +kernel) rfl) pa_nil))))) (pw_or1 (pt_cmpR (op_neM (K := g.K) rfl hr.units) (pe_callB (call_lenM (K := g.K) rfl) (by rfl) T.n_len PySem.boot_len (pa_cons (pv 1) pa_nil)) pe_int (nomark _))))) (pss_one (ps_ret pe_bl)) pss_nil)
      (pss_cons (ps_if (pt_not (pt_val (pe_callB (call_allM (K := g.K) rfl rfl) (by rfl) T.n_all (by decide +kernel) (pa_cons ((pe_lc (own := [("near", 2)]) (g := (gName 2)) (tt := tYes) (by rfl) sc_is_part.nd (pi_M (K := g.K) rfl (pe_slice (sl_M (K := g.K) rfl) (pv 1) po_none (po_some pe_int))) (blkOk_by (own := [("near", 2)]) (N := ["many", "thing", "near"]) (sc := defScope s_is_part) (by decide +kernel)) (fun _ _ _ _ _ => (pg_name (i := 2) sc_is_part.nd rfl (Or.inl rfl))) (fun _ _ _ _ _ => pts_nil) (fun _ _ _ _ _ => (pe_or (pe_cmpR op_isN (pv 2) pe_non (nomark _)) (pe_one (pcalF C_is_house hr (by omega) rfl (pa_cons (pv 0) (pa_cons (pv 2) pa_nil)))))))) pa_nil)))) (pss_one (ps_ret pe_bl)) pss_nil)
      (pss_one (ps_ret (pe_and (pe_callB (call_isiM (K := g.K) rfl) (by rfl) T.n_isinstance (by decide +kernel) (pa_cons (pe_ix (ix_M (K := g.K) rfl) (pv 1) pe_int (fun _ _ => rfl)) (pa_cons (pe_bltn (v := .ty "bool") (by rfl) T.n_bool (by decide +kernel) rfl) pa_nil))) (pe_and (pcal C_is_integer hr (by omega) rfl (takes_of rfl rfl rfl rfl) (pa_cons (pe_ix (ix_M (K := g.K) rfl) (pv 1) pe_int (fun _ _ => rfl)) pa_nil)) (pe_one (pcal C_is_integer hr (by omega) rfl (takes_of rfl rfl rfl rfl) (pa_cons (pe_ix (ix_M (K := g.K) rfl) (pv 1) pe_int (fun _ _ => rfl)) pa_nil))))))))))
    ((ss_seq (ss_ifS (st_or (st_not (st_tst (se_call (isi_ok Z.CSO) (sa_cons se_var (sa_cons se_con sa_nil))))) (st_test (se_op ne_ok (se_call len_ok (sa_cons se_var sa_nil)) se_int))) (ss_ret se_bl) ss_next)
      (ss_seq (ss_ifS (st_not (st_tst (se_call all_ok (sa_cons (se_frz (sl_lc (si_walk (se_sl se_var so_none (so_some se_int))) (sgv_name (by decide)) st_yes (se_or (se_op isN_okR se_var se_non) (se_defF (sa_cons se_var (sa_cons se_var sa_nil)))))) sa_nil)))) (ss_ret se_bl) ss_next)
      (ss_ret (se_and (se_call (isi_ok Z.CSO) (sa_cons (se_op ix_ok se_var se_int) (sa_cons se_con sa_nil))) (se_and (se_def (sa_cons (se_op ix_ok se_var se_int) sa_nil)) (se_def (sa_cons (se_op ix_ok se_var se_int) sa_nil)))))))) h
end
end W3
namespace W3
open PySem PySem.Spec PyProof.Rows L2 M3
section
variable [TabsP]
variable {P : Program} {w : World} {g : G} {mg : Str → Option Value} {base : Heap} {f_eBadForest f_eNoHouse f_eNoNumber f_eNoShape f_eNoTurn f_iForest f_iStand : Addr}
theorem ok_need_house (D : M3.Def g.K mg "need_house" s_need_house ["stands", "thing"]) (T : Txt mg) (Z : Fx g w mg f_eBadForest f_eNoHouse f_eNoNumber f_eNoShape f_eNoTurn f_iForest f_iStand) (C_is_house : M3.Cal P w g.K mg base 3 "is_house" ["many", "thing"] (spM g.K 2 (mPure (m_is_house g)))) : M3.Cal P w g.K mg base 4 "need_house" ["stands", "thing"] (spM g.K 2 (mScope (m_need_house g))) := by
  refine M3.Cal.imp (D.cal (sp := (spM g.K 2 (m_need_house g))) sc_need_house (spM_len rfl) (fun f cdv A outer s H vs Q E hr h => ?_)) scope_ok
  exact body_all (N := ["stands", "thing"]) (E := E) ((pss_one (ps_if (pt_not (pt_val (pcal C_is_house hr (by omega) rfl (takes_of rfl rfl rfl rfl) (pa_cons (pe_callB (call_lenM (K := g.K) rfl) (by rfl) T.n_len PySem.boot_len (pa_cons (pv 0) pa_nil)) (pa_cons (pv 1) pa_nil))))) (pss_one (ps_raise_NoHouse rfl Z.NoHouse hr (takes_of rfl rfl rfl rfl))) pss_nil)))
    ((ss_ifS (st_not (st_tst (se_def (sa_cons (se_call len_ok (sa_cons se_var sa_nil)) (sa_cons se_var sa_nil))))) ss_raise0 ss_next)) h
end
end W3
namespace W3
open PySem PySem.Spec PyProof.Rows L2 M3
section
variable [TabsP]
variable {P : Program} {w : World} {g : G} {mg : Str → Option Value} {base : Heap} {f_eBadForest f_eNoHouse f_eNoNumber f_eNoShape f_eNoTurn f_iForest f_iStand : Addr}
theorem ok_is_shape (D : M3.Def g.K mg "is_shape" s_is_shape ["thing"]) (T : Txt mg) (Z : Fx g w mg f_eBadForest f_eNoHouse f_eNoNumber f_eNoShape f_eNoTurn f_iForest f_iStand) (C_come_to_roots : M3.Cal P w g.K mg base 1 "come_to_roots" ["parents"] (spM g.K 1 (mPure (m_come_to_roots g)))) (C_has_its_sons : M3.Cal P w g.K mg base 1 "_has_its_sons" ["parts", "house"] (spM g.K 2 (mPure (m_has_its_sons g)))) (C_is_part : M3.Cal P w g.K mg base 4 "_is_part" ["many", "thing"] (spM g.K 2 (mPure (m_is_part g)))) (C_is_many : M3.Cal P w g.K mg base 3 "is_many" ["thing"] (spM g.K 1 (mPure (m_is_many g)))) : M3.Cal P w g.K mg base 5 "is_shape" ["thing"] (spM g.K 1 (mPure (m_is_shape g))) := by
  refine M3.Cal.imp (D.cal (sp := (spM g.K 1 (m_is_shape g))) sc_is_shape (spM_len rfl) (fun f cdv A outer s H vs Q E hr h => ?_)) pure_ok
  exact body_all (N := ["thing", "part", "house"]) (E := E) ((pss_cons (ps_if (PW.pt (pw_or (pt_not (pt_val (pe_callB (call_isiM (K := g.K) rfl) (by rfl) T.n_isinstance (by decide +kernel) (pa_cons (pv 0) (pa_cons (pe_bltn (v := .ty "tuple") (by rfl) T.n_tuple (by decide +kernel) rfl) pa_nil))))) (pw_or1 (pt_not (pt_val (pcal C_is_many hr (by omega) rfl (takes_of rfl rfl rfl rfl) (pa_cons (pe_callB (call_lenM (K := g.K) rfl) (by rfl) T.n_len PySem.boot_len (pa_cons (pv 0) pa_nil)) pa_nil))))))) (pss_one (ps_ret pe_bl)) pss_nil)
      (pss_cons (ps_if (pt_not (pt_val (pe_callB (call_allM (K := g.K) rfl rfl) (by rfl) T.n_all (by decide +kernel) (pa_cons ((pe_lc (own := [("part", 1)]) (g := (gName 1)) (tt := tYes) (by rfl) sc_is_shape.nd (pi_M (K := g.K) rfl (pv 0)) (blkOk_by (own := [("part", 1)]) (N := ["thing", "part", "house"]) (sc := defScope s_is_shape) (by decide +kernel)) (fun _ _ _ _ _ => (pg_name (i := 1) sc_is_shape.nd rfl (Or.inl rfl))) (fun _ _ _ _ _ => pts_nil) (fun _ _ _ _ _ => (pcalF C_is_part hr (by omega) rfl (pa_cons (pe_callB (call_lenM (K := g.K) rfl) (by rfl) T.n_len PySem.boot_len (pa_cons (pv 0) pa_nil)) (pa_cons (pv 1) pa_nil)))))) pa_nil)))) (pss_one (ps_ret pe_bl)) pss_nil)
      (pss_cons (ps_if (pt_not (pt_val (pe_callB (call_allM (K := g.K) rfl rfl) (by rfl) T.n_all (by decide +kernel) (pa_cons ((pe_lc (own := [("house", 2)]) (g := (gName 2)) (tt := tYes) (by rfl) sc_is_shape.nd (pi_range1 rfl T.n_range (pa_cons (pe_callB (call_lenM (K := g.K) rfl) (by rfl) T.n_len PySem.boot_len (pa_cons (pv 0) pa_nil)) pa_nil)) (blkOk_by (own := [("house", 2)]) (N := ["thing", "part", "house"]) (sc := defScope s_is_shape) (by decide +kernel)) (fun _ _ _ _ _ => (pg_name (i := 2) sc_is_shape.nd rfl (Or.inl rfl))) (fun _ _ _ _ _ => pts_nil) (fun _ _ _ _ _ => (pcalF C_has_its_sons hr (by omega) rfl (pa_cons (pv 0) (pa_cons (pv 2) pa_nil)))))) pa_nil)))) (pss_one (ps_ret pe_bl)) pss_nil)
      (pss_one (ps_ret (pcal C_come_to_roots hr (by omega) rfl (takes_of rfl rfl rfl rfl) (pa_cons (pe_callTy (call_tupM (K := g.K) rfl) (by rfl) T.n_tuple (by decide +kernel) (pa_cons ((pe_lc (own := [("part", 1)]) (g := (gName 1)) (tt := tYes) (by rfl) sc_is_shape.nd (pi_M (K := g.K) rfl (pv 0)) (blkOk_by (own := [("part", 1)]) (N := ["thing", "part", "house"]) (sc := defScope s_is_shape) (by decide +kernel)) (fun _ _ _ _ _ => (pg_name (i := 1) sc_is_shape.nd rfl (Or.inl rfl))) (fun _ _ _ _ _ => pts_nil) (fun _ _ _ _ _ => (pe_ix (ix_M (K := g.K) rfl) (pv 1) pe_int (fun _ _ => rfl))))) pa_nil)) pa_nil))))))))
    ((ss_seq (ss_ifS (st_or (st_not (st_tst (se_call (isi_ok Z.CSO) (sa_cons se_var (sa_cons se_con sa_nil))))) (st_not (st_tst (se_def (sa_cons (se_call len_ok (sa_cons se_var sa_nil)) sa_nil))))) (ss_ret se_bl) ss_next)
      (ss_seq (ss_ifS (st_not (st_tst (se_call all_ok (sa_cons (se_frz (sl_lc (si_walk se_var) (sgv_name (by decide)) st_yes (se_defF (sa_cons (se_call len_ok (sa_cons se_var sa_nil)) (sa_cons se_var sa_nil))))) sa_nil)))) (ss_ret se_bl) ss_next)
      (ss_seq (ss_ifS (st_not (st_tst (se_call all_ok (sa_cons (se_frz (sl_lc (si_rng1 (sa_cons (se_call len_ok (sa_cons se_var sa_nil)) sa_nil)) (sgv_name (by decide)) st_yes (se_defF (sa_cons se_var (sa_cons se_var sa_nil))))) sa_nil)))) (ss_ret se_bl) ss_next)
      (ss_ret (se_def (sa_cons (se_call tuple_ok (sa_cons (se_frz (sl_lc (si_walk se_var) (sgv_name (by decide)) st_yes (se_op ix_ok se_var se_int))) sa_nil)) sa_nil))))))) h
end
end W3
namespace W3
open PySem PySem.Spec PyProof.Rows L2 M3
section
variable [TabsP]
variable {P : Program} {w : World} {g : G} {mg : Str → Option Value} {base : Heap} {f_eBadForest f_eNoHouse f_eNoNumber f_eNoShape f_eNoTurn f_iForest f_iStand : Addr}
theorem ok_stands_of (D : M3.Def g.K mg "stands_of" s_stands_of ["shape"]) (T : Txt mg) (Z : Fx g w mg f_eBadForest f_eNoHouse f_eNoNumber f_eNoShape f_eNoTurn f_iForest f_iStand) {fd_Stand_init : FuncData} (F_Stand_init : FnOk P w g.K mg base (L2.CX P w) 1 f_iStand fd_Stand_init ["self", "part"] (spM g.K 2 (m_Stand_init g))) (B_Stand_init : Binds g.K fd_Stand_init ["self", "part"] []) (C_is_shape : M3.Cal P w g.K mg base 5 "is_shape" ["thing"] (spM g.K 1 (mPure (m_is_shape g)))) : M3.Cal P w g.K mg base 6 "stands_of" ["shape"] (spM g.K 1 (m_stands_of g)) := by
  refine M3.Cal.mono (D.cal (sp := (spM g.K 1 (m_stands_of g))) sc_stands_of (spM_len rfl) (fun f cdv A outer s H vs Q E hr h => ?_)) (Nat.le_refl _)
  exact body_all (N := ["shape", "part"]) (E := E) ((pss_cons (ps_if (pt_not (pt_val (pcal C_is_shape hr (by omega) rfl (takes_of rfl rfl rfl rfl) (pa_cons (pv 0) pa_nil)))) (pss_one (ps_raise_NoShape rfl Z.NoShape hr (takes_of rfl rfl rfl rfl))) pss_nil)
      (pss_one (ps_ret (pe_lc (own := [("part", 1)]) (g := (gName 1)) (tt := tYes) (by rfl) sc_stands_of.nd (pi_M (K := g.K) rfl (pv 0)) (blkOk_by (own := [("part", 1)]) (N := ["shape", "part"]) (sc := defScope s_stands_of) (by decide +kernel)) (fun _ _ _ _ _ => (pg_name (i := 1) sc_stands_of.nd rfl (Or.inl rfl))) (fun _ _ _ _ _ => pts_nil) (fun _ _ _ _ _ => (pe_makeF Z.mk_Stand F_Stand_init (hr.mono (by omega)) rfl Z.Stand B_Stand_init (pa_cons (pv 1) pa_nil))))))))
    ((ss_seq (ss_ifS (st_not (st_tst (se_def (sa_cons se_var sa_nil)))) ss_raise0 ss_next)
      (ss_ret (se_trk (sl_lc (si_walk se_var) (sgv_name (by decide)) st_yes (se_newF (cr_Stand_ok g) (sa_cons se_var sa_nil))))))) h
end
end W3
namespace W3
open PySem PySem.Spec PyProof.Rows L2 M3
section
variable [TabsP]
variable {P : Program} {w : World} {g : G} {mg : Str → Option Value} {base : Heap} {f_eBadForest f_eNoHouse f_eNoNumber f_eNoShape f_eNoTurn f_iForest f_iStand : Addr}
theorem ok_weights (D : M3.Def g.K mg "weights" s_weights ["shape"]) (T : Txt mg) (Z : Fx g w mg f_eBadForest f_eNoHouse f_eNoNumber f_eNoShape f_eNoTurn f_iForest f_iStand) (C_weights_of : M3.Cal P w g.K mg base 2 "_weights_of" ["stands"] (spM g.K 1 (mScope (m_weights_of g)))) (C_stands_of : M3.Cal P w g.K mg base 6 "stands_of" ["shape"] (spM g.K 1 (m_stands_of g))) : M3.Cal P w g.K mg base 7 "weights" ["shape"] (spM g.K 1 (mPure (m_weights g))) := by
  refine M3.Cal.imp (D.cal (sp := (spM g.K 1 (m_weights g))) sc_weights (spM_len rfl) (fun f cdv A outer s H vs Q E hr h => ?_)) pure_ok
  exact body_all (N := ["shape"]) (E := E) ((pss_one (ps_ret (pcal C_weights_of hr (by omega) rfl (takes_of rfl rfl rfl rfl) (pa_cons (pcal C_stands_of hr (by omega) rfl (takes_of rfl rfl rfl rfl) (pa_cons (pv 0) pa_nil)) pa_nil)))))
    ((ss_ret (se_def (sa_cons (se_def (sa_cons se_var sa_nil)) sa_nil)))) h
end
end W3
namespace W3
open PySem PySem.Spec PyProof.Rows L2 M3
section
variable [TabsP]
variable {P : Program} {w : World} {g : G} {mg : Str → Option Value} {base : Heap} {f_eBadForest f_eNoHouse f_eNoNumber f_eNoShape f_eNoTurn f_iForest f_iStand : Addr}
theorem ok_potential (D : M3.Def g.K mg "potential" s_potential ["shape"]) (T : Txt mg) (Z : Fx g w mg f_eBadForest f_eNoHouse f_eNoNumber f_eNoShape f_eNoTurn f_iForest f_iStand) (C_potential_of : M3.Cal P w g.K mg base 3 "potential_of" ["stands"] (spM g.K 1 (mScope (m_potential_of g)))) (C_stands_of : M3.Cal P w g.K mg base 6 "stands_of" ["shape"] (spM g.K 1 (m_stands_of g))) : M3.Cal P w g.K mg base 7 "potential" ["shape"] (spM g.K 1 (mPure (m_potential g))) := by
  refine M3.Cal.imp (D.cal (sp := (spM g.K 1 (m_potential g))) sc_potential (spM_len rfl) (fun f cdv A outer s H vs Q E hr h => ?_)) pure_ok
  exact body_all (N := ["shape"]) (E := E) ((pss_one (ps_ret (pcal C_potential_of hr (by omega) rfl (takes_of rfl rfl rfl rfl) (pa_cons (pcal C_stands_of hr (by omega) rfl (takes_of rfl rfl rfl rfl) (pa_cons (pv 0) pa_nil)) pa_nil)))))
    ((ss_ret (se_def (sa_cons (se_def (sa_cons se_var sa_nil)) sa_nil)))) h
end
end W3
namespace W3
open PySem PySem.Spec PyProof.Rows L2 M3
section
variable [TabsP]
variable {P : Program} {w : World} {g : G} {mg : Str → Option Value} {base : Heap} {f_eBadForest f_eNoHouse f_eNoNumber f_eNoShape f_eNoTurn f_iForest f_iStand : Addr}
theorem ok_handed_on (D : M3.Def g.K mg "handed_on" s_handed_on ["shape", "house"]) (T : Txt mg) (Z : Fx g w mg f_eBadForest f_eNoHouse f_eNoNumber f_eNoShape f_eNoTurn f_iForest f_iStand) (C_shape_of : M3.Cal P w g.K mg base 1 "shape_of" ["stands"] (spM g.K 1 (mScope (m_shape_of g)))) (C_hand_on : M3.Cal P w g.K mg base 1 "hand_on" ["stands", "house"] (spM g.K 2 (mScope (m_hand_on g)))) (C_need_house : M3.Cal P w g.K mg base 4 "need_house" ["stands", "thing"] (spM g.K 2 (mScope (m_need_house g)))) (C_stands_of : M3.Cal P w g.K mg base 6 "stands_of" ["shape"] (spM g.K 1 (m_stands_of g))) : M3.Cal P w g.K mg base 7 "handed_on" ["shape", "house"] (spM g.K 2 (mPure (m_handed_on g))) := by
  refine M3.Cal.imp (D.cal (sp := (spM g.K 2 (m_handed_on g))) sc_handed_on (spM_len rfl) (fun f cdv A outer s H vs Q E hr h => ?_)) pure_ok
  exact body_all (N := ["shape", "house", "stands"]) (E := E) ((pss_cons (ps_set (i := 2) sc_handed_on.nd rfl (Or.inl rfl) (pcal C_stands_of hr (by omega) rfl (takes_of rfl rfl rfl rfl) (pa_cons (pv 0) pa_nil)))
      (pss_cons (ps_expr (pcal C_need_house hr (by omega) rfl (takes_of rfl rfl rfl rfl) (pa_cons (pv 2) (pa_cons (pv 1) pa_nil))))
      (pss_cons (ps_expr (pcal C_hand_on hr (by omega) rfl (takes_of rfl rfl rfl rfl) (pa_cons (pv 2) (pa_cons (pv 1) pa_nil))))
      (pss_one (ps_ret (pcal C_shape_of hr (by omega) rfl (takes_of rfl rfl rfl rfl) (pa_cons (pv 2) pa_nil))))))))
    ((ss_seq (ss_asgG (se_def (sa_cons se_var sa_nil)) sg_name)
      (ss_seq (ss_drop (se_def (sa_cons se_var (sa_cons se_var sa_nil))))
      (ss_seq (ss_drop (se_def (sa_cons se_var (sa_cons se_var sa_nil))))
      (ss_ret (se_def (sa_cons se_var sa_nil))))))) h
end
end W3
namespace W3
open PySem PySem.Spec PyProof.Rows L2 M3
section
variable [TabsP]
variable {P : Program} {w : World} {g : G} {mg : Str → Option Value} {base : Heap} {f_eBadForest f_eNoHouse f_eNoNumber f_eNoShape f_eNoTurn f_iForest f_iStand : Addr}
theorem ok_turned_up (D : M3.Def g.K mg "turned_up" s_turned_up ["shape", "house"]) (T : Txt mg) (Z : Fx g w mg f_eBadForest f_eNoHouse f_eNoNumber f_eNoShape f_eNoTurn f_iForest f_iStand) (C_shape_of : M3.Cal P w g.K mg base 1 "shape_of" ["stands"] (spM g.K 1 (mScope (m_shape_of g)))) (C_turn_up : M3.Cal P w g.K mg base 2 "turn_up" ["stands", "house"] (spM g.K 2 (mScope (m_turn_up g)))) (C_is_top : M3.Cal P w g.K mg base 1 "is_top" ["stands", "house"] (spM g.K 2 (mScope (m_is_top g)))) (C_need_house : M3.Cal P w g.K mg base 4 "need_house" ["stands", "thing"] (spM g.K 2 (mScope (m_need_house g)))) (C_stands_of : M3.Cal P w g.K mg base 6 "stands_of" ["shape"] (spM g.K 1 (m_stands_of g))) : M3.Cal P w g.K mg base 7 "turned_up" ["shape", "house"] (spM g.K 2 (mPure (m_turned_up g))) := by
  refine M3.Cal.imp (D.cal (sp := (spM g.K 2 (m_turned_up g))) sc_turned_up (spM_len rfl) (fun f cdv A outer s H vs Q E hr h => ?_)) pure_ok
  exact body_all (N := ["shape", "house", "stands"]) (E := E) ((pss_cons (ps_set (i := 2) sc_turned_up.nd rfl (Or.inl rfl) (pcal C_stands_of hr (by omega) rfl (takes_of rfl rfl rfl rfl) (pa_cons (pv 0) pa_nil)))
      (pss_cons (ps_expr (pcal C_need_house hr (by omega) rfl (takes_of rfl rfl rfl rfl) (pa_cons (pv 2) (pa_cons (pv 1) pa_nil))))
      (pss_cons (ps_if (pt_val (pcal C_is_top hr (by omega) rfl (takes_of rfl rfl rfl rfl) (pa_cons (pv 2) (pa_cons (pv 1) pa_nil)))) (pss_one (ps_raise_NoTurn rfl Z.NoTurn hr (takes_of rfl rfl rfl rfl))) pss_nil)
      (pss_cons (ps_expr (pcal C_turn_up hr (by omega) rfl (takes_of rfl rfl rfl rfl) (pa_cons (pv 2) (pa_cons (pv 1) pa_nil))))
      (pss_one (ps_ret (pcal C_shape_of hr (by omega) rfl (takes_of rfl rfl rfl rfl) (pa_cons (pv 2) pa_nil)))))))))
    ((ss_seq (ss_asgG (se_def (sa_cons se_var sa_nil)) sg_name)
      (ss_seq (ss_drop (se_def (sa_cons se_var (sa_cons se_var sa_nil))))
      (ss_seq (ss_ifS (st_tst (se_def (sa_cons se_var (sa_cons se_var sa_nil)))) ss_raise0 ss_next)
      (ss_seq (ss_drop (se_def (sa_cons se_var (sa_cons se_var sa_nil))))
      (ss_ret (se_def (sa_cons se_var sa_nil)))))))) h
end
end W3
namespace W3
open PySem PySem.Spec PyProof.Rows L2 M3
section
variable [TabsP]
variable {P : Program} {w : World} {g : G} {mg : Str → Option Value} {base : Heap} {f_eBadForest f_eNoHouse f_eNoNumber f_eNoShape f_eNoTurn f_iForest f_iStand : Addr}
theorem ok_L_odd_shape (D : M3.Def g.K mg "_law_odd_shape" s_L_odd_shape ["hand", "shape"]) (T : Txt mg) (Z : Fx g w mg f_eBadForest f_eNoHouse f_eNoNumber f_eNoShape f_eNoTurn f_iForest f_iStand) (C_L_draw : M3.Cal P w g.K mg base 1 "_law_draw" ["hand", "many"] (spM g.K 2 (mScope (m_L_draw g)))) {fd_Forest_init : FuncData} (F_Forest_init : FnOk P w g.K mg base (L2.CX P w) 5 f_iForest fd_Forest_init ["self", "parents", "worths"] (spM g.K 3 (m_Forest_init g))) (B_Forest_init : Binds g.K fd_Forest_init ["self", "parents", "worths"] []) (C_L_deep : M3.Cal P w g.K mg base 2 "_law_deep" ["hand"] (spM g.K 1 (mScope (m_L_deep g)))) : M3.Cal P w g.K mg base 7 "_law_odd_shape" ["hand", "shape"] (spM g.K 2 (mScope (m_L_odd_shape g))) := by
  refine M3.Cal.imp (D.cal (sp := (spM g.K 2 (m_L_odd_shape g))) sc_L_odd_shape (spM_len rfl) (fun f cdv A outer s H vs Q E hr h => ?_)) scope_ok
  exact body_all (N := ["hand", "shape", "house", "row", "other", "bent", "near", "some"]) (E := E) ((pss_cons (ps_set (i := 2) sc_L_odd_shape.nd rfl (Or.inl rfl) (pcal C_L_draw hr (by omega) rfl (takes_of rfl rfl rfl rfl) (pa_cons (pv 0) (pa_cons (pe_callB (call_lenM (K := g.K) rfl) (by rfl) T.n_len PySem.boot_len (pa_cons (pv 1) pa_nil)) pa_nil))))
      (pss_cons (ps_set (i := 3) sc_L_odd_shape.nd rfl (Or.inl rfl) (pe_ix (ix_M (K := g.K) rfl) (pv 1) (pv 2) (fun _ _ => rfl)))
      (pss_cons (ps_set (i := 4) sc_L_odd_shape.nd rfl (Or.inl rfl) (pe_op (op_addM (K := g.K) rfl) (pe_op (op_addM (K := g.K) rfl) (pe_slice (sl_M (K := g.K) rfl) (pv 3) po_none (po_some pe_int)) (pe_tup (pa_cons (pv 2) pa_nil))) (pe_slice (sl_M (K := g.K) rfl) (pv 3) (po_some pe_int) po_none)))
      (pss_cons (ps_set (i := 5) sc_L_odd_shape.nd rfl (Or.inl rfl) ((pe_lst (pa_cons (pe_op (op_addM (K := g.K) rfl) (pe_tup (pa_cons (pv 2) pa_nil)) (pe_slice (sl_M (K := g.K) rfl) (pv 3) (po_some pe_int) po_none)) (pa_cons (pv 4) (pa_cons (pe_op (op_addM (K := g.K) rfl) (pe_op (op_addM (K := g.K) rfl) (pe_slice (sl_M (K := g.K) rfl) (pv 3) po_none (po_some pe_int)) (pe_tup (pa_cons pe_int pa_nil))) (pe_slice (sl_M (K := g.K) rfl) (pv 3) (po_some pe_int) po_none)) (pa_cons (pe_op (op_addM (K := g.K) rfl) (pe_slice (sl_M (K := g.K) rfl) (pv 3) po_none (po_some pe_int)) (pe_tup (pa_cons pe_bl pa_nil))) (pa_cons ((pe_callTy (call_listM (K := g.K) rfl) (by rfl) T.n_list (by decide +kernel) (pa_cons (pv 3) pa_nil))) (pa_cons (pe_slice (sl_M (K := g.K) rfl) (pv 3) po_none (po_some pe_int)) pa_nil)))))))))
      (pss_cons (ps_set (i := 6) sc_L_odd_shape.nd rfl (Or.inl rfl) (pe_op (op_addM (K := g.K) rfl) (pe_op (op_addM (K := g.K) rfl) (pe_slice (sl_M (K := g.K) rfl) (pv 1) po_none (po_some (pv 2))) (pe_tup (pa_cons (pe_ix (ix_M (K := g.K) rfl) (pv 5) (pcal C_L_draw hr (by omega) rfl (takes_of rfl rfl rfl rfl) (pa_cons (pv 0) (pa_cons pe_int pa_nil))) (fun _ _ => rfl)) pa_nil))) (pe_slice (sl_M (K := g.K) rfl) (pv 1) (po_some (pe_op (op_addM (K := g.K) rfl) (pv 2) pe_int)) po_none)))
      (pss_cons (ps_set (i := 7) sc_L_odd_shape.nd rfl (Or.inl rfl) (pe_lst (pa_cons (pv 1) (pa_cons (pv 1) (pa_cons (pv 1) (pa_cons (pv 6) (pa_cons (pv 6) (pa_cons ((pe_callTy (call_listM (K := g.K) rfl) (by rfl) T.n_list (by decide +kernel) (pa_cons (pv 1) pa_nil))) (pa_cons pe_non (pa_cons (pe_tup pa_nil) (pa_cons pe_int (pa_cons (pe_op (op_mulM (K := g.K) rfl) (pv 1) pe_int) (pa_cons (pcal C_L_deep hr (by omega) rfl (takes_of rfl rfl rfl rfl) (pa_cons (pv 0) pa_nil)) pa_nil)))))))))))))
      (pss_cons (ps_expr (pe_bmK (K := g.K) rfl PySem.F.plainAttrs_list PySem.F.slot_list_append PySem.F.type_list_append mt_append (pv 7) (pa_cons (pe_makeS Z.mk_Forest F_Forest_init (hr.mono (by omega)) rfl Z.Forest B_Forest_init (fun σ => passAt (takes_of rfl rfl rfl rfl) σ) (pa_cons (pe_tup (pa_cons pe_non pa_nil)) (pa_cons (pe_tup (pa_cons pe_int pa_nil)) pa_nil))) pa_nil)))
      (pss_one (ps_ret (pe_ix (ix_M (K := g.K) rfl) (pv 7) (pcal C_L_draw hr (by omega) rfl (takes_of rfl rfl rfl rfl) (pa_cons (pv 0) (pa_cons pe_int pa_nil))) (fun _ _ => rfl))))))))))))
    ((ss_seq (ss_asgG (se_def (sa_cons se_var (sa_cons (se_call len_ok (sa_cons se_var sa_nil)) sa_nil))) sg_name)
      (ss_seq (ss_asgG (se_op ix_ok se_var se_var) sg_name)
      (ss_seq (ss_asgG (se_op add_ok (se_op add_ok (se_sl se_var so_none (so_some se_int)) (se_tup (sa_cons se_var sa_nil))) (se_sl se_var (so_some se_int) so_none)) sg_name)
      (ss_seq (ss_asgG (se_frz (sl_lst (sa_cons (se_op add_ok (se_tup (sa_cons se_var sa_nil)) (se_sl se_var (so_some se_int) so_none)) (sa_cons se_var (sa_cons (se_op add_ok (se_op add_ok (se_sl se_var so_none (so_some se_int)) (se_tup (sa_cons se_int sa_nil))) (se_sl se_var (so_some se_int) so_none)) (sa_cons (se_op add_ok (se_sl se_var so_none (so_some se_int)) (se_tup (sa_cons se_bl sa_nil))) (sa_cons (se_frz (sl_list (sa_cons se_var sa_nil))) (sa_cons (se_sl se_var so_none (so_some se_int)) sa_nil)))))))) sg_name)
      (ss_seq (ss_asgG (se_op add_ok (se_op add_ok (se_sl se_var so_none (so_some se_var)) (se_tup (sa_cons (se_op ix_ok se_var (se_def (sa_cons se_var (sa_cons se_int sa_nil)))) sa_nil))) (se_sl se_var (so_some (se_op add_ok se_var se_int)) so_none)) sg_name)
      (ss_seq (ss_asgG (se_trk (sl_lst (sa_cons se_var (sa_cons se_var (sa_cons se_var (sa_cons se_var (sa_cons se_var (sa_cons (se_frz (sl_list (sa_cons se_var sa_nil))) (sa_cons se_non (sa_cons (se_tup sa_nil) (sa_cons se_int (sa_cons (se_op mul_ok se_var se_int) (sa_cons (se_def (sa_cons se_var sa_nil)) sa_nil))))))))))))) sg_name)
      (ss_seq (ss_drop (se_bm append_ok se_var (sa_cons (se_new (cr_Forest_ok g) (sa_cons (se_tup (sa_cons se_non sa_nil)) (sa_cons (se_tup (sa_cons se_int sa_nil)) sa_nil))) sa_nil)))
      (ss_ret (se_op ix_ok se_var (se_def (sa_cons se_var (sa_cons se_int sa_nil))))))))))))) h
end
end W3
namespace W3
open PySem PySem.Spec PyProof.Rows L2 M3
section
variable [TabsP]
variable {P : Program} {w : World} {g : G} {mg : Str → Option Value} {base : Heap} {f_eBadForest f_eNoHouse f_eNoNumber f_eNoShape f_eNoTurn f_iForest f_iStand : Addr}
theorem ok_part_in_order (D : M3.Def g.K mg "_part_in_order" s_part_in_order ["stands", "house", "backwards"]) (T : Txt mg) (Z : Fx g w mg f_eBadForest f_eNoHouse f_eNoNumber f_eNoShape f_eNoTurn f_iForest f_iStand) : ∀ d : Nat, M3.Cal P w g.K mg base (1 + d) "_part_in_order" ["stands", "house", "backwards"] (spM g.K 3 (mScope (m_part_in_order g d))) := by
  intro d
  induction d with
  | zero =>
    obtain ⟨f, fd, F, hm, b⟩ := D.ex
    exact M3.Cal.imp (sp := (spM g.K 3 (m_part_in_order g 0))) ⟨f, fd, ⟨spM_len rfl, fun A outer s H args us vs Q E _ _ _ _ h => (spM_fail h).elim⟩, hm, F.kp, b⟩ scope_ok
  | succ d C_part_in_order =>
    refine M3.Cal.imp (D.cal (k := 1 + d) (sp := (spM g.K 3 (m_part_in_order g (d + 1)))) sc_part_in_order (spM_len rfl) (fun f cdv A outer s H vs Q E hr h => ?_)) scope_ok
    exact body_all (N := ["stands", "house", "backwards", "stand", "lefts", "rights"]) (E := E) ((pss_cons (ps_if (pt_cmpR op_isN (pv 1) pe_non (nomark _)) (pss_one (ps_ret ((pe_lst pa_nil)))) pss_nil)
      (pss_cons (ps_set (i := 3) sc_part_in_order.nd rfl (Or.inl rfl) (pe_ix (ix_M (K := g.K) rfl) (pv 0) (pv 1) (fun _ _ => rfl)))
      (pss_cons (ps_set (i := 2) sc_part_in_order.nd rfl (Or.inl rfl) (pe_cmpR (op_neM (K := g.K) rfl hr.units) (pv 2) (pe_fldK (K := g.K) rfl (pv 3) rfl) (nomark _)))
      (pss_cons (ps_set (i := 4) sc_part_in_order.nd rfl (Or.inl rfl) (pcal C_part_in_order hr (by omega) rfl (takes_of rfl rfl rfl rfl) (pa_cons (pv 0) (pa_cons (pe_fldK (K := g.K) rfl (pv 3) rfl) (pa_cons (pv 2) pa_nil)))))
      (pss_cons (ps_set (i := 5) sc_part_in_order.nd rfl (Or.inl rfl) (pcal C_part_in_order hr (by omega) rfl (takes_of rfl rfl rfl rfl) (pa_cons (pv 0) (pa_cons (pe_fldK (K := g.K) rfl (pv 3) rfl) (pa_cons (pv 2) pa_nil)))))
      (pss_cons (ps_if (pt_val (pv 2)) (pss_one (ps_ret (pe_op (op_addM (K := g.K) rfl) (pe_op (op_addM (K := g.K) rfl) (pv 5) ((pe_lst (pa_cons (pv 1) pa_nil)))) (pv 4)))) pss_nil)
      (pss_one (ps_ret (pe_op (op_addM (K := g.K) rfl) (pe_op (op_addM (K := g.K) rfl) (pv 4) ((pe_lst (pa_cons (pv 1) pa_nil)))) (pv 5)))))))))))
      ((ss_seq (ss_ifS (st_test (se_op isN_okR se_var se_non)) (ss_ret (se_frz (sl_lst sa_nil))) ss_next)
      (ss_seq (ss_asgG (se_op ix_ok se_var se_var) sg_name)
      (ss_seq (ss_asgG (se_op ne_ok se_var (se_fld Z.FO se_var)) sg_name)
      (ss_seq (ss_asgG (se_def (sa_cons se_var (sa_cons (se_fld Z.FO se_var) (sa_cons se_var sa_nil)))) sg_name)
      (ss_seq (ss_asgG (se_def (sa_cons se_var (sa_cons (se_fld Z.FO se_var) (sa_cons se_var sa_nil)))) sg_name)
      (ss_seq (ss_ifS (st_tst se_var) (ss_ret (se_op add_ok (se_op add_ok se_var (se_frz (sl_lst (sa_cons se_var sa_nil)))) se_var)) ss_next)
      (ss_ret (se_op add_ok (se_op add_ok se_var (se_frz (sl_lst (sa_cons se_var sa_nil)))) se_var))))))))) h
end
end W3
namespace W3
open PySem PySem.Spec PyProof.Rows L2 M3
section
variable [TabsP]
variable {P : Program} {w : World} {g : G} {mg : Str → Option Value} {base : Heap} {f_eBadForest f_eNoHouse f_eNoNumber f_eNoShape f_eNoTurn f_iForest f_iStand : Addr}
theorem ok_row_in_order (D : M3.Def g.K mg "row_in_order" s_row_in_order ["stands", "top"]) (T : Txt mg) (Z : Fx g w mg f_eBadForest f_eNoHouse f_eNoNumber f_eNoShape f_eNoTurn f_iForest f_iStand) (C_part_in_order : M3.Cal P w g.K mg base 71 "_part_in_order" ["stands", "house", "backwards"] (spM g.K 3 (mScope (m_part_in_order g 70)))) : M3.Cal P w g.K mg base 72 "row_in_order" ["stands", "top"] (spM g.K 2 (mScope (m_row_in_order g))) := by
  refine M3.Cal.imp (D.cal (sp := (spM g.K 2 (m_row_in_order g))) sc_row_in_order (spM_len rfl) (fun f cdv A outer s H vs Q E hr h => ?_)) scope_ok
  exact body_all (N := ["stands", "top"]) (E := E) ((pss_one (ps_ret (pe_callTy (call_tupM (K := g.K) rfl) (by rfl) T.n_tuple (by decide +kernel) (pa_cons (pcal C_part_in_order hr (by omega) rfl (takes_of rfl rfl rfl rfl) (pa_cons (pv 0) (pa_cons (pv 1) (pa_cons pe_bl pa_nil)))) pa_nil)))))
    ((ss_ret (se_call tuple_ok (sa_cons (se_def (sa_cons se_var (sa_cons se_var (sa_cons se_bl sa_nil)))) sa_nil)))) h
end
end W3
namespace W3
open PySem PySem.Spec PyProof.Rows L2 M3
section
variable [TabsP]
variable {P : Program} {w : World} {g : G} {mg : Str → Option Value} {base : Heap} {f_eBadForest f_eNoHouse f_eNoNumber f_eNoShape f_eNoTurn f_iForest f_iStand : Addr}
theorem ok_rows (D : M3.Def g.K mg "rows" s_rows ["shape"]) (T : Txt mg) (Z : Fx g w mg f_eBadForest f_eNoHouse f_eNoNumber f_eNoShape f_eNoTurn f_iForest f_iStand) (C_row_in_order : M3.Cal P w g.K mg base 72 "row_in_order" ["stands", "top"] (spM g.K 2 (mScope (m_row_in_order g)))) (C_is_top : M3.Cal P w g.K mg base 1 "is_top" ["stands", "house"] (spM g.K 2 (mScope (m_is_top g)))) (C_stands_of : M3.Cal P w g.K mg base 6 "stands_of" ["shape"] (spM g.K 1 (m_stands_of g))) : M3.Cal P w g.K mg base 73 "rows" ["shape"] (spM g.K 1 (mPure (m_rows g))) := by
  refine M3.Cal.imp (D.cal (sp := (spM g.K 1 (m_rows g))) sc_rows (spM_len rfl) (fun f cdv A outer s H vs Q E hr h => ?_)) pure_ok
  exact body_all (N := ["shape", "stands", "house"]) (E := E) ((pss_cons (ps_set (i := 1) sc_rows.nd rfl (Or.inr rfl) (pcal C_stands_of hr (by omega) rfl (takes_of rfl rfl rfl rfl) (pa_cons (pv 0) pa_nil)))
      (pss_one (ps_ret (pe_callTy (call_tupM (K := g.K) rfl) (by rfl) T.n_tuple (by decide +kernel) (pa_cons ((pe_lc (own := [("house", 2)]) (g := (gName 2)) (by rfl) sc_rows.nd (pi_range1 rfl T.n_range (pa_cons (pe_callB (call_lenM (K := g.K) rfl) (by rfl) T.n_len PySem.boot_len (pa_cons (pv 1) pa_nil)) pa_nil)) (blkOk_by (own := [("house", 2)]) (N := ["shape", "stands", "house"]) (sc := defScope s_rows) (by decide +kernel)) (fun _ _ _ _ _ => (pg_name (i := 2) sc_rows.nd rfl (Or.inl rfl))) (fun _ _ _ _ _ => pts_one (pt_val (pcalF C_is_top hr (by omega) rfl (pa_cons (pv 1) (pa_cons (pv 2) pa_nil))))) (fun _ _ _ _ _ => (pcalF C_row_in_order hr (by omega) rfl (pa_cons (pv 1) (pa_cons (pv 2) pa_nil)))))) pa_nil))))))
    ((ss_seq (ss_asgG (se_def (sa_cons se_var sa_nil)) sg_name)
      (ss_ret (se_call tuple_ok (sa_cons (se_frz (sl_lc (si_rng1 (sa_cons (se_call len_ok (sa_cons se_var sa_nil)) sa_nil)) (sgv_name (by decide)) (st_tst (se_defF (sa_cons se_var (sa_cons se_var sa_nil)))) (se_defF (sa_cons se_var (sa_cons se_var sa_nil))))) sa_nil))))) h
end
end W3
namespace W3
open PySem PySem.Spec PyProof.Rows L2 M3
section
variable [TabsP]
variable {P : Program} {w : World} {g : G} {mg : Str → Option Value} {base : Heap} {f_eBadForest f_eNoHouse f_eNoNumber f_eNoShape f_eNoTurn f_iForest f_iStand : Addr}
theorem ok_forest_of (D : M3.Def g.K mg "forest_of" s_forest_of ["stands"]) (T : Txt mg) (Z : Fx g w mg f_eBadForest f_eNoHouse f_eNoNumber f_eNoShape f_eNoTurn f_iForest f_iStand) {fd_Forest_init : FuncData} (F_Forest_init : FnOk P w g.K mg base (L2.CX P w) 5 f_iForest fd_Forest_init ["self", "parents", "worths"] (spM g.K 3 (m_Forest_init g))) (B_Forest_init : Binds g.K fd_Forest_init ["self", "parents", "worths"] []) (C_told_worths : M3.Cal P w g.K mg base 3 "told_worths" ["stands"] (spM g.K 1 (mScope (m_told_worths g)))) (C_is_top : M3.Cal P w g.K mg base 1 "is_top" ["stands", "house"] (spM g.K 2 (mScope (m_is_top g)))) (C_row_in_order : M3.Cal P w g.K mg base 72 "row_in_order" ["stands", "top"] (spM g.K 2 (mScope (m_row_in_order g)))) : M3.Cal P w g.K mg base 73 "forest_of" ["stands"] (spM g.K 1 (mScope (m_forest_of g))) := by
  refine M3.Cal.imp (D.cal (sp := (spM g.K 1 (m_forest_of g))) sc_forest_of (spM_len rfl) (fun f cdv A outer s H vs Q E hr h => ?_)) scope_ok
  exact body_all (N := ["stands", "parents", "top", "ahead", "house"]) (E := E) ((pss_cons (ps_set (i := 1) sc_forest_of.nd rfl (Or.inl rfl) (pe_op (op_mulM (K := g.K) rfl) ((pe_lst (pa_cons pe_non pa_nil))) (pe_callB (call_lenM (K := g.K) rfl) (by rfl) T.n_len PySem.boot_len (pa_cons (pv 0) pa_nil))))
      (pss_cons (ps_for (passes_of rfl) rfl (pi_range1 rfl T.n_range (pa_cons (pe_callB (call_lenM (K := g.K) rfl) (by rfl) T.n_len PySem.boot_len (pa_cons (pv 0) pa_nil)) pa_nil)) (pg_name (i := 2) sc_forest_of.nd rfl (Or.inl rfl)) (pss_one (ps_if (pt_val (pcal C_is_top hr (by omega) rfl (takes_of rfl rfl rfl rfl) (pa_cons (pv 0) (pa_cons (pv 2) pa_nil)))) (pss_cons (ps_set (i := 3) sc_forest_of.nd rfl (Or.inl rfl) (pe_fldK (K := g.K) rfl (pe_ix (ix_M (K := g.K) rfl) (pv 0) (pv 2) (fun _ _ => rfl)) rfl))
      (pss_one (ps_for (passes_of rfl) rfl (pi_M (K := g.K) rfl (pcal C_row_in_order hr (by omega) rfl (takes_of rfl rfl rfl rfl) (pa_cons (pv 0) (pa_cons (pv 2) pa_nil)))) (pg_name (i := 4) sc_forest_of.nd rfl (Or.inl rfl)) (pss_cons (ps_asg (pv 3) (pg_sub (pv 1) (pv 4) set_list))
      (pss_one (ps_set (i := 3) sc_forest_of.nd rfl (Or.inl rfl) (pv 4))))))) pss_nil)))
      (pss_one (ps_ret (pe_makeS Z.mk_Forest F_Forest_init (hr.mono (by omega)) rfl Z.Forest B_Forest_init (fun σ => passAt (takes_of rfl rfl rfl rfl) σ) (pa_cons (pe_callTy (call_tupM (K := g.K) rfl) (by rfl) T.n_tuple (by decide +kernel) (pa_cons (pv 1) pa_nil)) (pa_cons (pcal C_told_worths hr (by omega) rfl (takes_of rfl rfl rfl rfl) (pa_cons (pv 0) pa_nil)) pa_nil))))))))
    ((ss_seq (ss_asgG (se_trk (sl_mulL (se_frz (sl_lst (sa_cons se_non sa_nil))) (se_call len_ok (sa_cons se_var sa_nil)))) sg_name)
      (ss_seq (ss_for (si_rng1 (sa_cons (se_call len_ok (sa_cons se_var sa_nil)) sa_nil)) sg_name (ss_ifS (st_tst (se_def (sa_cons se_var (sa_cons se_var sa_nil)))) (ss_seq (ss_asgG (se_fld Z.FO (se_op ix_ok se_var se_var)) sg_name)
      (ss_for (si_walk (se_def (sa_cons se_var (sa_cons se_var sa_nil)))) sg_name (ss_seq (ss_asgG se_var (sg_sub se_var se_var))
      (ss_asgG se_var sg_name)))) ss_next))
      (ss_ret (se_new (cr_Forest_ok g) (sa_cons (se_call tuple_ok (sa_cons se_var sa_nil)) (sa_cons (se_def (sa_cons se_var sa_nil)) sa_nil))))))) h
end
end W3
namespace W3
open PySem PySem.Spec PyProof.Rows L2 M3
section
variable [TabsP]
variable {P : Program} {w : World} {g : G} {mg : Str → Option Value} {base : Heap} {f_eBadForest f_eNoHouse f_eNoNumber f_eNoShape f_eNoTurn f_iForest f_iStand : Addr}
theorem ok_told_forest (D : M3.Def g.K mg "told_forest" s_told_forest ["shape"]) (T : Txt mg) (Z : Fx g w mg f_eBadForest f_eNoHouse f_eNoNumber f_eNoShape f_eNoTurn f_iForest f_iStand) (C_forest_of : M3.Cal P w g.K mg base 73 "forest_of" ["stands"] (spM g.K 1 (mScope (m_forest_of g)))) (C_stands_of : M3.Cal P w g.K mg base 6 "stands_of" ["shape"] (spM g.K 1 (m_stands_of g))) : M3.Cal P w g.K mg base 74 "told_forest" ["shape"] (spM g.K 1 (mPure (m_told_forest g))) := by
  refine M3.Cal.imp (D.cal (sp := (spM g.K 1 (m_told_forest g))) sc_told_forest (spM_len rfl) (fun f cdv A outer s H vs Q E hr h => ?_)) pure_ok
  exact body_all (N := ["shape"]) (E := E) ((pss_one (ps_ret (pcal C_forest_of hr (by omega) rfl (takes_of rfl rfl rfl rfl) (pa_cons (pcal C_stands_of hr (by omega) rfl (takes_of rfl rfl rfl rfl) (pa_cons (pv 0) pa_nil)) pa_nil)))))
    ((ss_ret (se_def (sa_cons (se_def (sa_cons se_var sa_nil)) sa_nil)))) h
end
end W3
namespace W3
open PySem PySem.Spec PyProof.Rows L2 M3
section
variable [TabsP]
variable {P : Program} {w : World} {g : G} {mg : Str → Option Value} {base : Heap} {f_eBadForest f_eNoHouse f_eNoNumber f_eNoShape f_eNoTurn f_iForest f_iStand : Addr}
theorem ok_Stand_init {f0 : Addr} {fd0 : FuncData} (F : Fun g.K "__init__" "Stand.__init__" s_Stand_init f0 fd0) (T : Txt mg) (Z : Fx g w mg f_eBadForest f_eNoHouse f_eNoNumber f_eNoShape f_eNoTurn f_iForest f_iStand) : FnOk P w g.K mg base (L2.CX P w) 1 f0 fd0 ["self", "part"] (spM g.K 2 (m_Stand_init g)) := by
  refine F.okX sc_Stand_init (spM_len rfl) (fun cdv A outer s H vs Q E hr h => ?_)
  exact body_all (N := ["self", "part"]) (E := E) ((pss_one (ps_asg (pv 1) (pg_tup rfl (pgs_cons (pg_fldK (K := g.K) rfl (pv 0)) (pgs_cons (pg_fldK (K := g.K) rfl (pv 0)) (pgs_cons (pg_fldK (K := g.K) rfl (pv 0)) (pgs_cons (pg_fldK (K := g.K) rfl (pv 0)) (pgs_cons (pg_fldK (K := g.K) rfl (pv 0)) (pgs_cons (pg_fldK (K := g.K) rfl (pv 0)) pgs_nil))))))))))
    ((ss_asgG se_var (sg_tup (sgs_cons (fun _ _ => rfl) (sg_fld Z.FO se_var) (sgs_cons (fun _ _ => rfl) (sg_fld Z.FO se_var) (sgs_cons (fun _ _ => rfl) (sg_fld Z.FO se_var) (sgs_cons (fun _ _ => rfl) (sg_fld Z.FO se_var) (sgs_cons (fun _ _ => rfl) (sg_fld Z.FO se_var) (sgs_cons (fun _ _ => rfl) (sg_fld Z.FO se_var) sgs_nil))))))))) h
end
end W3
namespace W3
open PySem PySem.Spec PyProof.Rows L2 M3
section
variable [TabsP]
variable {P : Program} {w : World} {g : G} {mg : Str → Option Value} {base : Heap} {f_eBadForest f_eNoHouse f_eNoNumber f_eNoShape f_eNoTurn f_iForest f_iStand : Addr}
theorem ok_Forest_init {f0 : Addr} {fd0 : FuncData} (F : Fun g.K "__init__" "Forest.__init__" s_Forest_init f0 fd0) (T : Txt mg) (Z : Fx g w mg f_eBadForest f_eNoHouse f_eNoNumber f_eNoShape f_eNoTurn f_iForest f_iStand) (C_are_worths : M3.Cal P w g.K mg base 2 "_are_worths" ["thing", "houses"] (spM g.K 2 (mPure (m_are_worths g)))) (C_are_parents : M3.Cal P w g.K mg base 4 "_are_parents" ["thing"] (spM g.K 1 (mPure (m_are_parents g)))) : FnOk P w g.K mg base (L2.CX P w) 5 f0 fd0 ["self", "parents", "worths"] (spM g.K 3 (m_Forest_init g)) := by
  refine F.okX sc_Forest_init (spM_len rfl) (fun cdv A outer s H vs Q E hr h => ?_)
  exact body_all (N := ["self", "parents", "worths"]) (E := E) ((pss_cons (ps_if (pt_not (pt_val (pcal C_are_parents hr (by omega) rfl (takes_of rfl rfl rfl rfl) (pa_cons (pv 1) pa_nil)))) (pss_one (ps_raise_BadForest rfl Z.BadForest hr (takes_of rfl rfl rfl rfl) (pa_cons pe_str pa_nil))) pss_nil)
      (pss_cons (ps_if (pt_not (pt_val (pcal C_are_worths hr (by omega) rfl (takes_of rfl rfl rfl rfl) (pa_cons (pv 2) (pa_cons (pe_callB (call_lenM (K := g.K) rfl) (by rfl) T.n_len PySem.boot_len (pa_cons (pv 1) pa_nil)) pa_nil))))) (pss_one (ps_raise_BadForest rfl Z.BadForest hr (takes_of rfl rfl rfl rfl) (pa_cons pe_str pa_nil))) pss_nil)
      (pss_cons (ps_fld (pv 0) (pv 1) rfl)
      (pss_one (ps_fld (pv 0) (pv 2) rfl))))))
    ((ss_seq (ss_ifS (st_not (st_tst (se_def (sa_cons se_var sa_nil)))) (ss_raise1 (sa_cons se_str sa_nil)) ss_next)
      (ss_seq (ss_ifS (st_not (st_tst (se_def (sa_cons se_var (sa_cons (se_call len_ok (sa_cons se_var sa_nil)) sa_nil))))) (ss_raise1 (sa_cons se_str sa_nil)) ss_next)
      (ss_seq (ss_setF Z.FO se_var se_var)
      (ss_setF Z.FO se_var se_var))))) h
end
end W3
namespace W3
open PySem PySem.Spec PyProof.Rows L2 M3
section
variable [TabsP]
variable {P : Program} {w : World} {g : G} {mg : Str → Option Value} {base : Heap} {f_eBadForest f_eNoHouse f_eNoNumber f_eNoShape f_eNoTurn f_iForest f_iStand : Addr}
def m1_L_word (g : G) : DS := (mAsg (mC (.str "let")) (gmName 1))
def m3_L_word (g : G) : DS := (mRet (mVar 1))
def m2_L_word (g : G) (C aa : Addr) : DS := (mSeq (mAsg (mFrz (mLst (mCons (mCall (aIsE g.K C aa) (mCons (mVar 2) (mCons (mC (.con (.ref g.NoShape))) mNil))) (mCons (mCall (aIsE g.K C aa) (mCons (mVar 2) (mCons (mC (.con (.ref g.NoHouse))) mNil))) (mCons (mCall (aIsE g.K C aa) (mCons (mVar 2) (mCons (mC (.con (.ref g.NoTurn))) mNil))) mNil))))) (gmName 3))
      (mSeq (mAsg (mOp aAdd (mVar 3) (mFrz (mLst (mCons (mCall (aIsE g.K C aa) (mCons (mVar 2) (mCons (mC (.con (.ref g.NoNumber))) mNil))) mNil)))) (gmName 3))
      (mSeq (mAsg (mC (.str "other")) (gmName 1))
      (mIfS (mAndT (mTst (mOp aEq (mBM "list" (rdM fCountB) (mVar 3) (mCons (mC (.bl true)) mNil)) (mC (.int 1)))) (mTst (mCall (aIsE g.K C aa) (mCons (mVar 2) (mCons (mC (.con (.ty "ValueError"))) mNil))))) (mAsg (mOp aIx (mFrz (mLst (mCons (mC (.str "shape")) (mCons (mC (.str "house")) (mCons (mC (.str "turn")) (mCons (mC (.str "number")) mNil)))))) (mBM "list" (rdM fIndex) (mVar 3) (mCons (mC (.bl true)) mNil))) (gmName 1)) mNext))))
theorem xl_L_word (GX : Gx g) : ∀ p ∈ wl_L_word g, PySem.W.exmOne g.K (.ref p.1) (.ref g.ForestError) = some true := fun p hp => by
    simp only [wl_L_word, List.mem_cons, List.not_mem_nil, or_false] at hp
    rcases hp with rfl | rfl | rfl | rfl
    · exact GX.x_NoShape_ForestError
    · exact GX.x_NoHouse_ForestError
    · exact GX.x_NoTurn_ForestError
    · exact GX.x_NoNumber_ForestError
theorem xc_L_word (Z : Fx g w mg f_eBadForest f_eNoHouse f_eNoNumber f_eNoShape f_eNoTurn f_iForest f_iStand) : ∀ p ∈ wl_L_word g, ExcC g.K p.1 := fun p hp => by
    simp only [wl_L_word, List.mem_cons, List.not_mem_nil, or_false] at hp
    rcases hp with rfl | rfl | rfl | rfl
    · exact Z.xc_NoShape
    · exact Z.xc_NoHouse
    · exact Z.xc_NoTurn
    · exact Z.xc_NoNumber
theorem w2_L_word (GX : Gx g) : ∀ p ∈ wl_L_word g, ∀ aa S, ∃ δ2, m2_L_word g p.1 aa ((List.replicate 4 none).set 2 (some (.dat (.con (.ref aa))))) S = .ok (.nx δ2) S ∧ δ2[1]? = some (some (.dat (.str p.2))) := by
  intro p hp aa S
  simp only [wl_L_word, List.mem_cons, List.not_mem_nil, or_false] at hp
  have h1 : ((List.replicate 4 none).set 2 (some (D.dat (.con (.ref aa)))) : DEnv) = [none, none, some (.dat (.con (.ref aa))), none] := rfl
  rw [h1]
  have ad1 : ∀ (S : Store) (b0 b1 b2 b3 : Bool), aAdd S (.dat (.lst [.bl b0, .bl b1, .bl b2])) (.dat (.lst [.bl b3])) = some (.dat (.lst [.bl b0, .bl b1, .bl b2, .bl b3])) := fun _ _ _ _ _ => rfl
  rcases hp with rfl | rfl | rfl | rfl <;> exact ⟨_, by unfold m2_L_word; dsimp! [ad1, aIsE, clsD, fCountB, blsP, rdM, dBl, listP, GX.ke_NoShape_NoShape, GX.ke_NoShape_NoHouse, GX.ke_NoShape_NoTurn, GX.ke_NoShape_NoNumber, GX.ke_NoHouse_NoShape, GX.ke_NoHouse_NoHouse, GX.ke_NoHouse_NoTurn, GX.ke_NoHouse_NoNumber, GX.ke_NoTurn_NoShape, GX.ke_NoTurn_NoHouse, GX.ke_NoTurn_NoTurn, GX.ke_NoTurn_NoNumber, GX.ke_NoNumber_NoShape, GX.ke_NoNumber_NoHouse, GX.ke_NoNumber_NoTurn, GX.ke_NoNumber_NoNumber, GX.ke_NoShape_ValueError, GX.ke_NoHouse_ValueError, GX.ke_NoTurn_ValueError, GX.ke_NoNumber_ValueError] <;> rfl, rfl⟩
theorem gw_L_word (T : Txt mg) (Z : Fx g w mg f_eBadForest f_eNoHouse f_eNoNumber f_eNoShape f_eNoTurn f_iForest f_iStand) (GX : Gx g) {N0 : List Str} {q0 qq : Str} {sc0 : Scope} {f0 g0 : Addr} {cd0 cdg : Value} {A0 : Around} {o0 : List Env} {s0 : Shared} {H0 : Hp} {E0 : XK} {kk : Nat}
    (hr0 : Room (kk + 1) (cxOf (L2.CX P w) P w g.K mg base N0 q0 sc0 f0 cd0 A0 o0 s0 H0 E0).A) :
    LamX.GivesTo (cxOf (L2.CX P w) P w g.K mg base N0 q0 sc0 f0 cd0 A0 o0 s0 H0 E0) ["call", "word", "error", "flags"] "_law_word" (defScope s_L_word) g0 cdg (defBody s_L_word) "call" qq (TTM g.K (mWord (wl_L_word g))) := by
  have hX := xc_L_word Z
  refine' gives_word (K := g.K) (l := wl_L_word g) (i := 2) (j := 1) (n := "error") (e := "ForestError") (CS := g.ForestError) (m1 := m1_L_word g) (m3 := m3_L_word g) (ms := m2_L_word g)
    rfl rfl rfl Z.ForestError sc_L_word.nd rfl (fun _ _ _ => rfl) (by decide) (by decide) (by decide) (xl_L_word GX) ?h1 ?p1 (fun d S => ⟨_, rfl, rfl, rfl⟩) ?h3 ?p3 (fun δ S d h => by unfold m3_L_word; dsimp! [h] <;> rfl) ?h2 ?p2 (w2_L_word GX)
  case h1 => exact fun s H => (ps_set (i := 1) sc_L_word.nd rfl (Or.inl rfl) pe_str)
  case p1 => exact (ss_asgG se_str sg_name)
  case h3 => exact fun s H => (ps_ret (pv 1))
  case p3 => exact (ss_ret se_var)
  case h2 =>
    intro p hp s H aa oe pn hz hf
    have hr := hr0.deeper (envOfC "_law_word" (defScope s_L_word) s.heap.objs.size g0 cdg)
    exact (pss_cons (ps_set (i := 3) sc_L_word.nd rfl (Or.inl rfl) ((pe_lst (pa_cons (pe_callB (id := "isinstance") (call_isEM (K := g.K) (D := p.1) rfl (hX _ hp) hz hf) (by rfl) T.n_isinstance (by decide +kernel) (pa_cons (pv 2) (pa_cons (pe_glob (v := .ref g.NoShape) rfl Z.NoShape.gC rfl) pa_nil))) (pa_cons (pe_callB (id := "isinstance") (call_isEM (K := g.K) (D := p.1) rfl (hX _ hp) hz hf) (by rfl) T.n_isinstance (by decide +kernel) (pa_cons (pv 2) (pa_cons (pe_glob (v := .ref g.NoHouse) rfl Z.NoHouse.gC rfl) pa_nil))) (pa_cons (pe_callB (id := "isinstance") (call_isEM (K := g.K) (D := p.1) rfl (hX _ hp) hz hf) (by rfl) T.n_isinstance (by decide +kernel) (pa_cons (pv 2) (pa_cons (pe_glob (v := .ref g.NoTurn) rfl Z.NoTurn.gC rfl) pa_nil))) pa_nil))))))
      (pss_cons (ps_set (i := 3) sc_L_word.nd rfl (Or.inl rfl) (pe_op (op_addM (K := g.K) rfl) (pv 3) ((pe_lst (pa_cons (pe_callB (id := "isinstance") (call_isEM (K := g.K) (D := p.1) rfl (hX _ hp) hz hf) (by rfl) T.n_isinstance (by decide +kernel) (pa_cons (pv 2) (pa_cons (pe_glob (v := .ref g.NoNumber) rfl Z.NoNumber.gC rfl) pa_nil))) pa_nil)))))
      (pss_cons (ps_set (i := 1) sc_L_word.nd rfl (Or.inl rfl) pe_str)
      (pss_one (ps_if (PW.pt (pw_and (pt_cmpR (op_eqM (K := g.K) rfl hr.units) (pe_bmK (K := g.K) rfl PySem.F.plainAttrs_list PySem.F.slot_list_count PySem.F.type_list_count (mt_lcountB (K := g.K) rfl hr.units) (pv 3) (pa_cons pe_bl pa_nil)) pe_int (nomark _)) (pw_and1 (pt_val (pe_callB (id := "isinstance") (call_isEM (K := g.K) (D := p.1) rfl (hX _ hp) hz hf) (by rfl) T.n_isinstance (by decide +kernel) (pa_cons (pv 2) (pa_cons (pe_bltn (v := .ty "ValueError") (by rfl) T.n_ValueError (by decide +kernel) rfl) pa_nil))))))) (pss_one (ps_set (i := 1) sc_L_word.nd rfl (Or.inl rfl) (pe_ix (ix_M (K := g.K) rfl) ((pe_lst (pa_cons pe_str (pa_cons pe_str (pa_cons pe_str (pa_cons pe_str pa_nil)))))) (pe_bmK (K := g.K) rfl PySem.F.plainAttrs_list PySem.F.slot_list_index PySem.F.type_list_index (mt_indexM (K := g.K) rfl) (pv 3) (pa_cons pe_bl pa_nil)) (fun _ _ => rfl)))) pss_nil)))))
  case p2 => exact fun p hp aa => (ss_seq (ss_asgG (se_frz (sl_lst (sa_cons (se_call isE_ok (sa_cons se_var (sa_cons se_con sa_nil))) (sa_cons (se_call isE_ok (sa_cons se_var (sa_cons se_con sa_nil))) (sa_cons (se_call isE_ok (sa_cons se_var (sa_cons se_con sa_nil))) sa_nil))))) sg_name)
      (ss_seq (ss_asgG (se_op add_ok se_var (se_frz (sl_lst (sa_cons (se_call isE_ok (sa_cons se_var (sa_cons se_con sa_nil))) sa_nil)))) sg_name)
      (ss_seq (ss_asgG se_str sg_name)
      (ss_ifS (st_and (st_test (se_op eq_ok (se_bm countB_ok se_var (sa_cons se_bl sa_nil)) se_int)) (st_tst (se_call isE_ok (sa_cons se_var (sa_cons se_con sa_nil))))) (ss_asgG (se_op ix_ok (se_frz (sl_lst (sa_cons se_str (sa_cons se_str (sa_cons se_str (sa_cons se_str sa_nil)))))) (se_bm index_ok se_var (sa_cons se_bl sa_nil))) sg_name) ss_next))))
end
end W3
namespace W3
open PySem PySem.Spec PyProof.Rows L2 M3
section
variable [TabsP]
variable {P : Program} {w : World} {g : G} {mg : Str → Option Value} {base : Heap} {f_eBadForest f_eNoHouse f_eNoNumber f_eNoShape f_eNoTurn f_iForest f_iStand : Addr}
theorem ok_law {f0 c0 P0 : Addr} {fd0 : FuncData} (F : Fun g.K "law" "law" s_law f0 fd0) (T : Txt mg) (Z : Fx g w mg f_eBadForest f_eNoHouse f_eNoNumber f_eNoShape f_eNoTurn f_iForest f_iStand) (GX : Gx g) (D_L_word : M3.Def g.K mg "_law_word" s_L_word ["call"]) (C_rank : M3.Cal P w g.K mg base 2 "rank" ["number"] (spM g.K 1 (mPure (m_rank g)))) (C_L_number : M3.Cal P w g.K mg base 1 "_law_number" ["thing", "least", "most"] (spM g.K 3 (mPure (m_L_number g)))) (C_L_draw : M3.Cal P w g.K mg base 1 "_law_draw" ["hand", "many"] (spM g.K 2 (mScope (m_L_draw g)))) {fd_Forest_init : FuncData} (F_Forest_init : FnOk P w g.K mg base (L2.CX P w) 5 f_iForest fd_Forest_init ["self", "parents", "worths"] (spM g.K 3 (m_Forest_init g))) (B_Forest_init : Binds g.K fd_Forest_init ["self", "parents", "worths"] []) (C_L_deep : M3.Cal P w g.K mg base 2 "_law_deep" ["hand"] (spM g.K 1 (mScope (m_L_deep g)))) (C_turned_up : M3.Cal P w g.K mg base 7 "turned_up" ["shape", "house"] (spM g.K 2 (mPure (m_turned_up g)))) (C_L_is_son : M3.Cal P w g.K mg base 1 "_law_is_son" ["shape", "house"] (spM g.K 2 (mPure (m_L_is_son g)))) (C_handed_on : M3.Cal P w g.K mg base 7 "handed_on" ["shape", "house"] (spM g.K 2 (mPure (m_handed_on g)))) (C_rows : M3.Cal P w g.K mg base 73 "rows" ["shape"] (spM g.K 1 (mPure (m_rows g)))) (C_told_forest : M3.Cal P w g.K mg base 74 "told_forest" ["shape"] (spM g.K 1 (mPure (m_told_forest g)))) (C_weights : M3.Cal P w g.K mg base 7 "weights" ["shape"] (spM g.K 1 (mPure (m_weights g)))) (C_potential : M3.Cal P w g.K mg base 7 "potential" ["shape"] (spM g.K 1 (mPure (m_potential g)))) (C_L_is_shape : M3.Cal P w g.K mg base 2 "_law_is_shape" ["thing"] (spM g.K 1 (mPure (m_L_is_shape g)))) (C_L_odd_shape : M3.Cal P w g.K mg base 7 "_law_odd_shape" ["hand", "shape"] (spM g.K 2 (mScope (m_L_odd_shape g)))) (C_L_shape : M3.Cal P w g.K mg base 3 "_law_shape" ["hand", "many"] (spM g.K 2 (mScope (m_L_shape g)))) (C_L_hand : M3.Cal P w g.K mg base 1 "_law_hand" ["script"] (spM g.K 1 (m_L_hand g))) (TB_law : LamX.TabB base mg c0 P0) (HC_law : fd0.code = .ref c0) (IN_law : (P0, ("law.<locals>.<lambda>" : Str)) ∈ TabsP.T) (UN_law : ∀ p ∈ TabsP.T, p.1 = P0 → p.2 = ("law.<locals>.<lambda>" : Str)) : FnOk P w g.K mg base (L2.CX P w) 77 f0 fd0 ["script"] (spM g.K 1 (m_law g)) := by
  refine fun_okXc F sc_law (spM_len rfl) (fun cdv A outer s H vs Q E hcd hr h => ?_)
  exact body_all (N := ["script", "hand", "shape", "turn", "thing", "is_right", "due", "call", "many", "house", "odd", "number"]) (E := E) ((pss_cons (ps_set (i := 1) sc_law.nd rfl (Or.inl rfl) (pcal C_L_hand hr (by omega) rfl (takes_of rfl rfl rfl rfl) (pa_cons (pv 0) pa_nil)))
      (pss_cons (ps_set (i := 2) sc_law.nd rfl (Or.inl rfl) (pcal C_L_shape hr (by omega) rfl (takes_of rfl rfl rfl rfl) (pa_cons (pv 1) (pa_cons (pe_op (op_addM (K := g.K) rfl) pe_int (pcal C_L_draw hr (by omega) rfl (takes_of rfl rfl rfl rfl) (pa_cons (pv 1) (pa_cons pe_int pa_nil)))) pa_nil))))
      (pss_cons (ps_for (passes_of rfl) rfl (pi_range1 rfl T.n_range (pa_cons pe_int pa_nil)) (pg_name (i := 3) sc_law.nd rfl (Or.inl rfl)) (pss_cons (ps_set (i := 4) sc_law.nd rfl (Or.inr rfl) (pcal C_L_odd_shape hr (by omega) rfl (takes_of rfl rfl rfl rfl) (pa_cons (pv 1) (pa_cons (pv 2) pa_nil))))
      (pss_cons (ps_set (i := 5) sc_law.nd rfl (Or.inl rfl) (pcal C_L_is_shape hr (by omega) rfl (takes_of rfl rfl rfl rfl) (pa_cons (pv 4) pa_nil)))
      (pss_cons (ps_set (i := 6) sc_law.nd rfl (Or.inl rfl) (pe_ix (ix_M (K := g.K) rfl) ((pe_lst (pa_cons pe_str (pa_cons pe_str pa_nil)))) (pe_callTy call_int1 (by rfl) T.n_int (by decide +kernel) (pa_cons (pv 5) pa_nil)) (fun _ _ => rfl)))
      (pss_cons (ps_for (passes_of rfl) rfl (pi_M (K := g.K) rfl ((pe_lst (pa_cons (pe_glob (v := .ref (g.V "rows")) rfl Z.v_rows rfl) (pa_cons (pe_glob (v := .ref (g.V "told_forest")) rfl Z.v_told_forest rfl) (pa_cons (pe_glob (v := .ref (g.V "weights")) rfl Z.v_weights rfl) (pa_cons (pe_glob (v := .ref (g.V "potential")) rfl Z.v_potential rfl) pa_nil))))))) (pg_name (i := 7) sc_law.nd rfl (Or.inr rfl)) (pss_one (ps_if (pt_cmpR (op_neM (K := g.K) rfl hr.units) (pe_lamW (k := 74) rfl D_L_word sc_L_word rfl (Or.inl rfl) (fun _ _ => gw_L_word (kk := 0) T Z GX (hr.mono (by omega))) TB_law (hcd.symm.trans HC_law) IN_law UN_law hr (by omega) (LamX.lamS_by (sc := defScope s_law) (by decide +kernel)) rfl (fun _ _ _ _ _ => rfl) (fun A outer s H E f c' hr => (pe_callVs (K := g.K) (i := 7) (HeldVs.cons (C_rows.held (by omega) Z.v_rows) (HeldVs.cons (C_told_forest.held (by omega) Z.v_told_forest) (HeldVs.cons (C_weights.held (by omega) Z.v_weights) (HeldVs.cons (C_potential.held (by omega) Z.v_potential) HeldVs.nil)))) rfl hr (takes_of rfl rfl rfl rfl) rfl (Or.inr (Or.inr rfl)) (pa_cons (pv 4) pa_nil)))) (pv 6) (nomark _)) (pss_one (ps_ret pe_bl)) pss_nil)))
      (pss_cons (ps_set (i := 8) sc_law.nd rfl (Or.inl rfl) (pe_callB (call_lenM (K := g.K) rfl) (by rfl) T.n_len PySem.boot_len (pa_cons (pv 2) pa_nil)))
      (pss_cons (ps_set (i := 9) sc_law.nd rfl (Or.inr rfl) (pcal C_L_draw hr (by omega) rfl (takes_of rfl rfl rfl rfl) (pa_cons (pv 1) (pa_cons (pv 8) pa_nil))))
      (pss_cons (ps_if (pt_cmpR (op_eqM (K := g.K) rfl hr.units) (pcal C_L_draw hr (by omega) rfl (takes_of rfl rfl rfl rfl) (pa_cons (pv 1) (pa_cons pe_int pa_nil))) pe_int (nomark _)) (pss_one (ps_set (i := 9) sc_law.nd rfl (Or.inr rfl) (pe_ix (ix_M (K := g.K) rfl) ((pe_lst (pa_cons (pv 8) (pa_cons (pe_un un_neg pe_int) (pa_cons pe_bl (pa_cons pe_non (pa_cons pe_str (pa_cons (pe_tup (pa_cons pe_int pa_nil)) (pa_cons (pe_op op_pow pe_int pe_int) (pa_cons (pe_makeS Z.mk_Forest F_Forest_init (hr.mono (by omega)) rfl Z.Forest B_Forest_init (fun σ => passAt (takes_of rfl rfl rfl rfl) σ) (pa_cons (pe_tup (pa_cons pe_non pa_nil)) (pa_cons (pe_tup (pa_cons pe_int pa_nil)) pa_nil))) pa_nil)))))))))) (pcal C_L_draw hr (by omega) rfl (takes_of rfl rfl rfl rfl) (pa_cons (pv 1) (pa_cons pe_int pa_nil))) (fun _ _ => rfl)))) pss_nil)
      (pss_cons (ps_if (PW.pt (pw_and (pt_cmpR (op_eqM (K := g.K) rfl hr.units) (pv 6) pe_str (nomark _)) (pw_and1 (pt_not (pt_val (pcal C_L_number hr (by omega) rfl (takes_of rfl rfl rfl rfl) (pa_cons (pv 9) (pa_cons pe_int (pa_cons (pe_op op_sub (pv 8) pe_int) pa_nil))))))))) (pss_one (ps_set (i := 6) sc_law.nd rfl (Or.inl rfl) pe_str)) pss_nil)
      (pss_cons (ps_if (pt_cmpR (op_neM (K := g.K) rfl hr.units) (pe_lamW (k := 74) rfl D_L_word sc_L_word rfl (Or.inl rfl) (fun _ _ => gw_L_word (kk := 0) T Z GX (hr.mono (by omega))) TB_law (hcd.symm.trans HC_law) IN_law UN_law hr (by omega) (LamX.lamS_by (sc := defScope s_law) (by decide +kernel)) rfl (fun _ _ _ _ _ => rfl) (fun A outer s H E f c' hr => (pcal C_handed_on hr (by omega) rfl (takes_of rfl rfl rfl rfl) (pa_cons (pv 4) (pa_cons (pv 9) pa_nil))))) (pv 6) (nomark _)) (pss_one (ps_ret pe_bl)) pss_nil)
      (pss_cons (ps_if (PW.pt (pw_and (pt_cmpR (op_eqM (K := g.K) rfl hr.units) (pv 6) pe_str (nomark _)) (pw_and1 (pt_not (pt_val (pcal C_L_is_son hr (by omega) rfl (takes_of rfl rfl rfl rfl) (pa_cons (pv 4) (pa_cons (pv 9) pa_nil)))))))) (pss_one (ps_set (i := 6) sc_law.nd rfl (Or.inl rfl) pe_str)) pss_nil)
      (pss_cons (ps_if (pt_cmpR (op_neM (K := g.K) rfl hr.units) (pe_lamW (k := 74) rfl D_L_word sc_L_word rfl (Or.inl rfl) (fun _ _ => gw_L_word (kk := 0) T Z GX (hr.mono (by omega))) TB_law (hcd.symm.trans HC_law) IN_law UN_law hr (by omega) (LamX.lamS_by (sc := defScope s_law) (by decide +kernel)) rfl (fun _ _ _ _ _ => rfl) (fun A outer s H E f c' hr => (pcal C_turned_up hr (by omega) rfl (takes_of rfl rfl rfl rfl) (pa_cons (pv 4) (pa_cons (pv 9) pa_nil))))) (pv 6) (nomark _)) (pss_one (ps_ret pe_bl)) pss_nil)
      (pss_cons (ps_set (i := 10) sc_law.nd rfl (Or.inl rfl) ((pe_lst (pa_cons pe_int (pa_cons (pe_op op_pow pe_int pe_int) (pa_cons pe_int (pa_cons (pe_un un_neg pe_int) (pa_cons pe_bl (pa_cons pe_non (pa_cons pe_str (pa_cons (pe_tup (pa_cons pe_int pa_nil)) (pa_cons ((pe_lst (pa_cons pe_int pa_nil))) (pa_cons (pcal C_L_deep hr (by omega) rfl (takes_of rfl rfl rfl rfl) (pa_cons (pv 1) pa_nil)) (pa_cons (pe_makeS Z.mk_Forest F_Forest_init (hr.mono (by omega)) rfl Z.Forest B_Forest_init (fun σ => passAt (takes_of rfl rfl rfl rfl) σ) (pa_cons (pe_tup (pa_cons pe_non pa_nil)) (pa_cons (pe_tup (pa_cons pe_int pa_nil)) pa_nil))) pa_nil))))))))))))))
      (pss_cons (ps_set (i := 11) sc_law.nd rfl (Or.inr rfl) (pe_ix (ix_M (K := g.K) rfl) (pv 10) (pcal C_L_draw hr (by omega) rfl (takes_of rfl rfl rfl rfl) (pa_cons (pv 1) (pa_cons pe_int pa_nil))) (fun _ _ => rfl)))
      (pss_one (ps_if (pt_cmpR (op_neM (K := g.K) rfl hr.units) (pe_lamW (k := 74) rfl D_L_word sc_L_word rfl (Or.inl rfl) (fun _ _ => gw_L_word (kk := 0) T Z GX (hr.mono (by omega))) TB_law (hcd.symm.trans HC_law) IN_law UN_law hr (by omega) (LamX.lamS_by (sc := defScope s_law) (by decide +kernel)) rfl (fun _ _ _ _ _ => rfl) (fun A outer s H E f c' hr => (pcal C_rank hr (by omega) rfl (takes_of rfl rfl rfl rfl) (pa_cons (pv 11) pa_nil)))) (pe_ix (ix_M (K := g.K) rfl) ((pe_lst (pa_cons pe_str (pa_cons pe_str pa_nil)))) (pe_callTy call_int1 (by rfl) T.n_int (by decide +kernel) (pa_cons (pcal C_L_number hr (by omega) rfl (takes_of rfl rfl rfl rfl) (pa_cons (pv 11) (pa_cons pe_int (pa_cons (pe_op op_pow pe_int pe_int) pa_nil)))) pa_nil)) (fun _ _ => rfl)) (nomark _)) (pss_one (ps_ret pe_bl)) pss_nil))))))))))))))))
      (pss_one (ps_ret pe_bl))))))
    ((ss_seq (ss_asgG (se_def (sa_cons se_var sa_nil)) sg_name)
      (ss_seq (ss_asgG (se_def (sa_cons se_var (sa_cons (se_op add_ok se_int (se_def (sa_cons se_var (sa_cons se_int sa_nil)))) sa_nil))) sg_name)
      (ss_seq (ss_for (si_rng1 (sa_cons se_int sa_nil)) sg_name (ss_seq (ss_asgG (se_def (sa_cons se_var (sa_cons se_var sa_nil))) sg_name)
      (ss_seq (ss_asgG (se_def (sa_cons se_var sa_nil)) sg_name)
      (ss_seq (ss_asgG (se_op ix_ok (se_frz (sl_lst (sa_cons se_str (sa_cons se_str sa_nil)))) (se_call int_ok (sa_cons se_var sa_nil))) sg_name)
      (ss_seq (ss_for (si_walk (se_frz (sl_lst (sa_cons se_con (sa_cons se_con (sa_cons se_con (sa_cons se_con sa_nil))))))) sg_name (ss_ifS (st_test (se_op ne_ok (se_lamcall (fun E => (se_callVs (sa_cons se_var sa_nil)))) se_var)) (ss_ret se_bl) ss_next))
      (ss_seq (ss_asgG (se_call len_ok (sa_cons se_var sa_nil)) sg_name)
      (ss_seq (ss_asgG (se_def (sa_cons se_var (sa_cons se_var sa_nil))) sg_name)
      (ss_seq (ss_ifS (st_test (se_op eq_ok (se_def (sa_cons se_var (sa_cons se_int sa_nil))) se_int)) (ss_asgG (se_op ix_ok (se_frz (sl_lst (sa_cons se_var (sa_cons (se_un neg_ok se_int) (sa_cons se_bl (sa_cons se_non (sa_cons se_str (sa_cons (se_tup (sa_cons se_int sa_nil)) (sa_cons (se_op pow_ok se_int se_int) (sa_cons (se_new (cr_Forest_ok g) (sa_cons (se_tup (sa_cons se_non sa_nil)) (sa_cons (se_tup (sa_cons se_int sa_nil)) sa_nil))) sa_nil)))))))))) (se_def (sa_cons se_var (sa_cons se_int sa_nil)))) sg_name) ss_next)
      (ss_seq (ss_ifS (st_and (st_test (se_op eq_ok se_var se_str)) (st_not (st_tst (se_def (sa_cons se_var (sa_cons se_int (sa_cons (se_op sub_ok se_var se_int) sa_nil))))))) (ss_asgG se_str sg_name) ss_next)
      (ss_seq (ss_ifS (st_test (se_op ne_ok (se_lamcall (fun E => (se_def (sa_cons se_var (sa_cons se_var sa_nil))))) se_var)) (ss_ret se_bl) ss_next)
      (ss_seq (ss_ifS (st_and (st_test (se_op eq_ok se_var se_str)) (st_not (st_tst (se_def (sa_cons se_var (sa_cons se_var sa_nil)))))) (ss_asgG se_str sg_name) ss_next)
      (ss_seq (ss_ifS (st_test (se_op ne_ok (se_lamcall (fun E => (se_def (sa_cons se_var (sa_cons se_var sa_nil))))) se_var)) (ss_ret se_bl) ss_next)
      (ss_seq (ss_asgG (se_frz (sl_lst (sa_cons se_int (sa_cons (se_op pow_ok se_int se_int) (sa_cons se_int (sa_cons (se_un neg_ok se_int) (sa_cons se_bl (sa_cons se_non (sa_cons se_str (sa_cons (se_tup (sa_cons se_int sa_nil)) (sa_cons (se_frz (sl_lst (sa_cons se_int sa_nil))) (sa_cons (se_def (sa_cons se_var sa_nil)) (sa_cons (se_new (cr_Forest_ok g) (sa_cons (se_tup (sa_cons se_non sa_nil)) (sa_cons (se_tup (sa_cons se_int sa_nil)) sa_nil))) sa_nil))))))))))))) sg_name)
      (ss_seq (ss_asgG (se_op ix_ok se_var (se_def (sa_cons se_var (sa_cons se_int sa_nil)))) sg_name)
      (ss_ifS (st_test (se_op ne_ok (se_lamcall (fun E => (se_def (sa_cons se_var sa_nil)))) (se_op ix_ok (se_frz (sl_lst (sa_cons se_str (sa_cons se_str sa_nil)))) (se_call int_ok (sa_cons (se_def (sa_cons se_var (sa_cons se_int (sa_cons (se_op pow_ok se_int se_int) sa_nil)))) sa_nil))))) (ss_ret se_bl) ss_next)))))))))))))))
      (ss_ret se_bl))))) h
end
end W3
namespace W3
open PySem PySem.Spec PyProof.Rows L2 M3
theorem is_integer_i (g : G) (i : Int) (S : Store) : mPure (m_is_integer g) [.dat (.int i)] S = .ok (.dat (.bl true)) S := pure_dat rfl (S' := []) (by
  unfold m_is_integer
  dsimp! [])
theorem is_between_i (g : G) (i j k : Int) (S : Store) : mPure (m_is_between g) [.dat (.int i), .dat (.int j), .dat (.int k)] S = .ok (.dat (.bl (decide (i ≤ k) && decide (k ≤ j)))) S := pure_dat rfl (S' := []) (by
  unfold m_is_between
  dsimp! [is_integer_i])
theorem is_house_i (g : G) (n k : Int) (S : Store) : mPure (m_is_house g) [.dat (.int n), .dat (.int k)] S = .ok (.dat (.bl (decide (0 ≤ k) && decide (k ≤ n - 1)))) S := pure_dat rfl (S' := []) (by
  unfold m_is_house
  dsimp! [is_between_i])
theorem is_many_i (g : G) (k : Int) (S : Store) : mPure (m_is_many g) [.dat (.int k)] S = .ok (.dat (.bl (decide (1 ≤ k) && decide (k ≤ 64)))) S := pure_dat rfl (S' := []) (by
  unfold m_is_many
  dsimp! [is_between_i])
def bls (l : List Bool) : List D := l.map fun b => .dat (.bl b)
theorem tm {δ : DEnv} {S : Store} {J : DEnv → Store → Prop} {Q : Out → Store → Prop} (h : J δ S) : TurnP J Q (.nx δ) S := h
theorem nones (ps : List (Option Nat)) : ((ps.map ov).map D.dat).filterMap (fun d => match d with | .dat .non => some (D.dat (.bl true)) | _ => some (D.dat (.bl false))) = bls (ps.map fun o => o.isNone) := by
  induction ps with
  | nil => rfl
  | cons o ps ih => cases o <;> (simp only [List.map_cons, List.filterMap_cons, ov, ih]; rfl)
theorem come_t (g : G) {ps : List (Option Nat)} (t : W2.Tree ps) (hn : ps.length ≤ 64) (S : Store) : mPure (m_come_to_roots g) [.dat (.tup (ps.map ov))] S = .ok (.dat (.bl true)) S := by
  suffices h : ∃ d S', m_come_to_roots g [.dat (.tup (ps.map ov))] [] = .ok d S' ∧ d = .dat (.bl true) from let ⟨d, S', e, z⟩ := h; pure_dat rfl (z ▸ e)
  unfold m_come_to_roots
  rw [mBody_fin]
  refine fin_ends ?_
  have e1 : ∀ δ S, δ[0]? = some (some (.dat (.tup (ps.map ov)))) → 2 < δ.length → mLc (mWalk (mVar 0)) (gmName 2) mYes (mOp aIsN (mVar 2) (mC .non)) [2] δ S = .ok (bls (ps.map fun o => o.isNone)) S := fun δ S hδ h2 => by
    rw [← nones]
    refine lc_items _ (walk_t (by unfold mVar; rw [hδ])) (by simp; omega) fun d hd => ⟨_, rfl, ?_⟩
    obtain ⟨p, hp, rfl⟩ := List.mem_map.mp hd
    obtain ⟨o, ho, rfl⟩ := List.mem_map.mp hp
    have e : ((wipeD δ [2]).set 2 (some (D.dat (ov o))))[2]? = some (some (.dat (ov o))) := List.getElem?_set_self (by simp [wipeD]; exact h2)
    cases o with
    | none => exact ⟨rfl, by unfold mOp mVar; rw [e]; rfl⟩
    | some q => exact ⟨rfl, by unfold mOp mVar; rw [e]; rfl⟩
  dsimp! [List.length_map]
  rw [e1 _ _ rfl (by simp)]
  dsimp! []
  -- the houses
  refine then_ends (Q1 := fun o S => ∃ δ, o = .nx δ) ?_ (fun o S ⟨δ, e⟩ => by subst e; exact ⟨_, _, rfl, _, rfl, rfl⟩)
  rw [for_items (rng1_ok (n := ps.length) (by dsimp! [List.length_map] <;> rfl) (by omega))]
  refine forL_ends (fun i δ S => ∃ (bs : List Bool) (x2 x3 x4 x5 x6 : Option D), δ = [some (.dat (.tup (ps.map ov))), some (.obj 0), x2, x3, x4, x5, x6] ∧ S[0]? = some (.lst (bls bs)) ∧ bs.length = ps.length ∧ ∀ h : Nat, ps[h]? = some none → bs[h]? = some true) (i := 0)
    ⟨ps.map fun o => o.isNone, none, none, none, none, none, rfl, rfl, by simp, fun h e => by rw [List.getElem?_map, e]; rfl⟩ ?_ (fun δ S _ => ⟨_, rfl⟩)
  rintro i d δ S hd ⟨bs, x2, x3, x4, x5, x6, rfl, hS, hb, hr⟩
  obtain ⟨hi, rfl⟩ := rngD_get hd
  have hS0 := lt_of_get hS
  dsimp! []
  refine then_ends (Q1 := fun o S' => ∃ (a x5 : Option D) (line : List Nat) (bs : List Bool), o = .nx [some (.dat (.tup (ps.map ov))), some (.obj 0), x2, some (.dat (.int (0 + (i : Int)))), some (.obj S.length), x5, x6] ∧ S'[0]? = some (.lst (bls bs)) ∧ bs.length = ps.length ∧ (∀ h : Nat, ps[h]? = some none → bs[h]? = some true) ∧ S'[S.length]? = some (.lst ((line.map nv).map .dat)) ∧ a = x5 ∧ ∀ x ∈ line, x < ps.length) ?_ ?_
  · refine while_ends (m := (W2.up ps i).length) (fun m δ S' => ∃ (line : List Nat) (a : Nat) (r : List Nat) (bs : List Bool), δ = [some (.dat (.tup (ps.map ov))), some (.obj 0), x2, some (.dat (.int (0 + (i : Int)))), some (.obj S.length), some (.dat (nv a)), x6] ∧ S'[0]? = some (.lst (bls bs)) ∧ bs.length = ps.length ∧ (∀ h : Nat, ps[h]? = some none → bs[h]? = some true) ∧ S'[S.length]? = some (.lst ((line.map nv).map .dat)) ∧ W2.Ch ps i (line ++ a :: r) ∧ m = (a :: r).length) (by have := (t i hi).2; omega) ?_ ?_
    · obtain ⟨c, _⟩ := t i hi
      obtain ⟨r, er⟩ := c.head
      refine ⟨[], i, r, bs, by rw [Int.zero_add]; rfl, get_app hS, hb, hr, get_new, er ▸ c, by rw [er]⟩
    · rintro m δ S' ⟨line, a, r, bs, rfl, h0, hb, hr, hL, c, rfl⟩
      have ha : a < ps.length := c.lt a (by simp)
      have eb : bs[a]? = some bs[a] := List.getElem?_eq_getElem (by omega)
      have ec : W2.Ch ps a (a :: r) := W2.Ch.tail c
      have hlen := c.len
      rw [List.length_append, List.length_cons] at hlen
      have eix : aIx S' (.obj 0) (.dat (nv a)) = some (.dat (.bl bs[a])) := ix_o h0 (atN (map_get eb))
      refine ⟨!bs[a], S', by dsimp! [eix], fun hx => ?_, fun hx => ?_⟩
      · have hpa : ps[a]? ≠ some none := fun z => by
          have := hr a z
          rw [eb] at this
          have := Option.some.inj this
          rw [this] at hx; cases hx
        cases ec with
        | root e => exact absurd e hpa
        | @step _ p l e c2 =>
          obtain ⟨r2, e2⟩ := c2.head
          subst e2
          have elen : aLen S' [.obj S.length] = some (.dat (.int (line.length : Nat))) := by
            rw [len_o hL]; simp
          have eap : updL fAppend (.obj S.length) [.dat (nv a)] S' = .ok (.dat .non) (S'.set S.length (.lst ((line.map nv).map .dat ++ [.dat (nv a)]))) := app_o hL (by simp; omega)
          have epx : aIx (S'.set S.length (.lst ((line.map nv).map .dat ++ [.dat (nv a)]))) (.dat (.tup (ps.map ov))) (.dat (nv a)) = some (.dat (ov (some p))) := ix_t (atN (map_get e))
          have ene : decide ((line.length : Int) = (ps.length : Int)) = false := decide_eq_false (by omega)
          unfold mBM
          dsimp! [elen, List.length_map, ene, kind_o hL, eap, epx]
          refine Ends.of (tm ⟨_, Nat.lt_succ_self _, line ++ [a], p, r2, bs, rfl, get_set (by omega) h0, hb, hr, ?_, by simpa using c, rfl⟩)
          rw [get_set_self hL]
          simp
      · exact ⟨_, _, line, bs, rfl, h0, hb, hr, hL, rfl, fun x hx => c.lt x (by simp [hx])⟩
  · rintro o S' ⟨a, x5, line, bs, rfl, h0, hb, hr, hL, _, hx⟩
    dsimp! []
    rw [for_ob (walk_o (o := S.length) (by dsimp! [] <;> rfl) hL) hL]
    refine forO_ends (l := (line.map nv).map .dat) (fun j δ S'' => ∃ (bs : List Bool) (x6 : Option D), δ = [some (.dat (.tup (ps.map ov))), some (.obj 0), x2, some (.dat (.int (0 + (i : Int)))), some (.obj S.length), x5, x6] ∧ S''[0]? = some (.lst (bls bs)) ∧ bs.length = ps.length ∧ (∀ h : Nat, ps[h]? = some none → bs[h]? = some true) ∧ S''[S.length]? = some (.lst ((line.map nv).map .dat))) (fun j δ S'' ⟨_, _, _, _, _, _, h⟩ => h) ?_ ?_ (by simp) ⟨bs, x6, rfl, h0, hb, hr, hL⟩
    · rintro j d δ S'' ej ⟨bs, x6, rfl, h0, hb, hr, hL⟩
      obtain ⟨p, hp, rfl⟩ := List.mem_map.mp (List.mem_of_getElem? ej)
      obtain ⟨h, hh, rfl⟩ := List.mem_map.mp hp
      have es : setD (.obj 0) (.dat (nv h)) (.dat (.bl true)) S'' = some (S''.set 0 (.lst ((bls bs).set h (.dat (.bl true))))) := setD_o h0 (ixN_nat (by unfold bls; rw [List.length_map, hb]; exact hx h hh))
      dsimp! [es]
      refine Ends.of (tm ⟨bs.set h true, _, rfl, ?_, by simp [hb], fun k ek => ?_, get_set (by omega) hL⟩)
      · rw [get_set_self h0]
        unfold bls
        rw [List.map_set]
      · by_cases e : h = k
        · subst e; rw [List.getElem?_set_self (by have := lt_of_get (hr _ ek); exact this)]
        · rw [List.getElem?_set_ne e]; exact hr k ek
    · rintro δ S'' ⟨bs, x6, rfl, h0, hb, hr, hL⟩
      exact ⟨bs, _, _, _, _, _, rfl, h0, hb, hr⟩
end W3
namespace W3
structure Hs where
  up : Option Nat
  left : Option Nat
  right : Option Nat
  turned : Bool
  added : Int
  value : Int
abbrev Shp := List Hs
def ups (s : Shp) : List (Option Nat) := s.map Hs.up
def SonOf (s : Shp) (u h : Nat) : Prop := ∃ y, s[u]? = some y ∧ (y.left = some h ∨ y.right = some h)
def Son (s : Shp) (h : Nat) : Prop := ∃ u, SonOf s u h
structure RS (s : Shp) : Prop where
  n1 : 1 ≤ s.length
  n64 : s.length ≤ 64
  son : ∀ (u h : Nat), SonOf s u h → ∃ x, s[h]? = some x ∧ x.up = some u
  ne : ∀ (u c : Nat) (y : Hs), s[u]? = some y → y.left = some c → y.right ≠ some c
  tree : W2.Tree (ups s)
theorem ups_len {s : Shp} : (ups s).length = s.length := List.length_map ..
theorem ups_at {s : Shp} {h : Nat} {x : Hs} (e : s[h]? = some x) : (ups s)[h]? = some x.up := by unfold ups; rw [List.getElem?_map, e]; rfl
theorem at_of {s : Shp} {h : Nat} (hh : h < s.length) : ∃ x, s[h]? = some x := ⟨_, List.getElem?_eq_getElem hh⟩
theorem lt_at {α : Type} {s : List α} {h : Nat} {x : α} (e : s[h]? = some x) : h < s.length := (List.getElem?_eq_some_iff.mp e).1
section
variable {s : Shp} (R : RS s)
include R
theorem RS.up_lt {h u : Nat} {x : Hs} (e : s[h]? = some x) (q : x.up = some u) : u < s.length := by
  have := R.tree.inr h u (by rw [ups_at e, q])
  rwa [ups_len] at this
theorem RS.upc {u h : Nat} (so : SonOf s u h) : W2.up (ups s) h = h :: W2.up (ups s) u := by
  obtain ⟨x, e, q⟩ := R.son u h so
  have hu := R.up_lt e q
  exact W2.up_of (W2.Ch.step (by rw [ups_at e, q]) (R.tree u (by rw [ups_len]; exact hu)).1)
theorem RS.chain {h : Nat} (hh : h < s.length) : W2.Ch (ups s) h (W2.up (ups s) h) ∧ (W2.up (ups s) h).length ≤ s.length ∧ 1 ≤ (W2.up (ups s) h).length := by
  obtain ⟨c, l⟩ := R.tree h (by rw [ups_len]; exact hh)
  obtain ⟨r, e⟩ := c.head
  exact ⟨c, by rwa [ups_len] at l, by rw [e]; simp⟩
theorem RS.sonof_inj {u v h : Nat} (a : SonOf s u h) (b : SonOf s v h) : u = v := by
  obtain ⟨x, e, q⟩ := R.son u h a
  obtain ⟨y, e', q'⟩ := R.son v h b
  rw [e] at e'
  cases e'
  rw [q] at q'
  exact Option.some.inj q'
end
/-- the part of a house, in order, with values as told -/
inductive Pt (s : Shp) : Nat → Option Nat → Bool → Int → List (Nat × Int) → Prop
  | nil {d : Nat} {b : Bool} {acc : Int} : Pt s (d + 1) none b acc []
  | node {d h : Nat} {x : Hs} {b : Bool} {acc : Int} {l r : List (Nat × Int)} (e : s[h]? = some x) (pl : Pt s d x.left (xor b x.turned) (acc + x.added) l) (pr : Pt s d x.right (xor b x.turned) (acc + x.added) r) :
      Pt s (d + 1) (some h) b acc (if xor b x.turned = true then r ++ (h, x.value + acc) :: l else l ++ (h, x.value + acc) :: r)
theorem Pt.det {s : Shp} {d : Nat} {o : Option Nat} {b : Bool} {acc : Int} {l : List (Nat × Int)} (p : Pt s d o b acc l) : ∀ {d' : Nat} {l' : List (Nat × Int)}, Pt s d' o b acc l' → l = l' := by
  induction p with
  | nil => intro d' l' q; cases q; rfl
  | node e _ _ ih1 ih2 =>
    intro d' l' q
    cases q with
    | node e' q1 q2 =>
      rw [e] at e'
      cases e'
      rw [ih1 q1, ih2 q2]
theorem Pt.mono {s : Shp} {d : Nat} {o : Option Nat} {b : Bool} {acc : Int} {l : List (Nat × Int)} (p : Pt s d o b acc l) : ∀ {d' : Nat}, d ≤ d' → Pt s d' o b acc l := by
  induction p with
  | nil => intro d' h; cases d' with
    | zero => omega
    | succ d' => exact .nil
  | node e _ _ ih1 ih2 => intro d' h; cases d' with
    | zero => omega
    | succ d' => exact .node e (ih1 (by omega)) (ih2 (by omega))
section
variable {s : Shp} (R : RS s)
include R
theorem RS.pt_ex : ∀ (k : Nat) {h : Nat} (b : Bool) (acc : Int), h < s.length → (W2.up (ups s) h).length + k = s.length + 1 → ∃ l, Pt s (k + 1) (some h) b acc l
  | 0, h, b, acc, hh, e => by have := (R.chain hh).2.1; omega
  | k + 1, h, b, acc, hh, e => by
    obtain ⟨x, ex⟩ := at_of hh
    have sub : ∀ o : Option Nat, (o = x.left ∨ o = x.right) → ∃ l, Pt s (k + 1) o (xor b x.turned) (acc + x.added) l := fun o ho => by
      cases o with
      | none => exact ⟨[], .nil⟩
      | some c =>
        have so : SonOf s h c := ⟨x, ex, ho.imp Eq.symm Eq.symm⟩
        obtain ⟨y, ey, _⟩ := R.son h c so
        refine RS.pt_ex k _ _ (lt_at ey) ?_
        rw [R.upc so, List.length_cons]
        omega
    obtain ⟨l, pl⟩ := sub _ (.inl rfl)
    obtain ⟨r, pr⟩ := sub _ (.inr rfl)
    exact ⟨_, .node ex pl pr⟩
theorem RS.pt {h : Nat} (b : Bool) (acc : Int) (hh : h < s.length) : ∃ l, Pt s 66 (some h) b acc l := by
  have c := R.chain hh
  have n := R.n64
  obtain ⟨l, p⟩ := R.pt_ex (s.length + 1 - (W2.up (ups s) h).length) b acc hh (by omega)
  exact ⟨l, p.mono (by omega)⟩
end
/-- climbing from a house to x by sons: the sum of what waits on the way -/
inductive Cx (s : Shp) (x : Nat) : Nat → Int → Prop
  | here : Cx s x x 0
  | step {h u : Nat} {y : Hs} {w : Int} (e : s[u]? = some y) (so : y.left = some h ∨ y.right = some h) (c : Cx s x u w) : Cx s x h (w + y.added)
theorem Cx.trans {s : Shp} {x y h : Nat} {v w : Int} (c : Cx s x h v) (k : Cx s y x w) : Cx s y h (w + v) := by
  induction c with
  | here => rw [Int.add_zero]; exact k
  | step e so _ ih => rw [← Int.add_assoc]; exact .step e so ih
theorem Pt.climb {s : Shp} {d : Nat} {o : Option Nat} {b : Bool} {acc : Int} {l : List (Nat × Int)} (p : Pt s d o b acc l) : ∀ {x : Nat}, o = some x → ∀ z ∈ l, ∃ (c : Int) (y : Hs), Cx s x z.1 c ∧ s[z.1]? = some y ∧ z.2 = y.value + acc + c := by
  induction p with
  | nil => intro x e; cases e
  | @node d h x b acc l r e pl pr ih1 ih2 =>
    intro x' ex z m
    cases ex
    have go : ∀ (o : Option Nat) (l : List (Nat × Int)), (o = x.left ∨ o = x.right) → (∀ {x' : Nat}, o = some x' → ∀ z ∈ l, ∃ (c : Int) (y : Hs), Cx s x' z.1 c ∧ s[z.1]? = some y ∧ z.2 = y.value + (acc + x.added) + c) → (o = none → l = []) → z ∈ l → ∃ (c : Int) (y : Hs), Cx s h z.1 c ∧ s[z.1]? = some y ∧ z.2 = y.value + acc + c := fun o l ho ih n m => by
      cases o with
      | none => rw [n rfl] at m; cases m
      | some k =>
        obtain ⟨c, y, cx, ey, ez⟩ := ih rfl z m
        have k1 : Cx s h k (0 + x.added) := .step e (ho.imp Eq.symm Eq.symm) .here
        refine ⟨_, y, cx.trans k1, ey, ?_⟩
        rw [ez]; omega
    have nl : x.left = none → l = [] := fun q => by rw [q] at pl; cases pl; rfl
    have nr : x.right = none → r = [] := fun q => by rw [q] at pr; cases pr; rfl
    have me : z = (h, x.value + acc) → ∃ (c : Int) (y : Hs), Cx s h z.1 c ∧ s[z.1]? = some y ∧ z.2 = y.value + acc + c := fun q => by
      subst q; exact ⟨0, x, .here, e, by simp⟩
    split at m
    · rcases List.mem_append.mp m with m | m
      · exact go _ r (.inr rfl) ih2 nr m
      · rcases List.mem_cons.mp m with m | m
        · exact me m
        · exact go _ l (.inl rfl) ih1 nl m
    · rcases List.mem_append.mp m with m | m
      · exact go _ l (.inl rfl) ih1 nl m
      · rcases List.mem_cons.mp m with m | m
        · exact me m
        · exact go _ r (.inr rfl) ih2 nr m
theorem Pt.head {s : Shp} {d h : Nat} {b : Bool} {acc : Int} {l : List (Nat × Int)} (p : Pt s d (some h) b acc l) : h ∈ l.map Prod.fst := by
  cases p with
  | node e pl pr => split <;> simp
theorem Pt.down {s : Shp} {d : Nat} {o : Option Nat} {b : Bool} {acc : Int} {l : List (Nat × Int)} (p : Pt s d o b acc l) : ∀ {u h : Nat}, u ∈ l.map Prod.fst → SonOf s u h → h ∈ l.map Prod.fst := by
  induction p with
  | nil => intro u h m; cases m
  | @node d k x b acc l r e pl pr ih1 ih2 =>
    intro u h m so
    have me : u = k → h ∈ l.map Prod.fst ∨ h ∈ r.map Prod.fst := fun q => by
      subst q
      obtain ⟨y, ey, hy⟩ := so
      rw [e] at ey
      cases ey
      rcases hy with hy | hy
      · rw [hy] at pl; exact .inl pl.head
      · rw [hy] at pr; exact .inr pr.head
    have key : h ∈ l.map Prod.fst ∨ h ∈ r.map Prod.fst := by
      split at m
      · simp only [List.map_append, List.map_cons, List.mem_append, List.mem_cons] at m
        rcases m with m | m | m
        · exact .inr (ih2 m so)
        · exact me m
        · exact .inl (ih1 m so)
      · simp only [List.map_append, List.map_cons, List.mem_append, List.mem_cons] at m
        rcases m with m | m | m
        · exact .inl (ih1 m so)
        · exact me m
        · exact .inr (ih2 m so)
    split <;> (simp only [List.map_append, List.map_cons, List.mem_append, List.mem_cons]; rcases key with q | q <;> simp [q])
theorem Pt.cover {s : Shp} {d x : Nat} {b : Bool} {acc : Int} {l : List (Nat × Int)} (p : Pt s d (some x) b acc l) {h : Nat} {w : Int} (c : Cx s x h w) : h ∈ l.map Prod.fst := by
  induction c with
  | here => exact p.head
  | step e so _ ih => exact p.down ih ⟨_, e, so⟩
section
variable {s : Shp} (R : RS s)
include R
theorem RS.cx_up {x h : Nat} {w : Int} (hx : x < s.length) (c : Cx s x h w) : ∃ pre, W2.up (ups s) h = pre ++ W2.up (ups s) x ∧ (∀ y ∈ pre, Son s y) ∧ h < s.length := by
  induction c with
  | here => exact ⟨[], rfl, fun y m => (nomatch m), hx⟩
  | @step h u y w e so _ ih =>
    obtain ⟨pre, e1, hs, _⟩ := ih
    have sof : SonOf s u h := ⟨y, e, so⟩
    obtain ⟨z, ez, _⟩ := R.son u h sof
    refine ⟨h :: pre, by rw [R.upc sof, e1]; rfl, fun z m => ?_, lt_at ez⟩
    rcases List.mem_cons.mp m with rfl | m
    · exact ⟨u, sof⟩
    · exact hs z m
theorem RS.up_head {x : Nat} (hx : x < s.length) : ∃ r, W2.up (ups s) x = x :: r := (R.chain hx).1.head
/-- the first on the way up that is no son -/
theorem first_split {P : Nat → Prop} : ∀ {p q : List Nat} {a b : Nat} {r t : List Nat}, p ++ a :: r = q ++ b :: t → (∀ y ∈ p, P y) → (∀ y ∈ q, P y) → ¬ P a → ¬ P b → a = b
  | [], [], a, b, r, t, e, _, _, _, _ => (List.cons.inj e).1
  | [], y :: q, a, b, r, t, e, _, hq, na, _ => by
    have := (List.cons.inj e).1
    subst this
    exact absurd (hq _ (by simp)) na
  | y :: p, [], a, b, r, t, e, hp, _, _, nb => by
    have := (List.cons.inj e).1
    subst this
    exact absurd (hp _ (by simp)) nb
  | y :: p, z :: q, a, b, r, t, e, hp, hq, na, nb => first_split (List.cons.inj e).2 (fun y m => hp y (List.mem_cons_of_mem _ m)) (fun y m => hq y (List.mem_cons_of_mem _ m)) na nb
theorem RS.top_inj {t u h : Nat} {v w : Int} (ht : t < s.length) (hu : u < s.length) (nt : ¬ Son s t) (nu : ¬ Son s u) (c : Cx s t h v) (k : Cx s u h w) : t = u := by
  obtain ⟨p, e1, hp, _⟩ := R.cx_up ht c
  obtain ⟨q, e2, hq, _⟩ := R.cx_up hu k
  obtain ⟨r, er⟩ := R.up_head ht
  obtain ⟨r', er'⟩ := R.up_head hu
  rw [er] at e1
  rw [er'] at e2
  exact first_split R (e1.symm.trans e2) hp hq nt nu
theorem RS.top_ex : ∀ (k : Nat) {h : Nat}, h < s.length → (W2.up (ups s) h).length ≤ k → ∃ (t : Nat) (w : Int), t < s.length ∧ ¬ Son s t ∧ Cx s t h w
  | 0, h, hh, e => by have := (R.chain hh).2.2; omega
  | k + 1, h, hh, e => by
    by_cases c : Son s h
    · obtain ⟨u, so⟩ := c
      have q := R.upc so
      rw [q, List.length_cons] at e
      obtain ⟨y, ey, hy⟩ := id so
      obtain ⟨t, w, ht, nt, cx⟩ := RS.top_ex k (h := u) (lt_at ey) (by omega)
      exact ⟨t, _, ht, nt, .step ey hy cx⟩
    · exact ⟨h, 0, hh, c, .here⟩
theorem RS.top {h : Nat} (hh : h < s.length) : ∃ (t : Nat) (w : Int), t < s.length ∧ ¬ Son s t ∧ Cx s t h w := R.top_ex _ hh (Nat.le_refl _)
theorem RS.nodup {d : Nat} {o : Option Nat} {b : Bool} {acc : Int} {l : List (Nat × Int)} (p : Pt s d o b acc l) (ho : ∀ x, o = some x → x < s.length) : (l.map Prod.fst).Nodup := by
  induction p with
  | nil => exact List.nodup_nil
  | @node d h x b acc l r e pl pr ih1 ih2 =>
    have hh := lt_at e
    have lt : ∀ {c : Nat}, (x.left = some c ∨ x.right = some c) → c < s.length := fun {c} q => by
      obtain ⟨y, ey, _⟩ := R.son h c ⟨x, e, q⟩
      exact lt_at ey
    have nl := ih1 fun c q => lt (.inl q)
    have nr := ih2 fun c q => lt (.inr q)
    -- a house of the left's part goes up by way of the left
    have by_ : ∀ {o : Option Nat} {m : List (Nat × Int)} {acc : Int} {b : Bool}, (o = x.left ∨ o = x.right) → Pt s d o b acc m → ∀ k ∈ m.map Prod.fst, ∃ c pre, o = some c ∧ W2.up (ups s) k = pre ++ c :: W2.up (ups s) h := fun {o m acc b} q p k hk => by
      cases o with
      | none => cases p; cases hk
      | some c =>
        obtain ⟨z, mz, rfl⟩ := List.mem_map.mp hk
        obtain ⟨v, y, cx, _⟩ := p.climb rfl z mz
        have sof : SonOf s h c := ⟨x, e, q.imp Eq.symm Eq.symm⟩
        obtain ⟨pre, e1, _⟩ := R.cx_up (lt (q.imp Eq.symm Eq.symm)) cx
        exact ⟨c, pre, rfl, by rw [e1, R.upc sof]⟩
    have len : ∀ {o : Option Nat} {m : List (Nat × Int)} {acc : Int} {b : Bool}, (o = x.left ∨ o = x.right) → Pt s d o b acc m → h ∉ m.map Prod.fst := fun {o m acc b} q p hk => by
      obtain ⟨c, pre, _, e1⟩ := by_ q p h hk
      have := congrArg List.length e1
      simp at this
      omega
    have dis : ∀ k ∈ l.map Prod.fst, k ∉ r.map Prod.fst := fun k k1 k2 => by
      obtain ⟨c1, p1, q1, e1⟩ := by_ (.inl rfl) pl k k1
      obtain ⟨c2, p2, q2, e2⟩ := by_ (.inr rfl) pr k k2
      have e3 : (p1 ++ [c1]) ++ W2.up (ups s) h = (p2 ++ [c2]) ++ W2.up (ups s) h := by rw [List.append_assoc, List.append_assoc]; exact e1.symm.trans e2
      have e4 := List.append_cancel_right e3
      have e5 : c1 = c2 := by
        have := congrArg List.getLast? e4
        simpa using this
      subst e5
      exact R.ne h c1 x e q1 q2
    split
    · simp only [List.map_append, List.map_cons]
      exact List.nodup_append.mpr ⟨nr, List.nodup_cons.mpr ⟨len (.inl rfl) pl, nl⟩, fun a m1 b m2 q => by
        subst q
        rcases List.mem_cons.mp m2 with q | q
        · subst q; exact len (.inr rfl) pr m1
        · exact dis a q m1⟩
    · simp only [List.map_append, List.map_cons]
      exact List.nodup_append.mpr ⟨nl, List.nodup_cons.mpr ⟨len (.inr rfl) pr, nr⟩, fun a m1 b m2 q => by
        subst q
        rcases List.mem_cons.mp m2 with q | q
        · subst q; exact len (.inl rfl) pl m1
        · exact dis a m1 q⟩
end
/-- the row of a top -/
def Row (s : Shp) (t : Nat) (l : List (Nat × Int)) : Prop := t < s.length ∧ ¬ Son s t ∧ Pt s 66 (some t) false 0 l
/-- what is told -/
structure Told (s : Shp) (ps : List (Option Nat)) (ws : List Int) : Prop where
  lp : ps.length = s.length
  lw : ws.length = s.length
  par : ∀ (t : Nat) (l : List (Nat × Int)) (x : Hs), Row s t l → s[t]? = some x → ∀ (i h : Nat) (w : Int), l[i]? = some (h, w) → ps[h]? = some (if i = 0 then x.up else (l[i - 1]?).map Prod.fst)
  wor : ∀ (t : Nat) (l : List (Nat × Int)), Row s t l → ∀ (h : Nat) (w : Int), (h, w) ∈ l → ws[h]? = some w
section
variable {s : Shp} (R : RS s)
include R
theorem RS.row_ex {t : Nat} (ht : t < s.length) (nt : ¬ Son s t) : ∃ l, Row s t l := let ⟨l, p⟩ := R.pt false 0 ht; ⟨l, ht, nt, p⟩
theorem RS.in_row {h : Nat} (hh : h < s.length) : ∃ (t : Nat) (l : List (Nat × Int)) (w : Int), Row s t l ∧ (h, w) ∈ l := by
  obtain ⟨t, v, ht, nt, c⟩ := R.top hh
  obtain ⟨l, r⟩ := R.row_ex ht nt
  have m := r.2.2.cover c
  obtain ⟨z, mz, rfl⟩ := List.mem_map.mp m
  exact ⟨t, l, z.2, r, mz⟩
theorem RS.row_inj {t u : Nat} {l m : List (Nat × Int)} {h : Nat} {v w : Int} (r : Row s t l) (q : Row s u m) (a : (h, v) ∈ l) (b : (h, w) ∈ m) : t = u ∧ l = m ∧ v = w := by
  obtain ⟨c, x, cx, _, e⟩ := r.2.2.climb rfl _ a
  obtain ⟨c', x', cx', _, e'⟩ := q.2.2.climb rfl _ b
  have := R.top_inj r.1 q.1 r.2.1 q.2.1 cx cx'
  subst this
  have := r.2.2.det q.2.2
  subst this
  refine ⟨rfl, rfl, ?_⟩
  have nd := R.nodup r.2.2 fun x e => by cases e; exact r.1
  obtain ⟨i, hi⟩ := List.getElem?_of_mem a
  obtain ⟨j, hj⟩ := List.getElem?_of_mem b
  have i1 : (l.map Prod.fst)[i]? = some h := by rw [List.getElem?_map, hi]; rfl
  have j1 : (l.map Prod.fst)[j]? = some h := by rw [List.getElem?_map, hj]; rfl
  have := M3.nd_inj nd i1 j1
  subst this
  rw [hi] at hj
  exact (Prod.mk.inj (Option.some.inj hj)).2
end
end W3
namespace W3
open PySem PySem.Spec PyProof.Rows L2 M3
def hsP (x : Hs) : P := .tup [ov x.up, ov x.left, ov x.right, .bl x.turned, .int x.added, .int x.value]
def shP (s : Shp) : P := .tup (s.map hsP)
def stR (g : G) (u l r t a v : D) : O := .ins g.Stand [("up", u), ("left", l), ("right", r), ("turned", t), ("added", a), ("value", v)]
def stO (g : G) (x : Hs) : O := stR g (.dat (ov x.up)) (.dat (ov x.left)) (.dat (ov x.right)) (.dat (.bl x.turned)) (.dat (.int x.added)) (.dat (.int x.value))
theorem n_up_left : (("up" : Str) = "left") = False := eq_false (by decide +kernel)
theorem n_up_right : (("up" : Str) = "right") = False := eq_false (by decide +kernel)
theorem n_up_turned : (("up" : Str) = "turned") = False := eq_false (by decide +kernel)
theorem n_up_added : (("up" : Str) = "added") = False := eq_false (by decide +kernel)
theorem n_up_value : (("up" : Str) = "value") = False := eq_false (by decide +kernel)
theorem n_left_up : (("left" : Str) = "up") = False := eq_false (by decide +kernel)
theorem n_left_right : (("left" : Str) = "right") = False := eq_false (by decide +kernel)
theorem n_left_turned : (("left" : Str) = "turned") = False := eq_false (by decide +kernel)
theorem n_left_added : (("left" : Str) = "added") = False := eq_false (by decide +kernel)
theorem n_left_value : (("left" : Str) = "value") = False := eq_false (by decide +kernel)
theorem n_right_up : (("right" : Str) = "up") = False := eq_false (by decide +kernel)
theorem n_right_left : (("right" : Str) = "left") = False := eq_false (by decide +kernel)
theorem n_right_turned : (("right" : Str) = "turned") = False := eq_false (by decide +kernel)
theorem n_right_added : (("right" : Str) = "added") = False := eq_false (by decide +kernel)
theorem n_right_value : (("right" : Str) = "value") = False := eq_false (by decide +kernel)
theorem n_turned_up : (("turned" : Str) = "up") = False := eq_false (by decide +kernel)
theorem n_turned_left : (("turned" : Str) = "left") = False := eq_false (by decide +kernel)
theorem n_turned_right : (("turned" : Str) = "right") = False := eq_false (by decide +kernel)
theorem n_turned_added : (("turned" : Str) = "added") = False := eq_false (by decide +kernel)
theorem n_turned_value : (("turned" : Str) = "value") = False := eq_false (by decide +kernel)
theorem n_added_up : (("added" : Str) = "up") = False := eq_false (by decide +kernel)
theorem n_added_left : (("added" : Str) = "left") = False := eq_false (by decide +kernel)
theorem n_added_right : (("added" : Str) = "right") = False := eq_false (by decide +kernel)
theorem n_added_turned : (("added" : Str) = "turned") = False := eq_false (by decide +kernel)
theorem n_added_value : (("added" : Str) = "value") = False := eq_false (by decide +kernel)
theorem n_value_up : (("value" : Str) = "up") = False := eq_false (by decide +kernel)
theorem n_value_left : (("value" : Str) = "left") = False := eq_false (by decide +kernel)
theorem n_value_right : (("value" : Str) = "right") = False := eq_false (by decide +kernel)
theorem n_value_turned : (("value" : Str) = "turned") = False := eq_false (by decide +kernel)
theorem n_value_added : (("value" : Str) = "added") = False := eq_false (by decide +kernel)
section
variable {g : G} (X : Gx g) {S : Store} {i : Nat} {u l r t a v d : D}
include X
theorem FL_up : (g.Stand, ("up" : Str)) ∈ g.FL := by rw [X.FL]; simp
theorem FL_left : (g.Stand, ("left" : Str)) ∈ g.FL := by rw [X.FL]; simp
theorem FL_right : (g.Stand, ("right" : Str)) ∈ g.FL := by rw [X.FL]; simp
theorem FL_turned : (g.Stand, ("turned" : Str)) ∈ g.FL := by rw [X.FL]; simp
theorem FL_added : (g.Stand, ("added" : Str)) ∈ g.FL := by rw [X.FL]; simp
theorem FL_value : (g.Stand, ("value" : Str)) ∈ g.FL := by rw [X.FL]; simp
theorem fR_up (h : S[i]? = some (stR g u l r t a v)) : fldD g.FL "up" S (.obj i) = some u := by
  show (match S[i]? with | some (.ins C l) => if (C, ("up" : Str)) ∈ g.FL then lookD "up" l else none | _ => none) = _
  rw [h]
  show (if (g.Stand, ("up" : Str)) ∈ g.FL then lookD "up" _ else none) = _
  rw [if_pos (FL_up X)]
  simp only [lookD, if_false, if_true]
theorem sR_up (h : S[i]? = some (stR g u l r t a v)) : setF g.FL "up" (.obj i) d S = some (S.set i (stR g d l r t a v)) := by
  rw [setF_o (l := [("up", u), ("left", l), ("right", r), ("turned", t), ("added", a), ("value", v)]) h (FL_up X) (by simp)]
  have : putD "up" d [("up", u), ("left", l), ("right", r), ("turned", t), ("added", a), ("value", v)] = ([("up", d), ("left", l), ("right", r), ("turned", t), ("added", a), ("value", v)] : List (Str × D)) := by
    simp only [putD, if_false, if_true]
  rw [this]; rfl
theorem fR_left (h : S[i]? = some (stR g u l r t a v)) : fldD g.FL "left" S (.obj i) = some l := by
  show (match S[i]? with | some (.ins C l) => if (C, ("left" : Str)) ∈ g.FL then lookD "left" l else none | _ => none) = _
  rw [h]
  show (if (g.Stand, ("left" : Str)) ∈ g.FL then lookD "left" _ else none) = _
  rw [if_pos (FL_left X)]
  simp only [lookD, n_left_up, if_false, if_true]
theorem sR_left (h : S[i]? = some (stR g u l r t a v)) : setF g.FL "left" (.obj i) d S = some (S.set i (stR g u d r t a v)) := by
  rw [setF_o (l := [("up", u), ("left", l), ("right", r), ("turned", t), ("added", a), ("value", v)]) h (FL_left X) (by simp)]
  have : putD "left" d [("up", u), ("left", l), ("right", r), ("turned", t), ("added", a), ("value", v)] = ([("up", u), ("left", d), ("right", r), ("turned", t), ("added", a), ("value", v)] : List (Str × D)) := by
    simp only [putD, n_up_left, if_false, if_true]
  rw [this]; rfl
theorem fR_right (h : S[i]? = some (stR g u l r t a v)) : fldD g.FL "right" S (.obj i) = some r := by
  show (match S[i]? with | some (.ins C l) => if (C, ("right" : Str)) ∈ g.FL then lookD "right" l else none | _ => none) = _
  rw [h]
  show (if (g.Stand, ("right" : Str)) ∈ g.FL then lookD "right" _ else none) = _
  rw [if_pos (FL_right X)]
  simp only [lookD, n_right_up, n_right_left, if_false, if_true]
theorem sR_right (h : S[i]? = some (stR g u l r t a v)) : setF g.FL "right" (.obj i) d S = some (S.set i (stR g u l d t a v)) := by
  rw [setF_o (l := [("up", u), ("left", l), ("right", r), ("turned", t), ("added", a), ("value", v)]) h (FL_right X) (by simp)]
  have : putD "right" d [("up", u), ("left", l), ("right", r), ("turned", t), ("added", a), ("value", v)] = ([("up", u), ("left", l), ("right", d), ("turned", t), ("added", a), ("value", v)] : List (Str × D)) := by
    simp only [putD, n_up_right, n_left_right, if_false, if_true]
  rw [this]; rfl
theorem fR_turned (h : S[i]? = some (stR g u l r t a v)) : fldD g.FL "turned" S (.obj i) = some t := by
  show (match S[i]? with | some (.ins C l) => if (C, ("turned" : Str)) ∈ g.FL then lookD "turned" l else none | _ => none) = _
  rw [h]
  show (if (g.Stand, ("turned" : Str)) ∈ g.FL then lookD "turned" _ else none) = _
  rw [if_pos (FL_turned X)]
  simp only [lookD, n_turned_up, n_turned_left, n_turned_right, if_false, if_true]
theorem sR_turned (h : S[i]? = some (stR g u l r t a v)) : setF g.FL "turned" (.obj i) d S = some (S.set i (stR g u l r d a v)) := by
  rw [setF_o (l := [("up", u), ("left", l), ("right", r), ("turned", t), ("added", a), ("value", v)]) h (FL_turned X) (by simp)]
  have : putD "turned" d [("up", u), ("left", l), ("right", r), ("turned", t), ("added", a), ("value", v)] = ([("up", u), ("left", l), ("right", r), ("turned", d), ("added", a), ("value", v)] : List (Str × D)) := by
    simp only [putD, n_up_turned, n_left_turned, n_right_turned, if_false, if_true]
  rw [this]; rfl
theorem fR_added (h : S[i]? = some (stR g u l r t a v)) : fldD g.FL "added" S (.obj i) = some a := by
  show (match S[i]? with | some (.ins C l) => if (C, ("added" : Str)) ∈ g.FL then lookD "added" l else none | _ => none) = _
  rw [h]
  show (if (g.Stand, ("added" : Str)) ∈ g.FL then lookD "added" _ else none) = _
  rw [if_pos (FL_added X)]
  simp only [lookD, n_added_up, n_added_left, n_added_right, n_added_turned, if_false, if_true]
theorem sR_added (h : S[i]? = some (stR g u l r t a v)) : setF g.FL "added" (.obj i) d S = some (S.set i (stR g u l r t d v)) := by
  rw [setF_o (l := [("up", u), ("left", l), ("right", r), ("turned", t), ("added", a), ("value", v)]) h (FL_added X) (by simp)]
  have : putD "added" d [("up", u), ("left", l), ("right", r), ("turned", t), ("added", a), ("value", v)] = ([("up", u), ("left", l), ("right", r), ("turned", t), ("added", d), ("value", v)] : List (Str × D)) := by
    simp only [putD, n_up_added, n_left_added, n_right_added, n_turned_added, if_false, if_true]
  rw [this]; rfl
theorem fR_value (h : S[i]? = some (stR g u l r t a v)) : fldD g.FL "value" S (.obj i) = some v := by
  show (match S[i]? with | some (.ins C l) => if (C, ("value" : Str)) ∈ g.FL then lookD "value" l else none | _ => none) = _
  rw [h]
  show (if (g.Stand, ("value" : Str)) ∈ g.FL then lookD "value" _ else none) = _
  rw [if_pos (FL_value X)]
  simp only [lookD, n_value_up, n_value_left, n_value_right, n_value_turned, n_value_added, if_false, if_true]
theorem sR_value (h : S[i]? = some (stR g u l r t a v)) : setF g.FL "value" (.obj i) d S = some (S.set i (stR g u l r t a d)) := by
  rw [setF_o (l := [("up", u), ("left", l), ("right", r), ("turned", t), ("added", a), ("value", v)]) h (FL_value X) (by simp)]
  have : putD "value" d [("up", u), ("left", l), ("right", r), ("turned", t), ("added", a), ("value", v)] = ([("up", u), ("left", l), ("right", r), ("turned", t), ("added", a), ("value", d)] : List (Str × D)) := by
    simp only [putD, n_up_value, n_left_value, n_right_value, n_turned_value, n_added_value, if_false, if_true]
  rw [this]; rfl
end
/-- the stands of s lie from b on, their list at o; all is closed -/
structure St (g : G) (S : Store) (b o : Nat) (s : Shp) : Prop where
  at_ : ∀ (k : Nat) (x : Hs), s[k]? = some x → S[b + k]? = some (stO g x)
  lst : S[o]? = some (.lst ((List.range s.length).map fun k => .obj (b + k)))
  out : ∀ k, k < s.length → o ≠ b + k
  cl : ∀ (j : Nat) (w : O), S[j]? = some w → O.lt S.length w = true
/-- nothing else changed -/
structure Fr (S S' : Store) (b n : Nat) : Prop where
  len : S'.length = S.length
  out : ∀ j : Nat, (∀ k, k < n → j ≠ b + k) → S'[j]? = S[j]?
theorem Fr.refl {S : Store} {b n : Nat} : Fr S S b n := ⟨rfl, fun _ _ => rfl⟩
theorem Fr.trans {S S' S'' : Store} {b n : Nat} (x : Fr S S' b n) (y : Fr S' S'' b n) : Fr S S'' b n := ⟨y.len.trans x.len, fun j h => (y.out j h).trans (x.out j h)⟩
theorem all_of {S : Store} {n : Nat} (h : ∀ (j : Nat) (w : O), S[j]? = some w → O.lt n w = true) : S.all (O.lt n) = true := List.all_eq_true.mpr fun w m => by
  obtain ⟨j, hj⟩ := List.getElem?_of_mem m
  exact h j w hj
theorem stO_lt {g : G} {x : Hs} {n : Nat} : O.lt n (stO g x) = true := by
  show List.all _ _ = true
  simp [D.lt]
theorem O.lt_mono {n m : Nat} (h : n ≤ m) {w : O} (q : O.lt n w = true) : O.lt m w = true := by
  have dl : ∀ d : D, D.lt n d = true → D.lt m d = true := fun d e => by
    cases d with
    | dat _ => rfl
    | obj i =>
      have e : decide (i < n) = true := e
      rw [decide_eq_true_eq] at e
      show decide (i < m) = true
      exact decide_eq_true (by omega)
  cases w with
  | lst l => exact List.all_eq_true.mpr fun d m => dl d (List.all_eq_true.mp q d m)
  | ins C l => exact List.all_eq_true.mpr fun d m => dl d.2 (List.all_eq_true.mp q d m)
  | dic l => exact List.all_eq_true.mpr fun d m => dl d.2 (List.all_eq_true.mp q d m)
  | tup l => exact List.all_eq_true.mpr fun d m => dl d (List.all_eq_true.mp q d m)
/-- a def that may write stands: its own objects go -/
theorem scope_u {f : List D → Store → R D} {ds : List D} {S S' t : Store} {p : P} (e : f ds S = .ok (.dat p) (S' ++ t)) (hl : S'.length = S.length) (hc : ∀ (j : Nat) (w : O), S'[j]? = some w → O.lt S'.length w = true) : mScope f ds S = .ok (.dat p) S' := by
  have e1 : (S' ++ t).take S.length = S' := by rw [← hl, List.take_left]
  unfold mScope
  rw [e]
  simp only []
  rw [e1, if_pos (by rw [← hl]; exact all_of hc)]
theorem scope_uo {f : List D → Store → R D} {ds : List D} {S S' t : Store} {p : P} {i : Nat} (e : f ds S = .ok (.obj i) (S' ++ t)) (hl : S'.length = S.length) (hi : S.length ≤ i) (hc : ∀ (j : Nat) (w : O), S'[j]? = some w → O.lt S'.length w = true) (z : frz1 (S' ++ t) i = some p) : mScope f ds S = .ok (.dat p) S' := by
  have e1 : (S' ++ t).take S.length = S' := by rw [← hl, List.take_left]
  unfold mScope
  rw [e]
  simp only []
  rw [e1, if_pos (by rw [← hl]; exact all_of hc), if_neg (by omega), z]
section
variable {g : G} {S : Store} {b o : Nat} {s : Shp} (T : St g S b o s)
include T
theorem St.ix {k : Nat} (h : k < s.length) : aIx S (.obj o) (.dat (nv k)) = some (.obj (b + k)) := ix_o T.lst (atN (by rw [List.getElem?_map, List.getElem?_range h]; rfl))
theorem St.len : aLen S [.obj o] = some (.dat (.int (s.length : Nat))) := by rw [len_o T.lst]; simp
theorem St.app {t : Store} {k : Nat} {x : Hs} (e : s[k]? = some x) : (S ++ t)[b + k]? = some (stO g x) := get_app (T.at_ k x e)
end
end W3
namespace W3
theorem list_ex {α : Type} {n : Nat} {P : Nat → α → Prop} (h : ∀ k, k < n → ∃ a, P k a) : ∃ l : List α, l.length = n ∧ ∀ (k : Nat) (a : α), l[k]? = some a → P k a := by
  induction n with
  | zero => exact ⟨[], rfl, fun k a e => by simp at e⟩
  | succ n ih =>
    obtain ⟨l, hl, hp⟩ := ih fun k hk => h k (by omega)
    obtain ⟨a, ha⟩ := h n (by omega)
    refine ⟨l ++ [a], by simp [hl], fun k b e => ?_⟩
    by_cases c : k < n
    · rw [List.getElem?_append_left (by omega)] at e
      exact hp k b e
    · rw [List.getElem?_append_right (by omega)] at e
      have : k = n := by
        have := lt_at e
        simp at this
        omega
      subst this
      rw [hl, Nat.sub_self] at e
      cases e
      exact ha
def sonB (s : Shp) (h : Nat) : Bool := match s[h]? with
  | some x => (match x.up with
    | some u => (match s[u]? with
      | some y => decide (y.left = some h) || decide (y.right = some h)
      | none => false)
    | none => false)
  | none => false
section
variable {s : Shp} (R : RS s)
include R
theorem RS.sonB {h : Nat} : sonB s h = true ↔ Son s h := by
  unfold W3.sonB
  constructor
  · intro e
    cases ex : s[h]? with
    | none => rw [ex] at e; cases e
    | some x =>
      rw [ex] at e
      simp only at e
      cases eu : x.up with
      | none => rw [eu] at e; cases e
      | some u =>
        rw [eu] at e
        simp only at e
        cases ey : s[u]? with
        | none => rw [ey] at e; cases e
        | some y =>
          rw [ey] at e
          simp only [Bool.or_eq_true, decide_eq_true_eq] at e
          exact ⟨u, y, ey, e⟩
  · rintro ⟨u, so⟩
    obtain ⟨x, ex, eu⟩ := R.son u h so
    obtain ⟨y, ey, hy⟩ := so
    rw [ex]
    simp only [eu, ey]
    simpa using hy
theorem RS.told_ex : ∃ ps ws, Told s ps ws := by
  have key : ∀ k, k < s.length → ∃ a : Option Nat × Int, (∀ (t : Nat) (l : List (Nat × Int)) (x : Hs), Row s t l → s[t]? = some x → ∀ (i : Nat) (w : Int), l[i]? = some (k, w) → a.1 = (if i = 0 then x.up else (l[i - 1]?).map Prod.fst)) ∧ (∀ (t : Nat) (l : List (Nat × Int)), Row s t l → ∀ (w : Int), (k, w) ∈ l → a.2 = w) := fun k hk => by
    obtain ⟨t, l, w, r, m⟩ := R.in_row hk
    obtain ⟨x, ex⟩ := at_of r.1
    obtain ⟨i, hi⟩ := List.getElem?_of_mem m
    refine ⟨(if i = 0 then x.up else (l[i - 1]?).map Prod.fst, w), fun t' l' x' r' ex' i' w' hi' => ?_, fun t' l' r' w' m' => (R.row_inj r r' m m').2.2⟩
    obtain ⟨e1, e2, e3⟩ := R.row_inj r r' m (List.mem_of_getElem? hi')
    subst e1; subst e2; subst e3
    rw [ex] at ex'
    cases ex'
    have nd := R.nodup r.2.2 fun x e => by cases e; exact r.1
    have i1 : (l.map Prod.fst)[i]? = some k := by rw [List.getElem?_map, hi]; rfl
    have j1 : (l.map Prod.fst)[i']? = some k := by rw [List.getElem?_map, hi']; rfl
    have := M3.nd_inj nd i1 j1
    subst this; rfl
  obtain ⟨l, hl, hp⟩ := list_ex key
  have at1 : ∀ h, h < s.length → ∃ a, l[h]? = some a := fun h hh => ⟨_, List.getElem?_eq_getElem (by omega)⟩
  have inr : ∀ {t : Nat} {m : List (Nat × Int)}, Row s t m → ∀ {h : Nat} {w : Int}, (h, w) ∈ m → h < s.length := fun {t m} r {h w} q => by
    obtain ⟨c, y, cx, ey, _⟩ := r.2.2.climb rfl _ q
    exact lt_at ey
  refine ⟨l.map Prod.fst, l.map Prod.snd, by simp [hl], by simp [hl], fun t m x r ex i h w hi => ?_, fun t m r h w q => ?_⟩
  · obtain ⟨a, ea⟩ := at1 h (inr r (List.mem_of_getElem? hi))
    rw [List.getElem?_map, ea, ← (hp h a ea).1 t m x r ex i w hi]; rfl
  · obtain ⟨a, ea⟩ := at1 h (inr r q)
    rw [List.getElem?_map, ea, ← (hp h a ea).2 t m r w q]; rfl
theorem RS.told_tree {ps : List (Option Nat)} {ws : List Int} (T : Told s ps ws) : W2.Tree ps := by
  refine W2.tree_iff.mpr fun h hh => ?_
  rw [T.lp] at hh
  -- by the length of the way up of the row's top, then by the place in the row
  have key : ∀ (k : Nat) {t i h : Nat} {l : List (Nat × Int)} {w : Int}, Row s t l → l[i]? = some (h, w) → (W2.up (ups s) t).length * 100 + i < k → ∃ m, W2.Ch ps h m := by
    intro k
    induction k with
    | zero => intro t i h l w _ _ q; omega
    | succ k ih =>
      intro t i h l w r hi q
      obtain ⟨x, ex⟩ := at_of r.1
      have ep := T.par t l x r ex i h w hi
      by_cases c : i = 0
      · rw [if_pos c] at ep
        cases eu : x.up with
        | none => rw [eu] at ep; exact ⟨_, .root ep⟩
        | some u =>
          rw [eu] at ep
          have hu := R.up_lt ex eu
          obtain ⟨t2, l2, w2, r2, m2⟩ := R.in_row hu
          obtain ⟨i2, hi2⟩ := List.getElem?_of_mem m2
          obtain ⟨c2, y2, cx2, _⟩ := r2.2.2.climb rfl _ m2
          obtain ⟨pre, e1, _⟩ := R.cx_up r2.1 cx2
          have e2 : W2.up (ups s) t = t :: W2.up (ups s) u := W2.up_of (.step (by rw [ups_at ex, eu]) (R.chain hu).1)
          have l3 : i2 < l2.length := lt_at hi2
          have l4 : l2.length ≤ 64 := by
            have nd := R.nodup r2.2.2 fun x e => by cases e; exact r2.1
            have := W2.nodup_len (n := s.length) nd fun y m => by
              obtain ⟨z, mz, rfl⟩ := List.mem_map.mp m
              obtain ⟨_, y, _, ey, _⟩ := r2.2.2.climb rfl z mz
              exact lt_at ey
            rw [List.length_map] at this
            have := R.n64
            omega
          have e3 : (W2.up (ups s) t2).length + 1 ≤ (W2.up (ups s) t).length := by
            have e1 : W2.up (ups s) u = pre ++ W2.up (ups s) t2 := e1
            rw [e2, e1]; simp
          obtain ⟨m, ch⟩ := ih r2 hi2 (by omega)
          exact ⟨_, .step ep ch⟩
      · rw [if_neg c] at ep
        have hl := lt_at hi
        obtain ⟨z, ez⟩ : ∃ z, l[i - 1]? = some z := ⟨_, List.getElem?_eq_getElem (by omega)⟩
        rw [ez] at ep
        obtain ⟨m, ch⟩ := ih (i := i - 1) (h := z.1) (w := z.2) r ez (by omega)
        exact ⟨_, .step ep ch⟩
  obtain ⟨t, l, w, r, m⟩ := R.in_row hh
  obtain ⟨i, hi⟩ := List.getElem?_of_mem m
  exact key _ r hi (Nat.lt_succ_self _)
end
end W3
namespace W3
open PySem PySem.Spec PyProof.Rows L2 M3
theorem eqF_ov {o : Option Nat} {h : Nat} : eqF (ov o) (nv h) = decide (o = some h) := by
  cases o with
  | none => rfl
  | some q =>
    show ((q : Int) == (h : Int)) = _
    by_cases c : q = h
    · subst c; simp
    · rw [decide_eq_false (by simpa using c)]; simpa using fun z : (q : Int) = h => c (by omega)
theorem flat_ov (o : Option Nat) : flatP (ov o) = true := by cases o <;> rfl
theorem in_two {S : Store} {h : Nat} {l r : Option Nat} : aIn S (.dat (nv h)) (.dat (.tup [ov l, ov r])) = some (.dat (.bl (decide (l = some h) || decide (r = some h)))) := by
  show (match seqP S (.dat (.tup [ov l, ov r])) with | some l => if flatP (nv h) = true ∧ l.all flatP = true then some (inP (nv h) l) else none | none => none : Option Bool).map dBl = _
  rw [seqP_t]
  simp only []
  rw [if_pos ⟨rfl, by simp [flat_ov]⟩]
  show some (D.dat (.bl (eqF (ov l) (nv h) || (eqF (ov r) (nv h) || false)))) = _
  rw [eqF_ov, eqF_ov, Bool.or_false]
theorem notIn_two {S : Store} {h : Nat} {l r : Option Nat} : aNotIn S (.dat (nv h)) (.dat (.tup [ov l, ov r])) = some (.dat (.bl (!(decide (l = some h) || decide (r = some h))))) := by
  show (match seqP S (.dat (.tup [ov l, ov r])) with | some l => if flatP (nv h) = true ∧ l.all flatP = true then some (inP (nv h) l) else none | none => none : Option Bool).map (fun b => dBl (!b)) = _
  rw [seqP_t]
  simp only []
  rw [if_pos ⟨rfl, by simp [flat_ov]⟩]
  show some (D.dat (.bl (!(eqF (ov l) (nv h) || (eqF (ov r) (nv h) || false))))) = _
  rw [eqF_ov, eqF_ov, Bool.or_false]
theorem St.push {g : G} {S t : Store} {b o : Nat} {s : Shp} (T : St g S b o s) (ht : ∀ w ∈ t, O.lt (S ++ t).length w = true) : St g (S ++ t) b o s where
  at_ := fun k x e => get_app (T.at_ k x e)
  lst := get_app T.lst
  out := T.out
  cl := fun j w e => by
    by_cases c : j < S.length
    · rw [List.getElem?_append_left c] at e
      exact O.lt_mono (by simp) (T.cl j w e)
    · rw [List.getElem?_append_right (by omega)] at e
      exact ht w (List.mem_of_getElem? e)
theorem lt_lst {l : List P} {n : Nat} : O.lt n (.lst (l.map .dat)) = true := by
  show List.all _ _ = true
  rw [List.all_map]
  exact List.all_eq_true.mpr fun _ _ => rfl
theorem push1 {g : G} {S : Store} {b o : Nat} {s : Shp} (T : St g S b o s) (l : List P) : St g (S ++ [.lst (l.map .dat)]) b o s := T.push fun w m => by
  rw [List.mem_singleton.mp m]; exact lt_lst
section
variable {g : G} (X : Gx g) {S : Store} {b o : Nat} {s : Shp} (T : St g S b o s) (R : RS s)
include X T R
theorem is_top_t {h : Nat} (hh : h < s.length) : mScope (m_is_top g) [.obj o, .dat (nv h)] S = .ok (.dat (.bl (!sonB s h))) S := by
  refine scope_u (t := []) ?_ rfl T.cl
  rw [List.append_nil]
  obtain ⟨x, ex⟩ := at_of hh
  have e1 := T.ix hh
  have f1 := fR_up X (T.at_ h x ex)
  unfold m_is_top mFld
  cases eu : x.up with
  | none =>
    have sb : sonB s h = false := by unfold sonB; rw [ex]; simp only [eu]
    rw [eu] at f1
    dsimp! [e1, f1, ov, sb]
  | some u =>
    have hu := R.up_lt ex eu
    obtain ⟨y, ey⟩ := at_of hu
    have sb : sonB s h = (decide (y.left = some h) || decide (y.right = some h)) := by unfold sonB; rw [ex]; simp only [eu, ey]
    rw [eu] at f1
    have f1' : fldD g.FL "up" S (.obj (b + h)) = some (.dat (nv u)) := f1
    have nn : aIsN S (.dat (nv u)) (.dat .non) = some (.dat (.bl false)) := rfl
    have l2 : (2 : Nat) ≤ 100000 := by decide
    dsimp! [e1, f1', nn, T.ix hu, fR_left X (T.at_ u y ey), fR_right X (T.at_ u y ey), l2, notIn_two, sb]
theorem line_up_t {h : Nat} (hh : h < s.length) : mScope (m_line_up g) [.obj o, .dat (nv h)] S = .ok (.dat (.lst ((W2.up (ups s) h).map nv))) S := by
  have n64 := R.n64
  suffices z : ∃ d S', m_line_up g [.obj o, .dat (nv h)] S = .ok d S' ∧ d = .obj S.length ∧ S' = S ++ [.lst (((W2.up (ups s) h).map nv).map .dat)] by
    obtain ⟨d, S', e, rfl, rfl⟩ := z
    exact scope_uo (t := [.lst (((W2.up (ups s) h).map nv).map .dat)]) e rfl (Nat.le_refl _) T.cl (frz_o get_new)
  unfold m_line_up
  rw [mBody_fin]
  refine fin_ends ?_
  have l1 : (1 : Nat) ≤ 100000 := by decide
  dsimp! [l1]
  refine then_ends (Q1 := fun o' S' => o' = .nx [some (.obj o), some (.dat (nv h)), some (.obj S.length)] ∧ S' = S ++ [.lst (((W2.up (ups s) h).map nv).map .dat)]) ?_ (fun o S' ⟨e, z⟩ => by subst e; dsimp! []; exact .of ⟨_, rfl, rfl, z⟩)
  refine while_ends (m := (W2.up (ups s) h).length) (fun m δ S' => ∃ (line : List Nat) (a : Nat) (r : List Nat), δ = [some (.obj o), some (.dat (nv h)), some (.obj S.length)] ∧ S' = S ++ [.lst (((line ++ [a]).map nv).map .dat)] ∧ W2.Ch (ups s) h (line ++ a :: r) ∧ m = (a :: r).length) (by have := (R.chain hh).2.1; omega) ?_ ?_
  · obtain ⟨r, er⟩ := R.up_head hh
    exact ⟨[], h, r, rfl, rfl, er ▸ (R.chain hh).1, by rw [er]⟩
  · rintro m δ S' ⟨line, a, r, rfl, rfl, c, rfl⟩
    have ha : a < s.length := by have := c.lt a (by simp); rwa [ups_len] at this
    obtain ⟨x, ex⟩ := at_of ha
    have ec : W2.Ch (ups s) a (a :: r) := W2.Ch.tail c
    have hlen := c.len
    rw [List.length_append, List.length_cons, ups_len] at hlen
    have T' := push1 T ((line ++ [a]).map nv)
    have el : aIx (S ++ [.lst (((line ++ [a]).map nv).map .dat)]) (.obj S.length) (.dat (.int (-1))) = some (.dat (nv a)) := ix_o get_new (atI_last (by simp))
    have f1 := fR_up X (T'.at_ a x ex)
    cases ec with
    | root e =>
      rw [ups_at ex] at e
      rw [Option.some.inj e] at f1
      refine ⟨false, _, by unfold mFld; dsimp! [el, T'.ix ha, f1, ov] <;> rfl, fun z => (nomatch z), fun _ => ⟨rfl, ?_⟩⟩
      rw [W2.up_of c]
    | @step _ p l e c2 =>
      obtain ⟨r2, e2⟩ := c2.head
      subst e2
      rw [ups_at ex] at e
      rw [Option.some.inj e] at f1
      refine ⟨true, _, by unfold mFld; dsimp! [el, T'.ix ha, f1, ov] <;> rfl, fun _ => ?_, fun z => (nomatch z)⟩
      have f2 : fldD g.FL "up" (S ++ [.lst (((line ++ [a]).map nv).map .dat)]) (.obj (b + a)) = some (.dat (.int (p : Int))) := f1
      have eap : updL fAppend (.obj S.length) [.dat (.int (p : Int))] (S ++ [.lst (((line ++ [a]).map nv).map .dat)]) = M3.R.ok (D.dat P.non) ((S ++ [O.lst (((line ++ [a]).map nv).map D.dat)]).set S.length (O.lst (((line ++ [a]).map nv).map D.dat ++ [D.dat (P.int (p : Int))]))) := app_o get_new (by rw [List.length_map, List.length_map, List.length_append, List.length_singleton]; omega)
      unfold mBM mFld
      dsimp! [kind_o get_new, el, T'.ix ha, f2, eap]
      refine Ends.of (tm ⟨_, Nat.lt_succ_self _, line ++ [a], p, r2, rfl, ?_, by simpa using c, rfl⟩)
      rw [List.set_append_right _ _ (Nat.le_refl _), Nat.sub_self]
      simp [nv]
end
end W3
namespace W3
open PySem PySem.Spec PyProof.Rows L2 M3
theorem lcL_new {α : Type} {gm : DG} {t : DT} {e : DE} {vs : List Nat} {δ : DEnv} (h : α → D) (mk : α → O) : ∀ {xs : List α} {acc : List D} {S : Store}, (acc.length + xs.length ≤ 100000) →
    (∀ x ∈ xs, ∀ S, ∃ δ1, gm (h x) (wipeD δ vs) S = .ok δ1 S ∧ t δ1 S = .ok true S ∧ e δ1 S = .ok (.obj S.length) (S ++ [mk x])) →
    mLcL gm t e vs δ (xs.map h) acc S = .ok (acc ++ (List.range xs.length).map fun k => .obj (S.length + k)) (S ++ xs.map mk)
  | [], acc, S, _, _ => by simp [mLcL]
  | x :: xs, acc, S, hl, hh => by
    obtain ⟨δ1, e1, e2, e3⟩ := hh x (List.mem_cons_self ..) S
    rw [List.length_cons] at hl
    rw [List.map_cons]
    unfold mLcL
    rw [e1, R.bnf_ok, e2, R.bnf_ok]
    show (e δ1 S).bnf _ = _
    rw [e3, R.bnf_ok, if_pos (by omega), lcL_new h mk (by rw [List.length_append, List.length_singleton]; omega) fun d m => hh d (List.mem_cons_of_mem _ m)]
    rw [List.length_cons, List.range_succ_eq_map, List.map_cons, List.map_map, List.length_append, List.length_singleton, List.map_cons, List.append_assoc, List.append_assoc]
    have : (fun k => D.obj (S.length + 1 + k)) = ((fun k => D.obj (S.length + k)) ∘ Nat.succ) := by
      funext k
      show D.obj _ = D.obj _
      congr 1
      omega
    rw [this]
    rfl
theorem house_ok (g : G) {n q : Nat} (h : q < n) (S : Store) : mPure (m_is_house g) [.dat (.int (n : Int)), .dat (.int (q : Int))] S = .ok (.dat (.bl true)) S := by
  rw [is_house_i, decide_eq_true (by omega), decide_eq_true (by omega)]; rfl
section
variable {g : G} {s : Shp} (R : RS s)
theorem hsP_at {S : Store} {h : Nat} {x : Hs} (e : s[h]? = some x) : aIx S (.dat (shP s)) (.dat (nv h)) = some (.dat (hsP x)) := ix_t (atN (map_get e))
include R
theorem is_part_t {h : Nat} {x : Hs} (e : s[h]? = some x) (S : Store) : mPure (m_is_part g) [.dat (.int (s.length : Int)), .dat (hsP x)] S = .ok (.dat (.bl true)) S := by
  have lt : ∀ o, o ∈ [x.up, x.left, x.right] → ∀ q, o = some q → q < s.length := fun o m q eq => by
    subst eq
    simp only [List.mem_cons, List.mem_nil_iff, or_false] at m
    rcases m with m | m | m
    · exact R.up_lt e m.symm
    · obtain ⟨y, ey, _⟩ := R.son h q ⟨x, e, .inl m.symm⟩; exact lt_at ey
    · obtain ⟨y, ey, _⟩ := R.son h q ⟨x, e, .inr m.symm⟩; exact lt_at ey
  have sl : aSl ([] : Store) (.dat (hsP x)) none (some 3) = some (.dat (.tup [ov x.up, ov x.left, ov x.right])) := rfl
  have d6 : decide (((0 + 1 + 1 + 1 + 1 + 1 + 1 : Nat) : Int) = 6) = true := rfl
  have ln : ∀ S : Store, aLen S [.dat (hsP x)] = some (.dat (.int 6)) := fun _ => rfl
  have it : ∀ S : Store, aIsi g.K g.CS S [.dat (hsP x), .dat (.con (.ty "tuple"))] = some (.dat (.bl true)) := fun S => isi_tup_tuple
  have i3 : ∀ S : Store, aIx S (.dat (hsP x)) (.dat (.int 3)) = some (.dat (.bl x.turned)) := fun _ => rfl
  have i4 : ∀ S : Store, aIx S (.dat (hsP x)) (.dat (.int 4)) = some (.dat (.int x.added)) := fun _ => rfl
  have i5 : ∀ S : Store, aIx S (.dat (hsP x)) (.dat (.int 5)) = some (.dat (.int x.value)) := fun _ => rfl
  have lc : mLc (mWalk (mSl (mVar 1) moN (moS (mC (.int 3))))) (gmName 2) mYes (mOr (mOp aIsN (mVar 2) (mC .non)) (mDef 2 (mPure (m_is_house g)) (mCons (mVar 0) (mCons (mVar 2) mNil)))) [2] [some (.dat (.int (s.length : Int))), some (.dat (hsP x)), none] [] = .ok (([x.up, x.left, x.right].map fun _ => P.bl true).map .dat) [] :=
    lc_all (xs := [x.up, x.left, x.right]) (fun o => .dat (ov o)) (fun _ => .bl true) (by
      rw [walk_t (l := [ov x.up, ov x.left, ov x.right]) (S1 := []) (by unfold mSl moN moS; dsimp! [sl])]; rfl) (by simp) fun o m => ⟨_, rfl, rfl, by
      cases o with
      | none => dsimp! [ov]
      | some q => dsimp! [ov, house_ok g (lt _ m q rfl)]⟩
  refine pure_dat rfl (S' := []) ?_
  unfold m_is_part
  dsimp! [it, ln, lc, i3, i4, i5, is_integer_i]
  rw [show ([P.bl true, P.bl true, P.bl true] : List P) = [true, true, true].map .bl from rfl, all_lst]
  dsimp! [List.all_cons, List.all_nil, id, i3, i4, i5, is_integer_i]
theorem has_sons_t {h : Nat} (hh : h < s.length) (S : Store) : mPure (m_has_its_sons g) [.dat (shP s), .dat (nv h)] S = .ok (.dat (.bl true)) S := by
  obtain ⟨x, e⟩ := at_of hh
  have sl : aSl ([] : Store) (.dat (hsP x)) (some 1) (some 3) = some (.dat (.tup [ov x.left, ov x.right])) := rfl
  have eix := hsP_at (S := ([] : Store)) e
  have lc : mLc (mWalk (mSl (mOp aIx (mVar 0) (mVar 1)) (moS (mC (.int 1))) (moS (mC (.int 3))))) (gmName 3) (mTst (mOp aNotN (mVar 3) (mC .non))) (mVar 3) [3] [some (.dat (shP s)), some (.dat (nv h)), none, none] [] = .ok (([x.left, x.right].filterMap fun o => o.map nv).map .dat) [] :=
    lc_map (xs := [x.left, x.right]) (fun o => .dat (ov o)) (fun o => o.map nv) (by
      rw [walk_t (l := [ov x.left, ov x.right]) (S1 := []) (by unfold mSl moS; dsimp! [eix, sl])]; rfl) (by simp) fun o m => ⟨_, rfl, by
      cases o with
      | none => show mTst _ _ _ = _; dsimp! [ov]
      | some q => exact ⟨by dsimp! [ov], by dsimp! [ov, nv]⟩⟩
  have su : ∀ c, (x.left = some c ∨ x.right = some c) → ∀ S : Store, ∃ y, aIx S (.dat (shP s)) (.dat (nv c)) = some (.dat (hsP y)) ∧ aIx S (.dat (hsP y)) (.dat (.int 0)) = some (.dat (nv h)) := fun c q S => by
    obtain ⟨y, ey, eu⟩ := R.son h c ⟨x, e, q⟩
    refine ⟨y, hsP_at ey, ?_⟩
    show some (D.dat (ov y.up)) = _
    rw [eu]; rfl
  have al : ∀ (cs : List Nat) (δ2 : Option D), (∀ c ∈ cs, x.left = some c ∨ x.right = some c) → cs.length ≤ 2 → mLc (mWalk (mVar 2)) (gmName 3) mYes (mOp aEq (mOp aIx (mOp aIx (mVar 0) (mVar 3)) (mC (.int 0))) (mVar 1)) [3] [some (.dat (shP s)), some (.dat (nv h)), some (.dat (.lst (cs.map nv))), none] [] = .ok ((cs.map fun _ => P.bl true).map .dat) [] := fun cs _ hc hl =>
    lc_all (xs := cs) (fun c => .dat (nv c)) (fun _ => .bl true) (by rw [walk_l (l := cs.map nv) (S1 := []) (by dsimp! [] <;> rfl), List.map_map]; rfl) (by omega) fun c m => ⟨_, rfl, rfl, by
      obtain ⟨y, e1, e2⟩ := su c (hc c m) []
      have dd : aEq ([] : Store) (.dat (nv h)) (.dat (nv h)) = some (.dat (.bl true)) := by show some (D.dat (.bl (decide ((h : Int) = (h : Int))))) = _; rw [decide_eq_true rfl]
      dsimp! [e1, e2, dd]⟩
  have aw : ∀ n, aAll ([] : Store) [.dat (.lst (List.replicate n (P.bl true)))] = some (.dat (.bl true)) := fun n => by
    rw [show List.replicate n (P.bl true) = (List.replicate n true).map .bl by rw [List.map_replicate], all_lst]; simp
  refine pure_dat rfl (S' := []) ?_
  unfold m_has_its_sons
  cases el : x.left with
  | none =>
    cases er : x.right with
    | none =>
      rw [el, er] at lc
      have lc' : _ = M3.R.ok ([] : List D) [] := lc
      have a0 := al [] none (fun c m => nomatch m) (by simp)
      have a0' : mLc (mWalk (mVar 2)) (gmName 3) mYes (mOp aEq (mOp aIx (mOp aIx (mVar 0) (mVar 3)) (mC (.int 0))) (mVar 1)) [3] [some (.dat (shP s)), some (.dat (nv h)), some (.dat (.lst [])), none] [] = .ok ([] : List D) [] := a0
      have a1 : aAll ([] : Store) [.dat (.lst [])] = some (.dat (.bl true)) := aw 0
      have d1 : decide (((0 : Nat) : Int) = 2) = false := rfl
      dsimp! [lc', a0', a1, d1]
    | some c =>
      rw [el, er] at lc
      have lc' : _ = M3.R.ok [D.dat (nv c)] [] := lc
      have a0 := al [c] none (fun d m => .inr (by rw [List.mem_singleton.mp m, er])) (by simp)
      have a0' : mLc (mWalk (mVar 2)) (gmName 3) mYes (mOp aEq (mOp aIx (mOp aIx (mVar 0) (mVar 3)) (mC (.int 0))) (mVar 1)) [3] [some (.dat (shP s)), some (.dat (nv h)), some (.dat (.lst [nv c])), none] [] = .ok [D.dat (P.bl true)] [] := a0
      have a1 : aAll ([] : Store) [.dat (.lst [P.bl true])] = some (.dat (.bl true)) := aw 1
      have d1 : decide (((0 + 1 : Nat) : Int) = 2) = false := rfl
      dsimp! [lc', a0', a1, d1]
  | some k =>
    cases er : x.right with
    | none =>
      rw [el, er] at lc
      have lc' : _ = M3.R.ok [D.dat (nv k)] [] := lc
      have a0 := al [k] none (fun d m => .inl (by rw [List.mem_singleton.mp m, el])) (by simp)
      have a0' : mLc (mWalk (mVar 2)) (gmName 3) mYes (mOp aEq (mOp aIx (mOp aIx (mVar 0) (mVar 3)) (mC (.int 0))) (mVar 1)) [3] [some (.dat (shP s)), some (.dat (nv h)), some (.dat (.lst [nv k])), none] [] = .ok [D.dat (P.bl true)] [] := a0
      have a1 : aAll ([] : Store) [.dat (.lst [P.bl true])] = some (.dat (.bl true)) := aw 1
      have d1 : decide (((0 + 1 : Nat) : Int) = 2) = false := rfl
      dsimp! [lc', a0', a1, d1]
    | some c =>
      rw [el, er] at lc
      have ne : k ≠ c := fun q => R.ne h k x e el (by rw [er, q])
      have lc' : _ = M3.R.ok [D.dat (nv k), D.dat (nv c)] [] := lc
      have a0 := al [k, c] none (fun d m => by
        rcases List.mem_cons.mp m with m | m
        · exact .inl (by rw [m, el])
        · exact .inr (by rw [List.mem_singleton.mp m, er])) (by simp)
      have a0' : mLc (mWalk (mVar 2)) (gmName 3) mYes (mOp aEq (mOp aIx (mOp aIx (mVar 0) (mVar 3)) (mC (.int 0))) (mVar 1)) [3] [some (.dat (shP s)), some (.dat (nv h)), some (.dat (.lst [nv k, nv c])), none] [] = .ok [D.dat (P.bl true), D.dat (P.bl true)] [] := a0
      have a1 : aAll ([] : Store) [.dat (.lst [P.bl true, P.bl true])] = some (.dat (.bl true)) := aw 2
      have d1 : decide (((0 + 1 + 1 : Nat) : Int) = 2) = true := rfl
      have x0 : aIx ([] : Store) (.dat (.lst [nv k, nv c])) (.dat (.int 0)) = some (.dat (nv k)) := rfl
      have x1 : aIx ([] : Store) (.dat (.lst [nv k, nv c])) (.dat (.int 1)) = some (.dat (nv c)) := rfl
      have dk : aEq ([] : Store) (.dat (nv k)) (.dat (nv c)) = some (.dat (.bl false)) := by
        show some (D.dat (.bl (decide ((k : Int) = (c : Int))))) = _
        rw [decide_eq_false (by omega)]
      dsimp! [lc', a0', a1, d1, x0, x1, dk]
theorem is_shape_t (S : Store) : mPure (m_is_shape g) [.dat (shP s)] S = .ok (.dat (.bl true)) S := by
  have n1 := R.n1
  have n64 := R.n64
  refine pure_dat rfl (S' := []) ?_
  have it : aIsi g.K g.CS ([] : Store) [.dat (shP s), .dat (.con (.ty "tuple"))] = some (.dat (.bl true)) := isi_tup_tuple
  have ln : aLen ([] : Store) [.dat (shP s)] = some (.dat (.int (s.length : Int))) := by unfold shP; rw [len_t, List.length_map]
  have d1 : decide ((1 : Int) ≤ (s.length : Int)) = true := decide_eq_true (by omega)
  have d2 : decide ((s.length : Int) ≤ 64) = true := decide_eq_true (by omega)
  have w : ∀ δ : DEnv, δ[0]? = some (some (.dat (shP s))) → mWalk (mVar 0) δ [] = .ok (.items (s.map fun x => .dat (hsP x))) [] := fun δ h => by
    rw [walk_t (l := s.map hsP) (S1 := []) (by unfold mVar; rw [h]; rfl), List.map_map]; rfl
  have l1 : mLc (mWalk (mVar 0)) (gmName 1) mYes (mDef 2 (mPure (m_is_part g)) (mCons (mCall aLen (mCons (mVar 0) mNil)) (mCons (mVar 1) mNil))) [1] [some (.dat (shP s)), none, none] [] = .ok ((s.map fun _ => P.bl true).map .dat) [] :=
    lc_all (xs := s) (fun x => .dat (hsP x)) (fun _ => .bl true) (w _ rfl) (by omega) fun x m => ⟨_, rfl, rfl, by
      obtain ⟨k, hk⟩ := List.getElem?_of_mem m
      dsimp! [ln, is_part_t R hk]⟩
  have l2 : mLc (mRng1 (mCons (mCall aLen (mCons (mVar 0) mNil)) mNil)) (gmName 2) mYes (mDef 2 (mPure (m_has_its_sons g)) (mCons (mVar 0) (mCons (mVar 2) mNil))) [2] [some (.dat (shP s)), none, none] [] = .ok (((List.range s.length).map fun _ => P.bl true).map .dat) [] :=
    lc_all (xs := List.range s.length) (fun k => .dat (nv k)) (fun _ => .bl true) (rng0_ok (n := s.length) (by dsimp! [ln] <;> rfl) (by omega)) (by rw [List.length_range]; omega) fun k m => ⟨_, rfl, rfl, by
      dsimp! [has_sons_t (g := g) R (List.mem_range.mp m)]⟩
  have l3 : mLc (mWalk (mVar 0)) (gmName 1) mYes (mOp aIx (mVar 1) (mC (.int 0))) [1] [some (.dat (shP s)), none, none] [] = .ok (((ups s).map ov).map .dat) [] := by
    rw [lc_all (xs := s) (fun x => .dat (hsP x)) (fun x => ov x.up) (w _ rfl) (by omega) fun x m => ⟨_, rfl, rfl, by
      have i0 : aIx ([] : Store) (.dat (hsP x)) (.dat (.int 0)) = some (.dat (ov x.up)) := rfl
      dsimp! [i0]⟩]
    unfold ups
    rw [List.map_map (f := Hs.up)]; rfl
  have aw : ∀ {α : Type} (l : List α), aAll ([] : Store) [.dat (.lst (l.map fun _ => P.bl true))] = some (.dat (.bl true)) := fun l => by
    rw [show l.map (fun _ => P.bl true) = (l.map fun _ => true).map .bl by rw [List.map_map]; rfl, all_lst]; simp
  unfold m_is_shape
  dsimp! [it, ln, is_many_i, d1, d2, l1, aw, l2, l3, come_t g R.tree (by rw [ups_len]; exact n64)]
end
section
variable {g : G} (X : Gx g)
include X
theorem made_st (x : Hs) (S : Store) : mkC g.Stand (m_Stand_init g) [.dat (hsP x)] S = .ok (.obj S.length) (S ++ [stO g x]) := by
  have st : ∀ (f : Str) (l l' : List (Str × D)) (d : D), (g.Stand, f) ∈ g.FL → l.length < 1000 → putD f d l = l' → setF g.FL f (.obj S.length) d (S ++ [O.ins g.Stand l]) = some (S ++ [O.ins g.Stand l']) := fun f l l' d m h e => by
    rw [setF_o get_new m h, List.set_append_right _ _ (Nat.le_refl _), Nat.sub_self, e]; rfl
  have l6 : ([ov x.up, ov x.left, ov x.right, P.bl x.turned, P.int x.added, P.int x.value] : List P).length = 6 := rfl
  have s0 := st "up" [] [("up", .dat (ov x.up))] (.dat (ov x.up)) (FL_up X) (by simp) (by simp only [putD, if_false])
  have s1 := st "left" [("up", .dat (ov x.up))] [("up", .dat (ov x.up)), ("left", .dat (ov x.left))] (.dat (ov x.left)) (FL_left X) (by simp) (by simp only [putD, n_up_left, if_false])
  have s2 := st "right" [("up", .dat (ov x.up)), ("left", .dat (ov x.left))] [("up", .dat (ov x.up)), ("left", .dat (ov x.left)), ("right", .dat (ov x.right))] (.dat (ov x.right)) (FL_right X) (by simp) (by simp only [putD, n_up_right, n_left_right, if_false])
  have s3 := st "turned" [("up", .dat (ov x.up)), ("left", .dat (ov x.left)), ("right", .dat (ov x.right))] [("up", .dat (ov x.up)), ("left", .dat (ov x.left)), ("right", .dat (ov x.right)), ("turned", .dat (.bl x.turned))] (.dat (.bl x.turned)) (FL_turned X) (by simp) (by simp only [putD, n_up_turned, n_left_turned, n_right_turned, if_false])
  have s4 := st "added" [("up", .dat (ov x.up)), ("left", .dat (ov x.left)), ("right", .dat (ov x.right)), ("turned", .dat (.bl x.turned))] [("up", .dat (ov x.up)), ("left", .dat (ov x.left)), ("right", .dat (ov x.right)), ("turned", .dat (.bl x.turned)), ("added", .dat (.int x.added))] (.dat (.int x.added)) (FL_added X) (by simp) (by simp only [putD, n_up_added, n_left_added, n_right_added, n_turned_added, if_false])
  have s5 := st "value" [("up", .dat (ov x.up)), ("left", .dat (ov x.left)), ("right", .dat (ov x.right)), ("turned", .dat (.bl x.turned)), ("added", .dat (.int x.added))] [("up", .dat (ov x.up)), ("left", .dat (ov x.left)), ("right", .dat (ov x.right)), ("turned", .dat (.bl x.turned)), ("added", .dat (.int x.added)), ("value", .dat (.int x.value))] (.dat (.int x.value)) (FL_value X) (by simp) (by simp only [putD, n_up_value, n_left_value, n_right_value, n_turned_value, n_added_value, if_false])
  unfold mkC m_Stand_init hsP gmFld
  simp only [mBody_fin]
  dsimp! [l6, s0, s1, s2, s3, s4, s5]
  rfl
end
end W3
namespace W3
open PySem PySem.Spec PyProof.Rows L2 M3
theorem all_true {α : Type} (xs : List α) : (xs.map fun _ => true).all id = true := by simp
theorem are_parents_t (g : G) {ps : List (Option Nat)} (t : W2.Tree ps) (h1 : 1 ≤ ps.length) (hn : ps.length ≤ 64) (S : Store) : mPure (m_are_parents g) [.dat (.tup (ps.map ov))] S = .ok (.dat (.bl true)) S := by
  refine pure_dat rfl (S' := []) ?_
  unfold m_are_parents
  have e1 : decide ((1 : Int) ≤ (ps.length : Int)) = true := decide_eq_true (by omega)
  have e2 : decide ((ps.length : Int) ≤ 64) = true := decide_eq_true (by omega)
  dsimp! [is_many_i, List.length_map, e1, e2]
  rw [lc_all (xs := ps) (fun o => .dat (ov o)) (fun _ => .bl true) (by rw [walk_t (l := ps.map ov) (by dsimp! [] <;> rfl)]; rw [List.map_map]; rfl) (by omega) fun o ho => ⟨_, rfl, rfl, ?_⟩]
  · dsimp! [e1, e2, come_t g t hn]
    rw [show ps.map (fun _ => P.bl true) = (ps.map fun _ => true).map P.bl by rw [List.map_map]; rfl, all_lst, all_true]
    dsimp! [come_t g t hn]
  · cases o with
    | none => dsimp! [ov]
    | some q =>
      obtain ⟨i, hi, e⟩ := List.getElem_of_mem ho
      have hq : q < ps.length := t.inr i q (List.getElem?_eq_some_iff.mpr ⟨hi, e⟩)
      have e3 : decide ((0 : Int) ≤ (q : Int)) = true := decide_eq_true (by omega)
      have e4 : decide ((q : Int) ≤ (ps.length : Int) - 1) = true := decide_eq_true (by omega)
      dsimp! [ov, is_house_i, List.length_map, e3, e4]
theorem are_worths_t (g : G) (ws : List Int) (hn : ws.length ≤ 64) (S : Store) : mPure (m_are_worths g) [.dat (.tup (ws.map .int)), .dat (.int (ws.length : Int))] S = .ok (.dat (.bl true)) S := by
  refine pure_dat rfl (S' := []) ?_
  unfold m_are_worths
  dsimp! [List.length_map]
  rw [lc_all (xs := ws) (fun o => .dat (.int o)) (fun _ => .bl true) (by rw [walk_t (l := ws.map .int) (by dsimp! [] <;> rfl)]; rw [List.map_map]; rfl) (by omega) fun o ho => ⟨_, rfl, rfl, ?_⟩]
  · dsimp! []
    rw [show ws.map (fun _ => P.bl true) = (ws.map fun _ => true).map P.bl by rw [List.map_map]; rfl, all_lst, all_true]
    dsimp! []
  · dsimp! [is_integer_i]
def forP (g : G) (ps : List (Option Nat)) (ws : List Int) : P := .ins g.Forest [("parents", .tup (ps.map ov)), ("worths", .tup (ws.map .int))]
theorem pw_ : ¬ (("parents" : Str) = "worths") := by decide +kernel
theorem fl_p {g : G} (X : Gx g) : (g.Forest, ("parents" : Str)) ∈ g.FL := by rw [X.FL]; simp
theorem fl_w {g : G} (X : Gx g) : (g.Forest, ("worths" : Str)) ∈ g.FL := by rw [X.FL]; simp
theorem made_t (g : G) (X : Gx g) {ps : List (Option Nat)} {ws : List Int} (t : W2.Tree ps) (h1 : 1 ≤ ps.length) (hn : ps.length ≤ 64) (hw : ws.length = ps.length) (S : Store) : mPure (mkC g.Forest (m_Forest_init g)) [.dat (.tup (ps.map ov)), .dat (.tup (ws.map .int))] S = .ok (.dat (forP g ps ws)) S := by
  have e1 : m_Forest_init g [.obj 0, .dat (.tup (ps.map ov)), .dat (.tup (ws.map .int))] [.ins g.Forest []] = .ok (.dat .non) [.ins g.Forest [("parents", .dat (.tup (ps.map ov))), ("worths", .dat (.tup (ws.map .int)))]] := by
    have q1 : setF g.FL "parents" (.obj 0) (.dat (.tup (ps.map ov))) [.ins g.Forest []] = some [.ins g.Forest [("parents", .dat (.tup (ps.map ov)))]] := setF_o (l := []) (S := [.ins g.Forest []]) rfl (fl_p X) (by decide)
    have q2 : setF g.FL "worths" (.obj 0) (.dat (.tup (ws.map .int))) [.ins g.Forest [("parents", .dat (.tup (ps.map ov)))]] = some [.ins g.Forest [("parents", .dat (.tup (ps.map ov))), ("worths", .dat (.tup (ws.map .int)))]] := by
      rw [setF_o (S := [.ins g.Forest [("parents", .dat (.tup (ps.map ov)))]]) rfl (fl_w X) (by simp)]
      have : putD "worths" (D.dat (.tup (ws.map .int))) [(("parents" : Str), D.dat (.tup (ps.map ov)))] = [(("parents" : Str), D.dat (.tup (ps.map ov))), (("worths" : Str), D.dat (.tup (ws.map .int)))] := by
        unfold putD; rw [if_neg pw_]; rfl
      rw [this]; rfl
    have e3 : (ps.length : Int) = (ws.length : Int) := by omega
    unfold m_Forest_init mSetF
    dsimp! [are_parents_t g t h1 hn, List.length_map, e3, are_worths_t g ws (by omega), q1, q2]
  refine pure_obj rfl (i := 0) (S' := [.ins g.Forest [("parents", .dat (.tup (ps.map ov))), ("worths", .dat (.tup (ws.map .int)))]]) ?_ rfl
  unfold mkC
  rw [show ([] : Store) ++ [.ins g.Forest []] = [.ins g.Forest []] from rfl]
  show (m_Forest_init g [.obj 0, _, _] _).bind _ = _
  rw [e1]; rfl
noncomputable def rt (ps : List (Option Nat)) (h : Nat) : Nat := (W2.up ps h).getLast?.getD 0
end W3
namespace W3
open PySem PySem.Spec PyProof.Rows L2 M3
/-- from i by the parents, over line, to a -/
structure Pth (ps : List (Option Nat)) (i : Nat) (line : List Nat) (a : Nat) : Prop where
  on : ∀ l, W2.Ch ps a l → W2.Ch ps i (line ++ l)
  off : ∀ m, W2.Ch ps i m → ∃ l, m = line ++ l ∧ W2.Ch ps a l
  lt : ∀ x ∈ line, x < ps.length
theorem Pth.nil {ps : List (Option Nat)} {i : Nat} : Pth ps i [] i := ⟨fun _ c => c, fun m c => ⟨m, rfl, c⟩, fun _ h => (nomatch h)⟩
theorem Pth.step {ps : List (Option Nat)} {i a p : Nat} {line : List Nat} (h : Pth ps i line a) (e : ps[a]? = some (some p)) : Pth ps i (line ++ [a]) p := by
  refine ⟨fun l c => ?_, fun m c => ?_, fun x hx => ?_⟩
  · have := h.on (a :: l) (.step e c)
    simpa using this
  · obtain ⟨l, rfl, c2⟩ := h.off m c
    cases c2 with
    | root e2 => rw [e] at e2; cases e2
    | step e2 c3 =>
      rw [e] at e2
      cases e2
      exact ⟨_, by simp, c3⟩
  · rcases List.mem_append.mp hx with hx | hx
    · exact h.lt x hx
    · rw [List.mem_singleton.mp hx]; exact (List.getElem?_eq_some_iff.mp e).1
theorem come_any (g : G) {ps : List (Option Nat)} (ir : W2.Inr ps) (hn : ps.length ≤ 64) (S : Store) : ∃ b, mPure (m_come_to_roots g) [.dat (.tup (ps.map ov))] S = .ok (.dat (.bl b)) S ∧ (b = true ↔ W2.Tree ps) := by
  suffices h : ∃ d S', m_come_to_roots g [.dat (.tup (ps.map ov))] [] = .ok d S' ∧ ∃ b, d = .dat (.bl b) ∧ (b = true ↔ W2.Tree ps) from let ⟨d, S', e, b, z, q⟩ := h; ⟨b, pure_dat rfl (z ▸ e), q⟩
  unfold m_come_to_roots
  rw [mBody_fin]
  refine fin_ends ?_
  have e1 : ∀ δ S, δ[0]? = some (some (.dat (.tup (ps.map ov)))) → 2 < δ.length → mLc (mWalk (mVar 0)) (gmName 2) mYes (mOp aIsN (mVar 2) (mC .non)) [2] δ S = .ok (bls (ps.map fun o => o.isNone)) S := fun δ S hδ h2 => by
    rw [← nones]
    refine lc_items _ (walk_t (by unfold mVar; rw [hδ])) (by simp; omega) fun d hd => ⟨_, rfl, ?_⟩
    obtain ⟨p, hp, rfl⟩ := List.mem_map.mp hd
    obtain ⟨o, ho, rfl⟩ := List.mem_map.mp hp
    have e : ((wipeD δ [2]).set 2 (some (D.dat (ov o))))[2]? = some (some (.dat (ov o))) := List.getElem?_set_self (by simp [wipeD]; exact h2)
    cases o with
    | none => exact ⟨rfl, by unfold mOp mVar; rw [e]; rfl⟩
    | some q => exact ⟨rfl, by unfold mOp mVar; rw [e]; rfl⟩
  dsimp! [List.length_map]
  rw [e1 _ _ rfl (by simp)]
  dsimp! []
  -- the houses
  refine then_ends (Q1 := fun o S => (∃ δ, o = .nx δ ∧ W2.Tree ps) ∨ (o = .rt (.dat (.bl false)) ∧ ¬ W2.Tree ps)) ?_ (fun o S h => by
    rcases h with ⟨δ, e, t⟩ | ⟨e, t⟩
    · subst e; exact ⟨_, _, rfl, _, rfl, true, rfl, by simpa using t⟩
    · subst e; exact ⟨_, _, rfl, _, rfl, false, rfl, by simpa using t⟩)
  rw [for_items (rng1_ok (n := ps.length) (by dsimp! [List.length_map] <;> rfl) (by omega))]
  have q0 : ∀ h : Nat, (ps.map fun o => o.isNone)[h]? = some true → ∃ l, W2.Ch ps h l := fun h e => by
    rw [List.getElem?_map] at e
    cases q : ps[h]? with
    | none => rw [q] at e; cases e
    | some o =>
      rw [q] at e
      cases o with
      | none => exact ⟨[h], .root q⟩
      | some y => cases e
  refine forL_ends (fun i δ S => ∃ (bs : List Bool) (x2 x3 x4 x5 x6 : Option D), δ = [some (.dat (.tup (ps.map ov))), some (.obj 0), x2, x3, x4, x5, x6] ∧ S[0]? = some (.lst (bls bs)) ∧ bs.length = ps.length ∧ (∀ h : Nat, ps[h]? = some none → bs[h]? = some true) ∧ (∀ h : Nat, bs[h]? = some true → ∃ l, W2.Ch ps h l) ∧ ∀ j, j < i → ∃ l, W2.Ch ps j l) (i := 0)
    ⟨ps.map fun o => o.isNone, none, none, none, none, none, rfl, rfl, by simp, fun h e => by rw [List.getElem?_map, e]; rfl, q0, fun j hj => (nomatch hj)⟩ ?_ (fun δ S ⟨bs, _, _, _, _, _, _, _, _, _, _, hc⟩ => .inl ⟨_, rfl, W2.tree_iff.mpr fun h hh => hc h (by simpa [rngD_len] using hh)⟩)
  rintro i d δ S hd ⟨bs, x2, x3, x4, x5, x6, rfl, hS, hb, hr, hs, hc⟩
  obtain ⟨hi, rfl⟩ := rngD_get hd
  rw [Nat.zero_add] at hc
  have hS0 := lt_of_get hS
  dsimp! []
  refine then_ends (Q1 := fun o S' => (∃ (x5 : Option D) (line : List Nat) (bs : List Bool), o = .nx [some (.dat (.tup (ps.map ov))), some (.obj 0), x2, some (.dat (.int (0 + (i : Int)))), some (.obj S.length), x5, x6] ∧ S'[0]? = some (.lst (bls bs)) ∧ bs.length = ps.length ∧ (∀ h : Nat, ps[h]? = some none → bs[h]? = some true) ∧ (∀ h : Nat, bs[h]? = some true → ∃ l, W2.Ch ps h l) ∧ S'[S.length]? = some (.lst ((line.map nv).map .dat)) ∧ (∀ x ∈ line, x < ps.length ∧ ∃ l, W2.Ch ps x l) ∧ ∃ l, W2.Ch ps i l) ∨ (o = .rt (.dat (.bl false)) ∧ ¬ W2.Tree ps)) ?_ ?_
  · refine while_ends (m := ps.length + 1) (fun m δ S' => ∃ (line : List Nat) (a : Nat) (bs : List Bool), δ = [some (.dat (.tup (ps.map ov))), some (.obj 0), x2, some (.dat (.int (0 + (i : Int)))), some (.obj S.length), some (.dat (nv a)), x6] ∧ S'[0]? = some (.lst (bls bs)) ∧ bs.length = ps.length ∧ (∀ h : Nat, ps[h]? = some none → bs[h]? = some true) ∧ (∀ h : Nat, bs[h]? = some true → ∃ l, W2.Ch ps h l) ∧ S'[S.length]? = some (.lst ((line.map nv).map .dat)) ∧ Pth ps i line a ∧ a < ps.length ∧ line.length ≤ ps.length ∧ m = ps.length + 1 - line.length) (by omega) ?_ ?_
    · exact ⟨[], i, bs, by rw [Int.zero_add]; rfl, get_app hS, hb, hr, hs, get_new, .nil, hi, by simp, by simp⟩
    · rintro m δ S' ⟨line, a, bs, rfl, h0, hb, hr, hs, hL, pt, ha, hll, rfl⟩
      have eb : bs[a]? = some bs[a] := List.getElem?_eq_getElem (by omega)
      have eix : aIx S' (.obj 0) (.dat (nv a)) = some (.dat (.bl bs[a])) := ix_o h0 (atN (map_get eb))
      refine ⟨!bs[a], S', by dsimp! [eix], fun hx => ?_, fun hx => ?_⟩
      · have hpa : ps[a]? ≠ some none := fun z => by
          have := hr a z
          rw [eb] at this
          have := Option.some.inj this
          rw [this] at hx; cases hx
        have e : ps[a]? = some ps[a] := List.getElem?_eq_getElem ha
        cases ep : ps[a] with
        | none => rw [ep] at e; exact absurd e hpa
        | some p =>
          rw [ep] at e
          have elen : aLen S' [.obj S.length] = some (.dat (.int (line.length : Nat))) := by
            rw [len_o hL]; simp
          by_cases ce : line.length = ps.length
          · have ene : decide ((line.length : Int) = (ps.length : Int)) = true := decide_eq_true (by omega)
            dsimp! [elen, List.length_map, ene]
            refine Ends.of (show TurnP _ _ (.rt _) _ from .inr ⟨rfl, fun t => ?_⟩)
            obtain ⟨c, cl⟩ := t i hi
            obtain ⟨l, e2, c2⟩ := pt.off _ c
            obtain ⟨r, e3⟩ := c2.head
            rw [e2, e3, List.length_append, List.length_cons] at cl
            omega
          · have eap : updL fAppend (.obj S.length) [.dat (nv a)] S' = .ok (.dat .non) (S'.set S.length (.lst ((line.map nv).map .dat ++ [.dat (nv a)]))) := app_o hL (by simp; omega)
            have epx : aIx (S'.set S.length (.lst ((line.map nv).map .dat ++ [.dat (nv a)]))) (.dat (.tup (ps.map ov))) (.dat (nv a)) = some (.dat (ov (some p))) := ix_t (atN (map_get e))
            have ene : decide ((line.length : Int) = (ps.length : Int)) = false := decide_eq_false (by omega)
            unfold mBM
            dsimp! [elen, List.length_map, ene, kind_o hL, eap, epx]
            refine Ends.of (tm ⟨ps.length + 1 - (line ++ [a]).length, by rw [List.length_append]; simp; omega, line ++ [a], p, bs, rfl, get_set (by omega) h0, hb, hr, hs, ?_, pt.step e, ir a p e, by rw [List.length_append]; simp; omega, rfl⟩)
            rw [get_set_self hL]
            simp
      · have hba : bs[a]? = some true := by rw [eb]; congr 1; simpa using hx
        obtain ⟨l, cl⟩ := hs a hba
        have ci := pt.on l cl
        refine .inl ⟨_, line, bs, rfl, h0, hb, hr, hs, hL, fun x hx => ⟨pt.lt x hx, ?_⟩, _, ci⟩
        obtain ⟨pre, post, e2⟩ := List.append_of_mem hx
        rw [e2, List.append_assoc] at ci
        exact ⟨_, W2.Ch.tail (pre := pre) (x := x) (post := post ++ l) (by simpa using ci)⟩
  · rintro o S' (⟨x5, line, bs, rfl, h0, hb, hr, hs, hL, hx, hci⟩ | ⟨rfl, nt⟩)
    · dsimp! []
      rw [for_ob (walk_o (o := S.length) (by dsimp! [] <;> rfl) hL) hL]
      refine forO_ends (l := (line.map nv).map .dat) (fun j δ S'' => ∃ (bs : List Bool) (x6 : Option D), δ = [some (.dat (.tup (ps.map ov))), some (.obj 0), x2, some (.dat (.int (0 + (i : Int)))), some (.obj S.length), x5, x6] ∧ S''[0]? = some (.lst (bls bs)) ∧ bs.length = ps.length ∧ (∀ h : Nat, ps[h]? = some none → bs[h]? = some true) ∧ (∀ h : Nat, bs[h]? = some true → ∃ l, W2.Ch ps h l) ∧ S''[S.length]? = some (.lst ((line.map nv).map .dat))) (fun j δ S'' ⟨_, _, _, _, _, _, _, h⟩ => h) ?_ ?_ (by simp) ⟨bs, x6, rfl, h0, hb, hr, hs, hL⟩
      · rintro j d δ S'' ej ⟨bs, x6, rfl, h0, hb, hr, hs, hL⟩
        obtain ⟨p, hp, rfl⟩ := List.mem_map.mp (List.mem_of_getElem? ej)
        obtain ⟨h, hh, rfl⟩ := List.mem_map.mp hp
        have es : setD (.obj 0) (.dat (nv h)) (.dat (.bl true)) S'' = some (S''.set 0 (.lst ((bls bs).set h (.dat (.bl true))))) := setD_o h0 (ixN_nat (by unfold bls; rw [List.length_map, hb]; exact (hx h hh).1))
        dsimp! [es]
        refine Ends.of (tm ⟨bs.set h true, _, rfl, ?_, by simp [hb], fun k ek => ?_, fun k ek => ?_, get_set (by omega) hL⟩)
        · rw [get_set_self h0]
          unfold bls
          rw [List.map_set]
        · by_cases e : h = k
          · subst e; rw [List.getElem?_set_self (by have := lt_of_get (hr _ ek); exact this)]
          · rw [List.getElem?_set_ne e]; exact hr k ek
        · by_cases e : h = k
          · subst e; exact (hx h hh).2
          · rw [List.getElem?_set_ne e] at ek; exact hs k ek
      · rintro δ S'' ⟨bs, x6, rfl, h0, hb, hr, hs, hL⟩
        refine tm ⟨bs, _, _, _, _, _, rfl, h0, hb, hr, hs, fun j hj => ?_⟩
        by_cases e : j < i
        · exact hc j e
        · have : j = i := by omega
          subst this; exact hci
    · dsimp! []
      exact .of (show TurnP _ _ (.rt _) _ from .inr ⟨rfl, nt⟩)
end W3
namespace W3
open PySem PySem.Spec PyProof.Rows L2 M3
inductive Odd (g : G) : P → Prop
  | non : Odd g .non
  | bl {b : Bool} : Odd g (.bl b)
  | int {i : Int} : Odd g (.int i)
  | str {z : Str} : Odd g (.str z)
  | tup {l : List P} : (∀ p ∈ l, Odd g p) → Odd g (.tup l)
  | lst {l : List P} : (∀ p ∈ l, Odd g p) → Odd g (.lst l)
  | dic {l : List (P × P)} : Odd g (.dic l)
  | frs {ps : List (Option Nat)} {ws : List Int} : Odd g (forP g ps ws)
section
variable {g : G} (X : Gx g) {S : Store} {ps : List (Option Nat)} {ws : List Int}
include X
theorem ty_frs : tyD g.CS S (.dat (forP g ps ws)) = some (.ref g.Forest) := by
  show (if g.Forest ∈ g.CS then _ else _) = _
  rw [if_pos (by rw [X.CS]; simp)]
theorem isi_frs_int : aIsi g.K g.CS S [.dat (forP g ps ws), .dat (.con (.ty "int"))] = some (.dat (.bl false)) := by
  show (match tyD g.CS S (.dat (forP g ps ws)), clsD (.dat (.con (.ty "int"))) with | some t, some u => (PySem.W.kitOne g.K t u).map dBl | _, _ => none) = _
  rw [ty_frs X]
  show (PySem.W.kitOne g.K (.ref g.Forest) (.type "int")).map dBl = _
  rw [X.k_Forest_int]; rfl
theorem isi_frs_bool : aIsi g.K g.CS S [.dat (forP g ps ws), .dat (.con (.ty "bool"))] = some (.dat (.bl false)) := by
  show (match tyD g.CS S (.dat (forP g ps ws)), clsD (.dat (.con (.ty "bool"))) with | some t, some u => (PySem.W.kitOne g.K t u).map dBl | _, _ => none) = _
  rw [ty_frs X]
  show (PySem.W.kitOne g.K (.ref g.Forest) (.type "bool")).map dBl = _
  rw [X.k_Forest_bool]; rfl
theorem isi_frs_tuple : aIsi g.K g.CS S [.dat (forP g ps ws), .dat (.con (.ty "tuple"))] = some (.dat (.bl false)) := by
  show (match tyD g.CS S (.dat (forP g ps ws)), clsD (.dat (.con (.ty "tuple"))) with | some t, some u => (PySem.W.kitOne g.K t u).map dBl | _, _ => none) = _
  rw [ty_frs X]
  show (PySem.W.kitOne g.K (.ref g.Forest) (.type "tuple")).map dBl = _
  rw [X.k_Forest_tuple]; rfl
end
def isIP : P → Bool
  | .int _ => true
  | _ => false
def bet (lo hi : Int) : P → Bool
  | .int k => decide (lo ≤ k) && decide (k ≤ hi)
  | _ => false
def isTP : P → Bool
  | .tup _ => true
  | _ => false
section
variable {g : G} (X : Gx g) {S : Store}
include X
theorem isi_tuple_o {p : P} (h : Odd g p) : aIsi g.K g.CS S [.dat p, .dat (.con (.ty "tuple"))] = some (.dat (.bl (isTP p))) := by
  cases h <;> first | exact isi_frs_tuple X | (dsimp! [isTP])
theorem is_integer_o {p : P} (h : Odd g p) : mPure (m_is_integer g) [.dat p] S = .ok (.dat (.bl (isIP p))) S := pure_dat rfl (S' := []) (by
  unfold m_is_integer
  cases h <;> dsimp! [isIP, isi_frs_int X, isi_frs_bool X]
  rfl)
theorem is_between_o {lo hi : Int} {p : P} (h : Odd g p) : mPure (m_is_between g) [.dat (.int lo), .dat (.int hi), .dat p] S = .ok (.dat (.bl (bet lo hi p))) S := pure_dat rfl (S' := []) (by
  unfold m_is_between
  dsimp! [is_integer_o X h]
  cases h <;> dsimp! [isIP, bet]
  rfl)
theorem is_house_o {n : Int} {p : P} (h : Odd g p) : mPure (m_is_house g) [.dat (.int n), .dat p] S = .ok (.dat (.bl (bet 0 (n - 1) p))) S := pure_dat rfl (S' := []) (by
  unfold m_is_house
  dsimp! [is_between_o X h])
end
end W3
namespace W3
open PySem PySem.Spec PyProof.Rows L2 M3
def okPar (n : Int) : P → Bool
  | .non => true
  | p => bet 0 (n - 1) p
theorem pars_of {n : Nat} : ∀ {l : List P}, l.all (okPar (n : Int)) = true → ∃ ps : List (Option Nat), l = ps.map ov ∧ ∀ (k q : Nat), ps[k]? = some (some q) → q < n
  | [], _ => ⟨[], rfl, fun k q e => by simp at e⟩
  | p :: l, h => by
    rw [List.all_cons, Bool.and_eq_true] at h
    obtain ⟨ps, rfl, ir⟩ := pars_of h.2
    cases p with
    | non =>
      refine ⟨none :: ps, rfl, fun k q e => ?_⟩
      cases k with
      | zero => simp at e
      | succ k => exact ir k q (by simpa using e)
    | int i =>
      have h1 : (decide (0 ≤ i) && decide (i ≤ (n : Int) - 1)) = true := h.1
      rw [Bool.and_eq_true, decide_eq_true_eq, decide_eq_true_eq] at h1
      refine ⟨some i.toNat :: ps, ?_, fun k q e => ?_⟩
      · rw [List.map_cons]
        congr 1
        unfold ov
        simp
        omega
      · cases k with
        | zero => simp at e; omega
        | succ k => exact ir k q (by simpa using e)
    | _ => exact absurd h.1 Bool.false_ne_true
theorem okPar_ov {n : Nat} {ps : List (Option Nat)} (ir : ∀ (k q : Nat), ps[k]? = some (some q) → q < n) : (ps.map ov).all (okPar (n : Int)) = true := by
  rw [List.all_eq_true]
  intro p hp
  obtain ⟨o, ho, rfl⟩ := List.mem_map.mp hp
  cases o with
  | none => rfl
  | some q =>
    obtain ⟨k, hk⟩ := List.getElem?_of_mem ho
    have := ir k q hk
    show (decide (0 ≤ (q : Int)) && decide ((q : Int) ≤ (n : Int) - 1)) = true
    rw [decide_eq_true (by omega), decide_eq_true (by omega)]; rfl
theorem ov_inj : ∀ {ps qs : List (Option Nat)}, ps.map ov = qs.map ov → ps = qs
  | [], [], _ => rfl
  | [], _ :: _, h => by cases h
  | _ :: _, [], h => by cases h
  | a :: ps, b :: qs, h => by
    rw [List.map_cons, List.map_cons] at h
    have h1 := (List.cons.inj h).1
    have h2 := ov_inj (List.cons.inj h).2
    subst h2
    have : a = b := by
      cases a <;> cases b <;> simp [ov] at h1 ⊢ <;> omega
    subst this; rfl
end W3
namespace W3
open PySem PySem.Spec PyProof.Rows L2 M3
def isBP : P → Bool
  | .bl _ => true
  | _ => false
def rowB (n : Int) : P → Bool
  | .tup [a, b, c, d, e, f] => (okPar n a && (okPar n b && okPar n c)) && (isBP d && (isIP e && isIP f))
  | _ => false
/-- of right form where there are n houses -/
def Fm (n : Nat) (x : Hs) : Prop := ∀ o, (o = x.up ∨ o = x.left ∨ o = x.right) → ∀ q, o = some q → q < n
theorem okPar_of {n : Nat} {p : P} (h : okPar (n : Int) p = true) : ∃ o : Option Nat, p = ov o ∧ ∀ q, o = some q → q < n := by
  obtain ⟨ps, e, ir⟩ := pars_of (n := n) (l := [p]) (by simp [h])
  match ps, e, ir with
  | [o], e, ir =>
    refine ⟨o, (List.cons.inj e).1, fun q z => ir 0 q (by rw [z]; rfl)⟩
theorem okPar_ov1 {n : Nat} {o : Option Nat} (h : ∀ q, o = some q → q < n) : okPar (n : Int) (ov o) = true := by
  have := okPar_ov (n := n) (ps := [o]) (fun k q e => by
    cases k with
    | zero => exact h q (by simpa using e)
    | succ k => simp at e)
  simpa using this
theorem row_of {n : Nat} {p : P} (h : rowB (n : Int) p = true) : ∃ x : Hs, p = hsP x ∧ Fm n x := by
  unfold rowB at h
  split at h
  · rename_i a b c d e f
    simp only [Bool.and_eq_true] at h
    obtain ⟨⟨h1, h2, h3⟩, h4, h5, h6⟩ := h
    obtain ⟨u, rfl, hu⟩ := okPar_of h1
    obtain ⟨l, rfl, hl⟩ := okPar_of h2
    obtain ⟨r, rfl, hr⟩ := okPar_of h3
    cases d <;> first | (cases h4; done) | skip
    cases e <;> first | (cases h5; done) | skip
    cases f <;> first | (cases h6; done) | skip
    rename_i t ad v
    refine ⟨⟨u, l, r, t, ad, v⟩, rfl, fun o ho q eq => ?_⟩
    rcases ho with rfl | rfl | rfl
    · exact hu q eq
    · exact hl q eq
    · exact hr q eq
  · cases h
theorem rowB_hs {n : Nat} {x : Hs} (h : Fm n x) : rowB (n : Int) (hsP x) = true := by
  show (_ && (_ && _)) && (true && (true && true)) = true
  rw [okPar_ov1 (h _ (.inl rfl)), okPar_ov1 (h _ (.inr (.inl rfl))), okPar_ov1 (h _ (.inr (.inr rfl)))]; rfl
theorem rows_of {n : Nat} : ∀ {l : List P}, l.all (rowB (n : Int)) = true → ∃ s : Shp, l = s.map hsP ∧ ∀ x ∈ s, Fm n x
  | [], _ => ⟨[], rfl, fun x m => nomatch m⟩
  | p :: l, h => by
    rw [List.all_cons, Bool.and_eq_true] at h
    obtain ⟨s, rfl, hs⟩ := rows_of h.2
    obtain ⟨x, rfl, hx⟩ := row_of h.1
    refine ⟨x :: s, rfl, fun y m => ?_⟩
    rcases List.mem_cons.mp m with rfl | m
    · exact hx
    · exact hs y m
theorem RS.fm {s : Shp} (R : RS s) : ∀ x ∈ s, Fm s.length x := by
  intro x m o ho q e
  obtain ⟨k, hk⟩ := List.getElem?_of_mem m
  rcases ho with rfl | rfl | rfl
  · exact R.up_lt hk e
  · obtain ⟨y, ey, _⟩ := R.son k q ⟨x, hk, .inl e⟩; exact lt_at ey
  · obtain ⟨y, ey, _⟩ := R.son k q ⟨x, hk, .inr e⟩; exact lt_at ey
/-- a right shape -/
def ShR (p : P) : Prop := ∃ s : Shp, RS s ∧ p = shP s
theorem ov_one {a b : Option Nat} (h : ov a = ov b) : a = b := by
  have := ov_inj (ps := [a]) (qs := [b]) (by simp [h])
  simpa using this
theorem hsP_inj {x y : Hs} (h : hsP x = hsP y) : x = y := by
  unfold hsP at h
  injection h with h
  simp only [List.cons.injEq] at h
  obtain ⟨h1, h2, h3, h4, h5, h6, _⟩ := h
  cases x; cases y
  simp only [Hs.mk.injEq]
  exact ⟨ov_one h1, ov_one h2, ov_one h3, by injection h4, by injection h5, by injection h6⟩
theorem hsP_map_inj : ∀ {s t : Shp}, s.map hsP = t.map hsP → s = t
  | [], [], _ => rfl
  | [], _ :: _, h => by cases h
  | _ :: _, [], h => by cases h
  | a :: s, b :: t, h => by
    rw [List.map_cons, List.map_cons] at h
    rw [hsP_inj (List.cons.inj h).1, hsP_map_inj (List.cons.inj h).2]
theorem shP_inj {s t : Shp} (h : shP s = shP t) : s = t := hsP_map_inj (P.tup.inj h)
theorem shR_iff {s : Shp} : ShR (shP s) ↔ RS s := ⟨fun ⟨t, R, e⟩ => by rw [shP_inj e]; exact R, fun R => ⟨s, R, rfl⟩⟩
theorem isi_bool_o {g : G} (X : Gx g) {S : Store} {p : P} (h : Odd g p) : aIsi g.K g.CS S [.dat p, .dat (.con (.ty "bool"))] = some (.dat (.bl (isBP p))) := by
  cases h <;> first | exact isi_frs_bool X | (dsimp! [isBP])
theorem okPar_o {g : G} (X : Gx g) {n : Int} {p : P} (h : Odd g p) (δ : DEnv) (i j : Nat) (hi : δ[i]? = some (some (.dat (.int n)))) (hj : δ[j]? = some (some (.dat p))) :
    mOr (mOp aIsN (mVar j) (mC .non)) (mDef 2 (mPure (m_is_house g)) (mCons (mVar i) (mCons (mVar j) mNil))) δ [] = .ok (.dat (.bl (okPar n p))) [] := by
  cases h with
  | non => dsimp! [hi, hj, okPar]
  | dic =>
    have en : ∀ S d, aIsN S (.dat (.dic d)) (.dat .non) = some (.dat (.bl false)) := fun _ _ => rfl
    dsimp! [hi, hj, okPar, en, is_house_o X .dic]
  | frs =>
    have en : ∀ S ps ws, aIsN S (.dat (forP g ps ws)) (.dat .non) = some (.dat (.bl false)) := fun _ _ _ => rfl
    dsimp! [hi, hj, en, is_house_o X .frs]
    rfl
  | bl => dsimp! [hi, hj, okPar, is_house_o X .bl]
  | int => dsimp! [hi, hj, okPar, is_house_o X .int]
  | str => dsimp! [hi, hj, okPar, is_house_o X .str]
  | tup hh => dsimp! [hi, hj, okPar, is_house_o X (.tup hh)]
  | lst hh => dsimp! [hi, hj, okPar, is_house_o X (.lst hh)]
theorem is_part_any {g : G} (X : Gx g) {n : Int} {p : P} (h : Odd g p) (S : Store) : mPure (m_is_part g) [.dat (.int n), .dat p] S = .ok (.dat (.bl (rowB n p))) S := by
  refine pure_dat rfl (S' := []) ?_
  by_cases c : ∃ l, p = .tup l
  · obtain ⟨l, rfl⟩ := c
    have ho : ∀ q ∈ l, Odd g q := by cases h with | tup ho => exact ho
    have nei : ∀ (S : Store) (i j : Int), aNe S (.dat (.int i)) (.dat (.int j)) = some (.dat (.bl (!decide (i = j)))) := fun _ _ _ => rfl
    by_cases c6 : l.length = 6
    · match l, c6, ho with
      | [a, b, c, d, e, f], _, ho =>
        have oa := ho a (by simp)
        have ob := ho b (by simp)
        have oc := ho c (by simp)
        have od := ho d (by simp)
        have oe := ho e (by simp)
        have of' := ho f (by simp)
        have ln : ∀ S : Store, aLen S [.dat (.tup [a, b, c, d, e, f])] = some (.dat (.int 6)) := fun _ => rfl
        have it : ∀ S : Store, aIsi g.K g.CS S [.dat (.tup [a, b, c, d, e, f]), .dat (.con (.ty "tuple"))] = some (.dat (.bl true)) := fun S => isi_tup_tuple
        have sl : aSl ([] : Store) (.dat (.tup [a, b, c, d, e, f])) none (some 3) = some (.dat (.tup [a, b, c])) := rfl
        have i3 : ∀ S : Store, aIx S (.dat (.tup [a, b, c, d, e, f])) (.dat (.int 3)) = some (.dat d) := fun _ => rfl
        have i4 : ∀ S : Store, aIx S (.dat (.tup [a, b, c, d, e, f])) (.dat (.int 4)) = some (.dat e) := fun _ => rfl
        have i5 : ∀ S : Store, aIx S (.dat (.tup [a, b, c, d, e, f])) (.dat (.int 5)) = some (.dat f) := fun _ => rfl
        have lc : mLc (mWalk (mSl (mVar 1) moN (moS (mC (.int 3))))) (gmName 2) mYes (mOr (mOp aIsN (mVar 2) (mC .non)) (mDef 2 (mPure (m_is_house g)) (mCons (mVar 0) (mCons (mVar 2) mNil)))) [2] [some (.dat (.int n)), some (.dat (.tup [a, b, c, d, e, f])), none] [] = .ok (([a, b, c].map fun q => P.bl (okPar n q)).map .dat) [] :=
          lc_all (xs := [a, b, c]) (fun q => .dat q) (fun q => .bl (okPar n q)) (by
            rw [walk_t (l := [a, b, c]) (S1 := []) (by unfold mSl moN moS; dsimp! [sl])]) (by simp) fun q m => ⟨_, rfl, rfl, by
            have oq : Odd g q := by
              simp only [List.mem_cons, List.not_mem_nil, or_false] at m
              rcases m with rfl | rfl | rfl
              · exact oa
              · exact ob
              · exact oc
            exact okPar_o X oq _ 0 2 rfl rfl⟩
        have d6 : ((!decide ((6 : Int) = 6)) : Bool) = false := rfl
        unfold m_is_part
        dsimp! [it, ln, nei, d6, lc, i3, i4, i5, is_integer_o X oe, is_integer_o X of', isi_bool_o X od]
        rw [show ([P.bl (okPar n a), P.bl (okPar n b), P.bl (okPar n c)] : List P) = [okPar n a, okPar n b, okPar n c].map .bl from rfl, all_lst]
        have er : rowB n (.tup [a, b, c, d, e, f]) = ((okPar n a && (okPar n b && okPar n c)) && (isBP d && (isIP e && isIP f))) := rfl
        rw [er]
        cases okPar n a <;> cases okPar n b <;> cases okPar n c <;> dsimp! [List.all_cons, List.all_nil, id, i3, i4, i5, is_integer_o X oe, is_integer_o X of', isi_bool_o X od]
    · have er : rowB n (.tup l) = false := by
        unfold rowB
        split
        · rename_i e; cases e; exact absurd rfl c6
        · rfl
      have ln : ∀ S : Store, aLen S [.dat (.tup l)] = some (.dat (.int (l.length : Int))) := fun S => len_t
      have d6 : ((!decide (((l.length : Nat) : Int) = 6)) : Bool) = true := by rw [decide_eq_false (by omega)]; rfl
      unfold m_is_part
      dsimp! [isi_tuple_o X h, isTP, ln, nei, d6, er]
  · have er : rowB n p = false := by
      unfold rowB
      split
      · exact absurd ⟨_, rfl⟩ c
      · rfl
    have et : isTP p = false := by
      cases p <;> first | rfl | exact absurd ⟨_, rfl⟩ c
    unfold m_is_part
    dsimp! [isi_tuple_o X h, et, er]
end W3
namespace W3
open PySem PySem.Spec PyProof.Rows L2 M3
def okS (s : Shp) (h : Nat) : Option Nat → Bool
  | none => true
  | some c => match s[c]? with
    | some y => decide (y.up = some h)
    | none => false
def neB : Option Nat → Option Nat → Bool
  | some a, some b => !decide (a = b)
  | _, _ => true
def sonsB (s : Shp) (h : Nat) : Bool := match s[h]? with
  | some x => neB x.left x.right && (okS s h x.left && okS s h x.right)
  | none => false
theorem eq_ov {S : Store} {o : Option Nat} {h : Nat} : aEq S (.dat (ov o)) (.dat (nv h)) = some (.dat (.bl (decide (o = some h)))) := by
  cases o with
  | none => rfl
  | some q =>
    show some (D.dat (.bl (decide ((q : Int) = (h : Int))))) = _
    congr 3
    by_cases c : q = h
    · subst c; simp
    · rw [decide_eq_false (by omega), decide_eq_false (by simpa using c)]
theorem all_2 {b c : Bool} : ([b, c] : List Bool).all id = (b && c) := by cases b <;> cases c <;> rfl
section
variable {g : G} {s : Shp} (F : ∀ x ∈ s, Fm s.length x)
include F
theorem has_sons_any {h : Nat} (hh : h < s.length) (S : Store) : mPure (m_has_its_sons g) [.dat (shP s), .dat (nv h)] S = .ok (.dat (.bl (sonsB s h))) S := by
  obtain ⟨x, e⟩ := at_of hh
  have fx := F x (List.mem_of_getElem? e)
  have sl : aSl ([] : Store) (.dat (hsP x)) (some 1) (some 3) = some (.dat (.tup [ov x.left, ov x.right])) := rfl
  have eix := hsP_at (S := ([] : Store)) e
  have lc : mLc (mWalk (mSl (mOp aIx (mVar 0) (mVar 1)) (moS (mC (.int 1))) (moS (mC (.int 3))))) (gmName 3) (mTst (mOp aNotN (mVar 3) (mC .non))) (mVar 3) [3] [some (.dat (shP s)), some (.dat (nv h)), none, none] [] = .ok (([x.left, x.right].filterMap fun o => o.map nv).map .dat) [] :=
    lc_map (xs := [x.left, x.right]) (fun o => .dat (ov o)) (fun o => o.map nv) (by
      rw [walk_t (l := [ov x.left, ov x.right]) (S1 := []) (by unfold mSl moS; dsimp! [eix, sl])]; rfl) (by simp) fun o m => ⟨_, rfl, by
      cases o with
      | none => show mTst _ _ _ = _; dsimp! [ov]
      | some q => exact ⟨by dsimp! [ov], by dsimp! [ov, nv]⟩⟩
  have su : ∀ c, (x.left = some c ∨ x.right = some c) → ∀ S : Store, ∃ y, aIx S (.dat (shP s)) (.dat (nv c)) = some (.dat (hsP y)) ∧ aIx S (.dat (hsP y)) (.dat (.int 0)) = some (.dat (ov y.up)) ∧ decide (y.up = some h) = okS s h (some c) := fun c q S => by
    have hc : c < s.length := by
      rcases q with q | q
      · exact fx _ (.inr (.inl rfl)) c q
      · exact fx _ (.inr (.inr rfl)) c q
    obtain ⟨y, ey⟩ := at_of hc
    refine ⟨y, hsP_at ey, rfl, ?_⟩
    show _ = (match s[c]? with | some y => decide (y.up = some h) | none => false)
    rw [ey]
  have al : ∀ (cs : List Nat) (δ2 : Option D), (∀ c ∈ cs, x.left = some c ∨ x.right = some c) → cs.length ≤ 2 → mLc (mWalk (mVar 2)) (gmName 3) mYes (mOp aEq (mOp aIx (mOp aIx (mVar 0) (mVar 3)) (mC (.int 0))) (mVar 1)) [3] [some (.dat (shP s)), some (.dat (nv h)), some (.dat (.lst (cs.map nv))), none] [] = .ok ((cs.map fun c => P.bl (okS s h (some c))).map .dat) [] := fun cs _ hc hl =>
    lc_all (xs := cs) (fun c => .dat (nv c)) (fun c => .bl (okS s h (some c))) (by rw [walk_l (l := cs.map nv) (S1 := []) (by dsimp! [] <;> rfl), List.map_map]; rfl) (by omega) fun c m => ⟨_, rfl, rfl, by
      obtain ⟨y, e1, e2, e3⟩ := su c (hc c m) []
      dsimp! [e1, e2, eq_ov, e3]⟩
  have ew : sonsB s h = (neB x.left x.right && (okS s h x.left && okS s h x.right)) := by unfold sonsB; rw [e]
  have lnl : ∀ (S : Store) (l : List P), aLen S [.dat (.lst l)] = some (.dat (.int (l.length : Int))) := fun S l => len_l
  rw [ew]
  refine pure_dat rfl (S' := []) ?_
  unfold m_has_its_sons
  cases el : x.left with
  | none =>
    cases er : x.right with
    | none =>
      rw [el, er] at lc
      have lc' : _ = M3.R.ok ([] : List D) [] := lc
      have a0 := al [] none (fun c m => nomatch m) (by simp)
      have a0' : mLc (mWalk (mVar 2)) (gmName 3) mYes (mOp aEq (mOp aIx (mOp aIx (mVar 0) (mVar 3)) (mC (.int 0))) (mVar 1)) [3] [some (.dat (shP s)), some (.dat (nv h)), some (.dat (.lst [])), none] [] = .ok ([] : List D) [] := a0
      have a1 : aAll ([] : Store) [.dat (.lst [])] = some (.dat (.bl true)) := all_lst (bs := [])
      have d1 : decide (((0 : Nat) : Int) = 2) = false := rfl
      dsimp! [lc', a0', a1, d1]
      rfl
    | some c =>
      rw [el, er] at lc
      have lc' : _ = M3.R.ok [D.dat (nv c)] [] := lc
      have a0 := al [c] none (fun d m => .inr (by rw [List.mem_singleton.mp m, er])) (by simp)
      have a0' : mLc (mWalk (mVar 2)) (gmName 3) mYes (mOp aEq (mOp aIx (mOp aIx (mVar 0) (mVar 3)) (mC (.int 0))) (mVar 1)) [3] [some (.dat (shP s)), some (.dat (nv h)), some (.dat (.lst [nv c])), none] [] = .ok [D.dat (P.bl (okS s h (some c)))] [] := a0
      have a1 : aAll ([] : Store) [.dat (.lst [P.bl (okS s h (some c))])] = some (.dat (.bl (okS s h (some c)))) := by rw [show ([P.bl (okS s h (some c))] : List P) = [okS s h (some c)].map .bl from rfl, all_lst]; cases okS s h (some c) <;> rfl
      have d1 : decide (((0 + 1 : Nat) : Int) = 2) = false := rfl
      dsimp! [lc', a0', a1, d1]
      cases okS s h (some c) <;> rfl
  | some k =>
    cases er : x.right with
    | none =>
      rw [el, er] at lc
      have lc' : _ = M3.R.ok [D.dat (nv k)] [] := lc
      have a0 := al [k] none (fun d m => .inl (by rw [List.mem_singleton.mp m, el])) (by simp)
      have a0' : mLc (mWalk (mVar 2)) (gmName 3) mYes (mOp aEq (mOp aIx (mOp aIx (mVar 0) (mVar 3)) (mC (.int 0))) (mVar 1)) [3] [some (.dat (shP s)), some (.dat (nv h)), some (.dat (.lst [nv k])), none] [] = .ok [D.dat (P.bl (okS s h (some k)))] [] := a0
      have a1 : aAll ([] : Store) [.dat (.lst [P.bl (okS s h (some k))])] = some (.dat (.bl (okS s h (some k)))) := by rw [show ([P.bl (okS s h (some k))] : List P) = [okS s h (some k)].map .bl from rfl, all_lst]; cases okS s h (some k) <;> rfl
      have d1 : decide (((0 + 1 : Nat) : Int) = 2) = false := rfl
      dsimp! [lc', a0', a1, d1]
      cases okS s h (some k) <;> rfl
    | some c =>
      rw [el, er] at lc
      have lc' : _ = M3.R.ok [D.dat (nv k), D.dat (nv c)] [] := lc
      have a0 := al [k, c] none (fun d m => by
        rcases List.mem_cons.mp m with m | m
        · exact .inl (by rw [m, el])
        · exact .inr (by rw [List.mem_singleton.mp m, er])) (by simp)
      have a0' : mLc (mWalk (mVar 2)) (gmName 3) mYes (mOp aEq (mOp aIx (mOp aIx (mVar 0) (mVar 3)) (mC (.int 0))) (mVar 1)) [3] [some (.dat (shP s)), some (.dat (nv h)), some (.dat (.lst [nv k, nv c])), none] [] = .ok [D.dat (P.bl (okS s h (some k))), D.dat (P.bl (okS s h (some c)))] [] := a0
      have a1 : aAll ([] : Store) [.dat (.lst [P.bl (okS s h (some k)), P.bl (okS s h (some c))])] = some (.dat (.bl (okS s h (some k) && okS s h (some c)))) := by
        rw [show ([P.bl (okS s h (some k)), P.bl (okS s h (some c))] : List P) = [okS s h (some k), okS s h (some c)].map .bl from rfl, all_lst, all_2]
      have d1 : decide (((0 + 1 + 1 : Nat) : Int) = 2) = true := rfl
      have x0 : aIx ([] : Store) (.dat (.lst [nv k, nv c])) (.dat (.int 0)) = some (.dat (nv k)) := rfl
      have x1 : aIx ([] : Store) (.dat (.lst [nv k, nv c])) (.dat (.int 1)) = some (.dat (nv c)) := rfl
      have dk : aEq ([] : Store) (.dat (nv k)) (.dat (nv c)) = some (.dat (.bl (decide (k = c)))) := by
        have := eq_ov (S := ([] : Store)) (o := some k) (h := c)
        rw [show (decide (some k = some c)) = decide (k = c) by simp] at this
        exact this
      by_cases q : k = c
      · have dq : decide (k = c) = true := decide_eq_true q
        dsimp! [lc', a0', a1, d1, x0, x1, dk, dq]
        have en : neB (some k) (some c) = !decide (k = c) := rfl
        rw [en, dq]
        rfl
      · have dq : decide (k = c) = false := decide_eq_false q
        dsimp! [lc', a0', a1, d1, x0, x1, dk, dq]
        have en : neB (some k) (some c) = !decide (k = c) := rfl
        rw [en, dq]
        rfl
end
/-- a shape by its parts -/
theorem rs_of {s : Shp} (n1 : 1 ≤ s.length) (n64 : s.length ≤ 64) (F : ∀ x ∈ s, Fm s.length x) (hs : ∀ h, h < s.length → sonsB s h = true) (t : W2.Tree (ups s)) : RS s where
  n1 := n1
  n64 := n64
  son := fun u h ⟨y, ey, q⟩ => by
    have := hs u (lt_at ey)
    unfold sonsB at this
    rw [ey] at this
    simp only [Bool.and_eq_true] at this
    have ok : okS s u (some h) = true := by
      rcases q with q | q
      · rw [← q]; exact this.2.1
      · rw [← q]; exact this.2.2
    have ok2 : (match s[h]? with | some x => decide (x.up = some u) | none => false) = true := ok
    cases ex : s[h]? with
    | none => rw [ex] at ok2; cases ok2
    | some x =>
      rw [ex] at ok2
      exact ⟨x, rfl, of_decide_eq_true ok2⟩
  ne := fun u c y ey el er => by
    have := hs u (lt_at ey)
    unfold sonsB at this
    rw [ey] at this
    simp only [Bool.and_eq_true, el, er] at this
    have := this.1
    simp [neB] at this
  tree := t
theorem RS.sonsB {s : Shp} (R : RS s) {h : Nat} (hh : h < s.length) : sonsB s h = true := by
  obtain ⟨x, e⟩ := at_of hh
  unfold W3.sonsB
  rw [e]
  simp only [Bool.and_eq_true]
  have ok : ∀ o, (x.left = o ∨ x.right = o) → okS s h o = true := fun o q => by
    cases o with
    | none => rfl
    | some c =>
      obtain ⟨y, ey, eu⟩ := R.son h c ⟨x, e, q⟩
      unfold okS
      simp only [ey]
      exact decide_eq_true eu
  refine ⟨?_, ok _ (.inl rfl), ok _ (.inr rfl)⟩
  unfold neB
  split
  · rename_i a b el er
    have := R.ne h a x e el
    rw [er] at this
    rw [decide_eq_false (fun z => this (by rw [z]))]; rfl
  · rfl
theorem all_map_bl {α : Type} (l : List α) (f : α → Bool) (S : Store) : aAll S [.dat (.lst (l.map fun x => P.bl (f x)))] = some (.dat (.bl (l.all f))) := by
  rw [show l.map (fun x => P.bl (f x)) = (l.map f).map .bl by rw [List.map_map]; rfl, all_lst, List.all_map]; rfl
theorem is_shape_any {g : G} (X : Gx g) {p : P} (h : Odd g p) (S : Store) : ∃ b, mPure (m_is_shape g) [.dat p] S = .ok (.dat (.bl b)) S ∧ (b = true ↔ ShR p) := by
  by_cases c : ∃ l, p = .tup l
  · obtain ⟨l, rfl⟩ := c
    have ho : ∀ q ∈ l, Odd g q := by cases h with | tup ho => exact ho
    have ln : ∀ S : Store, aLen S [.dat (.tup l)] = some (.dat (.int (l.length : Int))) := fun S => len_t
    by_cases cm : 1 ≤ l.length ∧ l.length ≤ 64
    · have e1 : decide ((1 : Int) ≤ (l.length : Int)) = true := decide_eq_true (by omega)
      have e2 : decide ((l.length : Int) ≤ 64) = true := decide_eq_true (by omega)
      have l1 : mLc (mWalk (mVar 0)) (gmName 1) mYes (mDef 2 (mPure (m_is_part g)) (mCons (mCall aLen (mCons (mVar 0) mNil)) (mCons (mVar 1) mNil))) [1] [some (.dat (.tup l)), none, none] [] = .ok ((l.map fun q => P.bl (rowB (l.length : Int) q)).map .dat) [] :=
        lc_all (xs := l) (fun q => .dat q) (fun q => .bl (rowB (l.length : Int) q)) (walk_t (by dsimp! [] <;> rfl)) (by omega) fun q hq => ⟨_, rfl, rfl, by dsimp! [ln, is_part_any X (ho q hq)]⟩
      cases ca : l.all (rowB (l.length : Int)) with
      | false =>
        refine ⟨false, pure_dat rfl (S' := []) ?_, (fun z => nomatch z), fun ⟨s, R, e⟩ => ?_⟩
        · unfold m_is_shape
          dsimp! [isi_tuple_o X h, isTP, ln, is_many_i, e1, e2, l1, all_map_bl, ca]
        · cases e
          rw [List.length_map, List.all_map] at ca
          have : s.all (rowB (s.length : Int) ∘ hsP) = true := List.all_eq_true.mpr fun x m => rowB_hs (R.fm x m)
          rw [this] at ca
          cases ca
      | true =>
        obtain ⟨s, rfl, F⟩ := rows_of ca
        rw [List.length_map] at F cm
        have hd : P.tup (s.map hsP) = shP s := rfl
        have l2 : mLc (mRng1 (mCons (mCall aLen (mCons (mVar 0) mNil)) mNil)) (gmName 2) mYes (mDef 2 (mPure (m_has_its_sons g)) (mCons (mVar 0) (mCons (mVar 2) mNil))) [2] [some (.dat (.tup (s.map hsP))), none, none] [] = .ok (((List.range s.length).map fun k => P.bl (sonsB s k)).map .dat) [] := by
          have hr : mRng1 (mCons (mCall aLen (mCons (mVar 0) mNil)) mNil) [some (.dat (.tup (s.map hsP))), none, none] [] = .ok (.items ((List.range s.length).map fun k => .dat (nv k))) [] := by
            refine rng0_ok (n := s.length) ?_ (by omega)
            dsimp! [ln]
            rw [List.length_map]
          exact lc_all (xs := List.range s.length) (fun k => .dat (nv k)) (fun k => .bl (sonsB s k)) hr (by rw [List.length_range]; omega) fun k m => ⟨_, rfl, rfl, by
            have := has_sons_any (g := g) F (List.mem_range.mp m)
            dsimp! [hd, this]⟩
        have l3 : mLc (mWalk (mVar 0)) (gmName 1) mYes (mOp aIx (mVar 1) (mC (.int 0))) [1] [some (.dat (.tup (s.map hsP))), none, none] [] = .ok (((ups s).map ov).map .dat) [] := by
          have w : mWalk (mVar 0) [some (.dat (.tup (s.map hsP))), none, none] [] = .ok (.items (s.map fun x => .dat (hsP x))) [] := by
            rw [walk_t (l := s.map hsP) (S1 := []) (by dsimp! [] <;> rfl), List.map_map]; rfl
          rw [lc_all (xs := s) (fun x => .dat (hsP x)) (fun x => ov x.up) w (by omega) fun x m => ⟨_, rfl, rfl, by
            have i0 : aIx ([] : Store) (.dat (hsP x)) (.dat (.int 0)) = some (.dat (ov x.up)) := rfl
            dsimp! [i0]⟩]
          unfold ups
          rw [List.map_map (f := Hs.up)]; rfl
        have ir : W2.Inr (ups s) := fun k q e => by
          unfold ups at e
          rw [List.getElem?_map] at e
          cases ek : s[k]? with
          | none => rw [ek] at e; cases e
          | some x =>
            rw [ek] at e
            have := F x (List.mem_of_getElem? ek) _ (.inl rfl) q (Option.some.inj e)
            rw [ups_len]; exact this
        cases cs : (List.range s.length).all (sonsB s) with
        | false =>
          refine ⟨false, pure_dat rfl (S' := []) ?_, (fun z => nomatch z), fun z => ?_⟩
          · unfold m_is_shape
            dsimp! [isi_tuple_o X h, isTP, ln, is_many_i, e1, e2, l1, all_map_bl, ca, l2, cs]
          · have R := shR_iff.mp z
            have : (List.range s.length).all (sonsB s) = true := List.all_eq_true.mpr fun k m => R.sonsB (List.mem_range.mp m)
            rw [this] at cs
            cases cs
        | true =>
          have hs : ∀ k, k < s.length → sonsB s k = true := fun k hk => List.all_eq_true.mp cs k (List.mem_range.mpr hk)
          obtain ⟨b, eb, hb⟩ := come_any g (ps := ups s) ir (by rw [ups_len]; exact cm.2) []
          refine ⟨b, pure_dat rfl (S' := []) ?_, hb.trans ⟨fun t => ⟨s, rs_of cm.1 cm.2 F hs t, rfl⟩, fun z => (shR_iff.mp z).tree⟩⟩
          unfold m_is_shape
          dsimp! [isi_tuple_o X h, isTP, ln, is_many_i, e1, e2, l1, all_map_bl, ca, l2, cs, l3, eb]
    · refine ⟨false, pure_dat rfl (S' := []) ?_, (fun z => nomatch z), fun ⟨s, R, e⟩ => ?_⟩
      · have e3 : (decide ((1 : Int) ≤ (l.length : Int)) && decide ((l.length : Int) ≤ 64)) = false := by
          rw [Bool.and_eq_false_iff]
          by_cases c1 : 1 ≤ l.length
          · exact .inr (decide_eq_false (by omega))
          · exact .inl (decide_eq_false (by omega))
        unfold m_is_shape
        dsimp! [isi_tuple_o X h, isTP, ln, is_many_i, e3]
      · cases e
        rw [List.length_map] at cm
        exact (cm ⟨R.n1, R.n64⟩).elim
  · have et : isTP p = false := by
      cases p <;> first | rfl | exact absurd ⟨_, rfl⟩ c
    refine ⟨false, pure_dat rfl (S' := []) ?_, (fun z => nomatch z), fun ⟨s, R, e⟩ => absurd ⟨_, e⟩ c⟩
    unfold m_is_shape
    dsimp! [isi_tuple_o X h, et]
end W3
namespace W3
open PySem PySem.Spec PyProof.Rows L2 M3
section
variable {g : G} (X : Gx g)
include X
theorem Lj_integer {p : P} (h : Odd g p) (S : Store) : mPure (m_L_is_integer g) [.dat p] S = .ok (.dat (.bl (isIP p))) S := pure_dat rfl (S' := []) (by
  unfold m_L_is_integer
  cases h <;> dsimp! [isIP, isi_frs_int X, isi_frs_bool X]
  rfl)
theorem Lj_number {lo hi : Int} {p : P} (h : Odd g p) (S : Store) : mPure (m_L_number g) [.dat p, .dat (.int lo), .dat (.int hi)] S = .ok (.dat (.bl (bet lo hi p))) S := pure_dat rfl (S' := []) (by
  unfold m_L_number
  cases h with
  | int =>
    rename_i i
    dsimp! [isIP, bet]
    try rfl
  | _ => dsimp! [isIP, bet, isi_frs_int X, isi_frs_bool X] <;> rfl)
theorem Lj_par {n : Int} {p : P} (h : Odd g p) (δ : DEnv) (i j : Nat) (hi : δ[i]? = some (some (.dat (.int n)))) (hj : δ[j]? = some (some (.dat p))) :
    mOr (mOp aIsN (mVar j) (mC .non)) (mDef 3 (mPure (m_L_number g)) (mCons (mVar j) (mCons (mC (.int 0)) (mCons (mOp aSub (mVar i) (mC (.int 1))) mNil)))) δ [] = .ok (.dat (.bl (okPar n p))) [] := by
  have sb : ∀ S : Store, aSub S (.dat (.int n)) (.dat (.int 1)) = some (.dat (.int (n - 1))) := fun _ => rfl
  cases h with
  | non => dsimp! [hi, hj, okPar]
  | dic =>
    have en : ∀ S d, aIsN S (.dat (.dic d)) (.dat .non) = some (.dat (.bl false)) := fun _ _ => rfl
    dsimp! [hi, hj, okPar, en, sb, Lj_number X .dic]
  | frs =>
    have en : ∀ S ps ws, aIsN S (.dat (forP g ps ws)) (.dat .non) = some (.dat (.bl false)) := fun _ _ _ => rfl
    dsimp! [hi, hj, en, sb, Lj_number X .frs]
    rfl
  | bl => dsimp! [hi, hj, okPar, sb, Lj_number X .bl]
  | int => dsimp! [hi, hj, okPar, sb, Lj_number X .int]
  | str => dsimp! [hi, hj, okPar, sb, Lj_number X .str]
  | tup hh => dsimp! [hi, hj, okPar, sb, Lj_number X (.tup hh)]
  | lst hh => dsimp! [hi, hj, okPar, sb, Lj_number X (.lst hh)]
def b1 (g : G) : DS := mSeq (mIfS (mOrT (mNotT (mTst (mCall (aIsi g.K g.CS) (mCons (mVar 2) (mCons (mC (.con (.ty "tuple"))) mNil))))) (mOrT (mTst (mOp aNe (mCall aLen (mCons (mVar 2) mNil)) (mC (.int 6)))) (mNotT (mTst (mCall (aIsi g.K g.CS) (mCons (mOp aIx (mVar 2) (mC (.int 3))) (mCons (mC (.con (.ty "bool"))) mNil))))))) (mRet (mC (.bl false))) mNext)
      (mSeq (mIfS (mNotT (mTst (mCall aAll (mCons (mFrz (mLc (mWalk (mSl (mVar 2) moN (moS (mC (.int 3))))) (gmName 3) mYes (mOr (mOp aIsN (mVar 3) (mC .non)) (mDef 3 (mPure (m_L_number g)) (mCons (mVar 3) (mCons (mC (.int 0)) (mCons (mOp aSub (mVar 1) (mC (.int 1))) mNil))))) [3])) mNil)))) (mRet (mC (.bl false))) mNext)
      (mIfS (mOrT (mNotT (mTst (mDef 1 (mPure (m_L_is_integer g)) (mCons (mOp aIx (mVar 2) (mC (.int 4))) mNil)))) (mNotT (mTst (mDef 1 (mPure (m_L_is_integer g)) (mCons (mOp aIx (mVar 2) (mC (.int 5))) mNil))))) (mRet (mC (.bl false))) mNext))
/-- one row judged -/
theorem row_step {n : Nat} {th p : P} (h : Odd g p) (x3 x4 x5 x6 x7 x8 x9 : Option D) : b1 g [some (.dat th), some (.dat (.int (n : Int))), some (.dat p), x3, x4, x5, x6, x7, x8, x9] [] = .ok (if rowB (n : Int) p = true then .nx [some (.dat th), some (.dat (.int (n : Int))), some (.dat p), x3, x4, x5, x6, x7, x8, x9] else .rt (.dat (.bl false))) [] := by
  have nei : ∀ (S : Store) (i j : Int), aNe S (.dat (.int i)) (.dat (.int j)) = some (.dat (.bl (!decide (i = j)))) := fun _ _ _ => rfl
  by_cases c : ∃ l, p = .tup l
  · obtain ⟨l, rfl⟩ := c
    have ho : ∀ q ∈ l, Odd g q := by cases h with | tup ho => exact ho
    by_cases c6 : l.length = 6
    · match l, c6, ho with
      | [a, b, c, d, e, f], _, ho =>
        have oa := ho a (by simp)
        have ob := ho b (by simp)
        have oc := ho c (by simp)
        have od := ho d (by simp)
        have oe := ho e (by simp)
        have of' := ho f (by simp)
        have ln : ∀ S : Store, aLen S [.dat (.tup [a, b, c, d, e, f])] = some (.dat (.int 6)) := fun _ => rfl
        have it : ∀ S : Store, aIsi g.K g.CS S [.dat (.tup [a, b, c, d, e, f]), .dat (.con (.ty "tuple"))] = some (.dat (.bl true)) := fun S => isi_tup_tuple
        have sl : aSl ([] : Store) (.dat (.tup [a, b, c, d, e, f])) none (some 3) = some (.dat (.tup [a, b, c])) := rfl
        have i1 : ∀ S : Store, aIx S (.dat (.tup [a, b, c, d, e, f])) (.dat (.int 1)) = some (.dat b) := fun _ => rfl
        have i2 : ∀ S : Store, aIx S (.dat (.tup [a, b, c, d, e, f])) (.dat (.int 2)) = some (.dat c) := fun _ => rfl
        have i3 : ∀ S : Store, aIx S (.dat (.tup [a, b, c, d, e, f])) (.dat (.int 3)) = some (.dat d) := fun _ => rfl
        have i4 : ∀ S : Store, aIx S (.dat (.tup [a, b, c, d, e, f])) (.dat (.int 4)) = some (.dat e) := fun _ => rfl
        have i5 : ∀ S : Store, aIx S (.dat (.tup [a, b, c, d, e, f])) (.dat (.int 5)) = some (.dat f) := fun _ => rfl
        have lc : mLc (mWalk (mSl (mVar 2) moN (moS (mC (.int 3))))) (gmName 3) mYes (mOr (mOp aIsN (mVar 3) (mC .non)) (mDef 3 (mPure (m_L_number g)) (mCons (mVar 3) (mCons (mC (.int 0)) (mCons (mOp aSub (mVar 1) (mC (.int 1))) mNil))))) [3] [some (.dat th), some (.dat (.int (n : Int))), some (.dat (.tup [a, b, c, d, e, f])), x3, x4, x5, x6, x7, x8, x9] [] = .ok (([a, b, c].map fun q => P.bl (okPar (n : Int) q)).map .dat) [] :=
          lc_all (xs := [a, b, c]) (fun q => .dat q) (fun q => .bl (okPar (n : Int) q)) (by
            rw [walk_t (l := [a, b, c]) (S1 := []) (by unfold mSl moN moS; dsimp! [sl])]) (by simp) fun q m => ⟨_, rfl, rfl, by
            have oq : Odd g q := by
              simp only [List.mem_cons, List.not_mem_nil, or_false] at m
              rcases m with rfl | rfl | rfl
              · exact oa
              · exact ob
              · exact oc
            exact Lj_par X oq _ 1 3 rfl rfl⟩
        have d6 : ((!decide ((6 : Int) = 6)) : Bool) = false := rfl
        have er : rowB (n : Int) (.tup [a, b, c, d, e, f]) = ((okPar (n : Int) a && (okPar (n : Int) b && okPar (n : Int) c)) && (isBP d && (isIP e && isIP f))) := rfl
        rw [er]
        unfold b1
        cases hd : isBP d with
        | false =>
          dsimp! [it, ln, nei, d6, i3, isi_bool_o X od, hd]
          simp
        | true =>
          have al : aAll ([] : Store) [.dat (.lst ([a, b, c].map fun q => P.bl (okPar (n : Int) q)))] = some (.dat (.bl (okPar (n : Int) a && (okPar (n : Int) b && okPar (n : Int) c)))) := by
            rw [all_map_bl]
            simp only [List.all_cons, List.all_nil, Bool.and_true]
          have al : aAll ([] : Store) [.dat (.lst [P.bl (okPar (n : Int) a), P.bl (okPar (n : Int) b), P.bl (okPar (n : Int) c)])] = some (.dat (.bl (okPar (n : Int) a && (okPar (n : Int) b && okPar (n : Int) c)))) := al
          cases ha : (okPar (n : Int) a && (okPar (n : Int) b && okPar (n : Int) c)) with
          | false =>
            rw [ha] at al
            dsimp! [it, ln, nei, d6, i3, isi_bool_o X od, hd, lc, al]
            simp
          | true =>
            have ha' := ha
            simp only [Bool.and_eq_true] at ha'
            obtain ⟨u, rfl, _⟩ := okPar_of ha'.1
            obtain ⟨lf, rfl, _⟩ := okPar_of ha'.2.1
            obtain ⟨r, rfl, _⟩ := okPar_of ha'.2.2
            rw [ha] at al
            cases he : isIP e with
            | false =>
              dsimp! [it, ln, nei, d6, i3, isi_bool_o X od, hd, lc, al, i4, Lj_integer X oe, he]
              simp
            | true =>
              cases hf : isIP f with
              | false =>
                dsimp! [it, ln, nei, d6, i3, isi_bool_o X od, hd, lc, al, i4, i5, Lj_integer X oe, Lj_integer X of', he, hf]
                simp
              | true =>
                dsimp! [it, ln, nei, d6, i3, isi_bool_o X od, hd, lc, al, i4, i5, Lj_integer X oe, Lj_integer X of', he, hf]
                try rfl
    · have er : rowB (n : Int) (.tup l) = false := by
        unfold rowB
        split
        · rename_i e; cases e; exact absurd rfl c6
        · rfl
      have ln : ∀ S : Store, aLen S [.dat (.tup l)] = some (.dat (.int (l.length : Int))) := fun S => len_t
      have d6 : ((!decide (((l.length : Nat) : Int) = 6)) : Bool) = true := by rw [decide_eq_false (by omega)]; rfl
      unfold b1
      dsimp! [isi_tuple_o X h, isTP, ln, nei, d6, er]
      try rfl
  · have er : rowB (n : Int) p = false := by
      unfold rowB
      split
      · exact absurd ⟨_, rfl⟩ c
      · rfl
    have et : isTP p = false := by
      cases p <;> first | rfl | exact absurd ⟨_, rfl⟩ c
    unfold b1
    dsimp! [isi_tuple_o X h, et, er]
    try rfl
end
end W3
namespace W3
open PySem PySem.Spec PyProof.Rows L2 M3
/-- after some steps up -/
def Cl (ps : List (Option Nat)) (h i : Nat) : Option Nat → Prop
  | some a => ∃ line, Pth ps h line a ∧ line.length = i ∧ a < ps.length
  | none => ∃ l, W2.Ch ps h l
theorem cl_end {ps : List (Option Nat)} {h : Nat} {o : Option Nat} (c : Cl ps h ps.length o) : o = none ↔ ∃ l, W2.Ch ps h l := by
  cases o with
  | none => exact ⟨fun _ => c, fun _ => rfl⟩
  | some a =>
    obtain ⟨line, pt, hl, _⟩ := c
    refine ⟨(fun z => nomatch z), fun ⟨l, q⟩ => ?_⟩
    have := q.len
    obtain ⟨m, rfl, c2⟩ := pt.off l q
    obtain ⟨r, e⟩ := c2.head
    rw [e, List.length_append, List.length_cons] at this
    omega
def b2 (g : G) : DS := mSeq (mAsg (mSl (mOp aIx (mVar 0) (mVar 4)) (moS (mC (.int 1))) (moS (mC (.int 3)))) (gmTup 2 (gmCons (gmName 5) (gmCons (gmName 6) gmNil))))
      (mSeq (mIfS (mAndT (mTst (mOp aNotN (mVar 5) (mC .non))) (mTst (mOp aEq (mVar 5) (mVar 6)))) (mRet (mC (.bl false))) mNext)
      (mSeq (mFor (mWalk (mFrz (mLst (mCons (mVar 5) (mCons (mVar 6) mNil))))) (gmName 7) (mIfS (mAndT (mTst (mOp aNotN (mVar 7) (mC .non))) (mTst (mOp aNe (mOp aIx (mOp aIx (mVar 0) (mVar 7)) (mC (.int 0))) (mVar 4)))) (mRet (mC (.bl false))) mNext))
      (mSeq (mAsg (mVar 4) (gmName 8))
      (mSeq (mFor (mRng1 (mCons (mVar 1) mNil)) (gmName 9) (mIfS (mTst (mOp aNotN (mVar 8) (mC .non))) (mAsg (mOp aIx (mOp aIx (mVar 0) (mVar 8)) (mC (.int 0))) (gmName 8)) mNext))
      (mIfS (mTst (mOp aNotN (mVar 8) (mC .non))) (mRet (mC (.bl false))) mNext)))))
section
variable {g : G} {s : Shp} (F : ∀ x ∈ s, Fm s.length x) (n64 : s.length ≤ 64)
include F
theorem ups_inr : W2.Inr (ups s) := fun k q e => by
  unfold ups at e
  rw [List.getElem?_map] at e
  cases ek : s[k]? with
  | none => rw [ek] at e; cases e
  | some x =>
    rw [ek] at e
    have := F x (List.mem_of_getElem? ek) _ (.inl rfl) q (Option.some.inj e)
    rw [ups_len]; exact this
include n64
/-- going up from a house -/
theorem climb_t {h : Nat} (hh : h < s.length) (x2 x3 x5 x6 x7 x9 : Option D) : Ends (mFor (mRng1 (mCons (mVar 1) mNil)) (gmName 9) (mIfS (mTst (mOp aNotN (mVar 8) (mC .non))) (mAsg (mOp aIx (mOp aIx (mVar 0) (mVar 8)) (mC (.int 0))) (gmName 8)) mNext)
    [some (.dat (shP s)), some (.dat (.int (s.length : Int))), x2, x3, some (.dat (nv h)), x5, x6, x7, some (.dat (nv h)), x9] [])
    fun o' S' => ∃ (o : Option Nat) (x9 : Option D), o' = .nx [some (.dat (shP s)), some (.dat (.int (s.length : Int))), x2, x3, some (.dat (nv h)), x5, x6, x7, some (.dat (ov o)), x9] ∧ S' = [] ∧ (o = none ↔ ∃ l, W2.Ch (ups s) h l) := by
  rw [for_items (rng0_ok (n := s.length) (by dsimp! [] <;> rfl) (by omega))]
  refine forL_ends (fun i δ S' => ∃ (o : Option Nat) (x9 : Option D), δ = [some (.dat (shP s)), some (.dat (.int (s.length : Int))), x2, x3, some (.dat (nv h)), x5, x6, x7, some (.dat (ov o)), x9] ∧ S' = [] ∧ Cl (ups s) h i o) (i := 0) ⟨some h, x9, rfl, rfl, [], Pth.nil, rfl, by rw [ups_len]; exact hh⟩ ?_ ?_
  · rintro i d δ S' ed ⟨o, x9, rfl, rfl, c⟩
    rw [Nat.zero_add] at c ⊢
    cases o with
    | none =>
      have nn : ∀ S : Store, aNotN S (.dat (ov none)) (.dat .non) = some (.dat (.bl false)) := fun _ => rfl
      dsimp! [nn]
      exact .of (tm ⟨none, _, rfl, rfl, c⟩)
    | some a =>
      obtain ⟨line, pt, hl, ha⟩ := c
      rw [ups_len] at ha
      obtain ⟨x, ex⟩ := at_of ha
      have nn : ∀ S : Store, aNotN S (.dat (ov (some a))) (.dat .non) = some (.dat (.bl true)) := fun _ => rfl
      have ix : aIx ([] : Store) (.dat (shP s)) (.dat (ov (some a))) = some (.dat (hsP x)) := hsP_at ex
      have i0 : aIx ([] : Store) (.dat (hsP x)) (.dat (.int 0)) = some (.dat (ov x.up)) := rfl
      dsimp! [nn, ix, i0]
      refine .of (tm ⟨x.up, _, rfl, rfl, ?_⟩)
      have eu := ups_at ex
      cases q : x.up with
      | none => rw [q] at eu; exact ⟨_, pt.on _ (.root eu)⟩
      | some b =>
        rw [q] at eu
        exact ⟨line ++ [a], pt.step eu, by simp [hl], ups_inr F a b eu⟩
  · rintro δ S' ⟨o, x9, rfl, rfl, c⟩
    rw [Nat.zero_add, List.length_map, List.length_range] at c
    exact ⟨o, x9, rfl, rfl, cl_end (by rw [ups_len]; exact c)⟩
theorem sons_loop {h : Nat} {x : Hs} (e : s[h]? = some x) (x2 x3 x7 x8 x9 : Option D) : Ends (mFor (mWalk (mFrz (mLst (mCons (mVar 5) (mCons (mVar 6) mNil))))) (gmName 7) (mIfS (mAndT (mTst (mOp aNotN (mVar 7) (mC .non))) (mTst (mOp aNe (mOp aIx (mOp aIx (mVar 0) (mVar 7)) (mC (.int 0))) (mVar 4)))) (mRet (mC (.bl false))) mNext)
    [some (.dat (shP s)), some (.dat (.int (s.length : Int))), x2, x3, some (.dat (nv h)), some (.dat (ov x.left)), some (.dat (ov x.right)), x7, x8, x9] [])
    fun o' S' => S' = [] ∧ (((okS s h x.left && okS s h x.right) = true ∧ ∃ x7 : Option D, o' = .nx [some (.dat (shP s)), some (.dat (.int (s.length : Int))), x2, x3, some (.dat (nv h)), some (.dat (ov x.left)), some (.dat (ov x.right)), x7, x8, x9]) ∨ ((okS s h x.left && okS s h x.right) = false ∧ o' = .rt (.dat (.bl false)))) := by
  have fx := F x (List.mem_of_getElem? e)
  have l2 : (2 : Nat) ≤ 100000 := by decide
  rw [for_items (l := [x.left, x.right].map fun o => .dat (ov o)) (S1 := []) (by
    rw [walk_l (l := [ov x.left, ov x.right]) (S1 := []) (by dsimp! [l2])]; rfl)]
  refine forL_ends (fun i δ S' => S' = [] ∧ ∃ x7 : Option D, (∀ (k : Nat) o, k < i → ([x.left, x.right] : List (Option Nat))[k]? = some o → okS s h o = true) ∧ δ = [some (.dat (shP s)), some (.dat (.int (s.length : Int))), x2, x3, some (.dat (nv h)), some (.dat (ov x.left)), some (.dat (ov x.right)), x7, x8, x9]) (i := 0) ⟨rfl, _, fun k o hk => absurd hk (by omega), rfl⟩ ?_ ?_
  · rintro i d δ S' ed ⟨rfl, x7, hk, rfl⟩
    rw [Nat.zero_add] at hk ⊢
    rw [List.getElem?_map] at ed
    cases eo : ([x.left, x.right] : List (Option Nat))[i]? with
    | none => rw [eo] at ed; cases ed
    | some o =>
      rw [eo] at ed
      cases ed
      have mo := List.mem_of_getElem? eo
      simp only [List.mem_cons, List.not_mem_nil, or_false] at mo
      have next : okS s h o = true → ∀ (k : Nat) o', k < i + 1 → ([x.left, x.right] : List (Option Nat))[k]? = some o' → okS s h o' = true := fun ok k o' hk' eo' => by
        by_cases c : k < i
        · exact hk k o' c eo'
        · have : k = i := by omega
          subst this
          rw [eo] at eo'
          cases eo'
          exact ok
      cases o with
      | none =>
        have nn : ∀ S : Store, aNotN S (.dat (ov none)) (.dat .non) = some (.dat (.bl false)) := fun _ => rfl
        dsimp! [nn]
        exact .of (tm ⟨rfl, _, next rfl, rfl⟩)
      | some c =>
        have nn : ∀ S : Store, aNotN S (.dat (ov (some c))) (.dat .non) = some (.dat (.bl true)) := fun _ => rfl
        have hc : c < s.length := by
          rcases mo with q | q
          · exact fx _ (.inr (.inl rfl)) c q.symm
          · exact fx _ (.inr (.inr rfl)) c q.symm
        obtain ⟨y, ey⟩ := at_of hc
        have e1 : aIx ([] : Store) (.dat (shP s)) (.dat (ov (some c))) = some (.dat (hsP y)) := hsP_at ey
        have e2 : aIx ([] : Store) (.dat (hsP y)) (.dat (.int 0)) = some (.dat (ov y.up)) := rfl
        have ek : okS s h (some c) = decide (y.up = some h) := by
          show (match s[c]? with | some y => decide (y.up = some h) | none => false) = _
          rw [ey]
        have ne : aNe ([] : Store) (.dat (ov y.up)) (.dat (nv h)) = some (.dat (.bl (!okS s h (some c)))) := by
          have := eq_ov (S := ([] : Store)) (o := y.up) (h := h)
          rw [ek]
          show (eqD ([] : Store) (.dat (ov y.up)) (.dat (nv h))).map (fun b => dBl (!b)) = _
          have e3 : (eqD ([] : Store) (.dat (ov y.up)) (.dat (nv h))).map dBl = some (.dat (.bl (decide (y.up = some h)))) := this
          cases q : eqD ([] : Store) (.dat (ov y.up)) (.dat (nv h)) with
          | none => rw [q] at e3; cases e3
          | some b =>
            rw [q] at e3
            have : b = decide (y.up = some h) := by
              have := Option.some.inj e3
              injection this with this
              injection this
            rw [this]; rfl
        cases ok : okS s h (some c) with
        | true =>
          rw [ok] at ne
          dsimp! [nn, e1, e2, ne]
          exact .of (tm ⟨rfl, _, next ok, rfl⟩)
        | false =>
          rw [ok] at ne
          dsimp! [nn, e1, e2, ne]
          refine ⟨_, _, rfl, rfl, .inr ⟨?_, rfl⟩⟩
          rcases mo with q | q
          · rw [← q, ok]; rfl
          · rw [← q, ok, Bool.and_false]
  · rintro δ S' ⟨rfl, x7, hk, rfl⟩
    refine ⟨rfl, .inl ⟨?_, _, rfl⟩⟩
    rw [Bool.and_eq_true]
    exact ⟨hk 0 _ (by simp) rfl, hk 1 _ (by simp) rfl⟩
/-- one house judged -/
theorem house_step {h : Nat} {x : Hs} (e : s[h]? = some x) (x2 x3 x5 x6 x7 x8 x9 : Option D) : Ends (b2 g [some (.dat (shP s)), some (.dat (.int (s.length : Int))), x2, x3, some (.dat (nv h)), x5, x6, x7, x8, x9] [])
    fun o' S' => S' = [] ∧ ((sonsB s h = true ∧ (∃ l, W2.Ch (ups s) h l) ∧ ∃ x5 x6 x7 x8 x9 : Option D, o' = .nx [some (.dat (shP s)), some (.dat (.int (s.length : Int))), x2, x3, some (.dat (nv h)), x5, x6, x7, x8, x9]) ∨ (¬ (sonsB s h = true ∧ ∃ l, W2.Ch (ups s) h l) ∧ o' = .rt (.dat (.bl false)))) := by
  have hh := lt_at e
  have ew : sonsB s h = (neB x.left x.right && (okS s h x.left && okS s h x.right)) := by unfold sonsB; rw [e]
  obtain ⟨Q, hQ⟩ : ∃ Q : Out → Store → Prop, Q = fun o' S' => S' = [] ∧ ((sonsB s h = true ∧ (∃ l, W2.Ch (ups s) h l) ∧ ∃ x5 x6 x7 x8 x9 : Option D, o' = .nx [some (.dat (shP s)), some (.dat (.int (s.length : Int))), x2, x3, some (.dat (nv h)), x5, x6, x7, x8, x9]) ∨ (¬ (sonsB s h = true ∧ ∃ l, W2.Ch (ups s) h l) ∧ o' = .rt (.dat (.bl false)))) := ⟨_, rfl⟩
  show Ends _ (fun o' S' => _)
  rw [← hQ]
  have ix : aIx ([] : Store) (.dat (shP s)) (.dat (nv h)) = some (.dat (hsP x)) := hsP_at e
  have sl : aSl ([] : Store) (.dat (hsP x)) (some 1) (some 3) = some (.dat (.tup [ov x.left, ov x.right])) := rfl
  have two : ([ov x.left, ov x.right] : List P).length = 2 := rfl
  have bad : neB x.left x.right = false → Q (.rt (.dat (.bl false))) [] := fun q => by
    rw [hQ]
    exact ⟨rfl, .inr ⟨fun z => (by rw [ew, q] at z; cases z.1), rfl⟩⟩
  have main : neB x.left x.right = true → ∀ x7 : Option D, Ends (mSeq (mFor (mWalk (mFrz (mLst (mCons (mVar 5) (mCons (mVar 6) mNil))))) (gmName 7) (mIfS (mAndT (mTst (mOp aNotN (mVar 7) (mC .non))) (mTst (mOp aNe (mOp aIx (mOp aIx (mVar 0) (mVar 7)) (mC (.int 0))) (mVar 4)))) (mRet (mC (.bl false))) mNext))
      (mSeq (mAsg (mVar 4) (gmName 8))
      (mSeq (mFor (mRng1 (mCons (mVar 1) mNil)) (gmName 9) (mIfS (mTst (mOp aNotN (mVar 8) (mC .non))) (mAsg (mOp aIx (mOp aIx (mVar 0) (mVar 8)) (mC (.int 0))) (gmName 8)) mNext))
      (mIfS (mTst (mOp aNotN (mVar 8) (mC .non))) (mRet (mC (.bl false))) mNext))) [some (.dat (shP s)), some (.dat (.int (s.length : Int))), x2, x3, some (.dat (nv h)), some (.dat (ov x.left)), some (.dat (ov x.right)), x7, x8, x9] []) Q := fun ne x7 => by
    rw [ne, Bool.true_and] at ew
    refine Ends.eq (r' := thenS _ _) ?_ rfl
    refine then_ends (sons_loop F n64 e x2 x3 x7 x8 x9) ?_
    rintro o' S' ⟨rfl, ⟨ok, x7', rfl⟩ | ⟨ok, rfl⟩⟩
    · dsimp! []
      refine then_ends (climb_t F n64 hh x2 x3 _ _ x7' x9) ?_
      rintro o' S' ⟨o, x9', rfl, rfl, hi⟩
      cases o with
      | none =>
        have nn : ∀ S : Store, aNotN S (.dat (ov none)) (.dat .non) = some (.dat (.bl false)) := fun _ => rfl
        dsimp! [nn]
        refine .of ?_
        rw [hQ]
        exact ⟨rfl, .inl ⟨by rw [ew, ok], hi.mp rfl, _, _, _, _, _, rfl⟩⟩
      | some a =>
        have nn : ∀ S : Store, aNotN S (.dat (ov (some a))) (.dat .non) = some (.dat (.bl true)) := fun _ => rfl
        dsimp! [nn]
        refine .of ?_
        rw [hQ]
        exact ⟨rfl, .inr ⟨fun z => (by cases hi.mpr z.2), rfl⟩⟩
    · refine ⟨_, _, rfl, ?_⟩
      rw [hQ]
      exact ⟨rfl, .inr ⟨fun z => (by rw [ew, ok] at z; cases z.1), rfl⟩⟩
  unfold b2 mSl moS
  cases el : x.left with
  | none =>
    have nn : ∀ S : Store, aNotN S (.dat (ov none)) (.dat .non) = some (.dat (.bl false)) := fun _ => rfl
    have m := main (by rw [el]; rfl) x7
    rw [el] at m sl two
    refine Ends.eq m ?_
    dsimp! [ix, sl, two, nn]
  | some a =>
    have nn : ∀ S : Store, aNotN S (.dat (ov (some a))) (.dat .non) = some (.dat (.bl true)) := fun _ => rfl
    have eb : ∀ S : Store, aEq S (.dat (ov (some a))) (.dat (ov x.right)) = some (.dat (.bl (!neB (some a) x.right))) := fun S => by
      cases x.right with
      | none => rfl
      | some c' =>
        have := eq_ov (S := S) (o := some a) (h := c')
        rw [show (decide (some a = some c')) = decide (a = c') by simp] at this
        show aEq S (D.dat (ov (some a))) (D.dat (ov (some c'))) = some (D.dat (P.bl (!!decide (a = c'))))
        rw [Bool.not_not]
        exact this
    rw [el] at sl two
    cases hn : neB (some a) x.right with
    | true =>
      rw [hn] at eb
      have m := main (by rw [el]; exact hn) x7
      rw [el] at m
      refine Ends.eq m ?_
      dsimp! [ix, sl, two, nn, eb]
    | false =>
      rw [hn] at eb
      refine ⟨_, _, ?_, bad (by rw [el]; exact hn)⟩
      dsimp! [ix, sl, two, nn, eb]
end
theorem Lj_shape_any {g : G} (X : Gx g) {p : P} (h : Odd g p) (S : Store) : ∃ b, mPure (m_L_is_shape g) [.dat p] S = .ok (.dat (.bl b)) S ∧ (b = true ↔ ShR p) := by
  by_cases c : ∃ l, p = .tup l
  · obtain ⟨l, rfl⟩ := c
    have ho : ∀ q ∈ l, Odd g q := by cases h with | tup ho => exact ho
    have ln : ∀ S : Store, aLen S [.dat (.tup l)] = some (.dat (.int (l.length : Int))) := fun S => len_t
    by_cases cm : 1 ≤ l.length ∧ l.length ≤ 64
    · have e1 : decide ((1 : Int) ≤ (l.length : Int)) = true := decide_eq_true (by omega)
      have e2 : decide ((l.length : Int) ≤ 64) = true := decide_eq_true (by omega)
      suffices z : ∃ d S', m_L_is_shape g [.dat (.tup l)] [] = .ok d S' ∧ ∃ b, d = .dat (.bl b) ∧ (b = true ↔ ShR (.tup l)) from let ⟨d, S', e, b, z, q⟩ := z; ⟨b, pure_dat rfl (z ▸ e), q⟩
      unfold m_L_is_shape
      rw [mBody_fin]
      refine fin_ends ?_
      dsimp! [isi_tuple_o X h, isTP, ln, e1, e2]
      rw [for_items (walk_t (l := l) (S1 := []) (by dsimp! [] <;> rfl))]
      refine then_ends (Q1 := fun o' S' => S' = [] ∧ ((∃ x2 : Option D, (∀ q ∈ l, rowB (l.length : Int) q = true) ∧ o' = .nx [some (.dat (.tup l)), some (.dat (.int (l.length : Int))), x2, none, none, none, none, none, none, none]) ∨ (¬ ShR (.tup l) ∧ o' = .rt (.dat (.bl false))))) ?_ ?_
      · refine forL_ends (fun i δ S' => S' = [] ∧ ∃ x2 : Option D, (∀ (k : Nat) q, k < i → l[k]? = some q → rowB (l.length : Int) q = true) ∧ δ = [some (.dat (.tup l)), some (.dat (.int (l.length : Int))), x2, none, none, none, none, none, none, none]) (i := 0) ⟨rfl, _, fun k q hk => absurd hk (by omega), rfl⟩ ?_ ?_
        · rintro i d δ S' ed ⟨rfl, x2, hk, rfl⟩
          rw [Nat.zero_add] at hk ⊢
          rw [List.getElem?_map] at ed
          cases eq : l[i]? with
          | none => rw [eq] at ed; cases ed
          | some q =>
            rw [eq] at ed
            cases ed
            have rs := row_step X (n := l.length) (th := .tup l) (ho q (List.mem_of_getElem? eq)) none none none none none none none
            show Ends (b1 g _ _) _
            have ed0 : (gmName 2 (.dat q) [some (.dat (.tup l)), some (.dat (.int (l.length : Int))), x2, none, none, none, none, none, none, none] []).st [some (.dat (.tup l)), some (.dat (.int (l.length : Int))), x2, none, none, none, none, none, none, none] (b1 g) = b1 g [some (.dat (.tup l)), some (.dat (.int (l.length : Int))), some (.dat q), none, none, none, none, none, none, none] [] := rfl
            refine Ends.eq ?_ rs
            by_cases cr : rowB (l.length : Int) q = true
            · rw [if_pos cr]
              refine .of (tm ⟨rfl, _, fun k q' hk' eq' => ?_, rfl⟩)
              by_cases ck : k < i
              · exact hk k q' ck eq'
              · have : k = i := by omega
                subst this
                rw [eq] at eq'
                cases eq'
                exact cr
            · rw [if_neg cr]
              refine ⟨_, _, rfl, rfl, .inr ⟨fun ⟨s, R, e⟩ => cr ?_, rfl⟩⟩
              cases e
              rw [List.getElem?_map] at eq
              cases ex : s[i]? with
              | none => rw [ex] at eq; cases eq
              | some x =>
                rw [ex] at eq
                cases eq
                rw [List.length_map]
                exact rowB_hs (R.fm x (List.mem_of_getElem? ex))
        · rintro δ S' ⟨rfl, x2, hk, rfl⟩
          refine ⟨rfl, .inl ⟨_, fun q m => ?_, rfl⟩⟩
          obtain ⟨k, ek⟩ := List.getElem?_of_mem m
          exact hk k q (by rw [Nat.zero_add, List.length_map]; exact (List.getElem?_eq_some_iff.mp ek).1) ek
      · rintro o' S' ⟨rfl, ⟨x2, ha, rfl⟩ | ⟨hn, rfl⟩⟩
        · have ca : l.all (rowB (l.length : Int)) = true := List.all_eq_true.mpr fun q m => ha q m
          obtain ⟨s, rfl, F⟩ := rows_of ca
          rw [List.length_map] at F cm ha
          have hd : P.tup (s.map hsP) = shP s := rfl
          rw [List.length_map, hd]
          dsimp! []
          rw [for_items (rng0_ok (n := s.length) (by dsimp! [] <;> rfl) (by omega))]
          refine then_ends (Q1 := fun o' S' => S' = [] ∧ ((∃ δ, (∀ k, k < s.length → sonsB s k = true ∧ ∃ l, W2.Ch (ups s) k l) ∧ o' = .nx δ) ∨ (¬ RS s ∧ o' = .rt (.dat (.bl false))))) ?_ ?_
          · refine forL_ends (fun i δ S' => S' = [] ∧ ∃ x2 x3 x4 x5 x6 x7 x8 x9 : Option D, (∀ k, k < i → sonsB s k = true ∧ ∃ l, W2.Ch (ups s) k l) ∧ δ = [some (.dat (shP s)), some (.dat (.int (s.length : Int))), x2, x3, x4, x5, x6, x7, x8, x9]) (i := 0) ⟨rfl, _, _, _, _, _, _, _, _, fun k hk => absurd hk (by omega), rfl⟩ ?_ ?_
            · rintro i d δ S' ed ⟨rfl, x2, x3, x4, x5, x6, x7, x8, x9, hk, rfl⟩
              rw [Nat.zero_add] at hk ⊢
              rw [List.getElem?_map] at ed
              cases er : (List.range s.length)[i]? with
              | none => rw [er] at ed; cases ed
              | some k0 =>
                rw [er] at ed
                cases ed
                have hi := (List.getElem?_eq_some_iff.mp er).1
                rw [List.length_range] at hi
                rw [List.getElem?_range hi] at er
                cases er
                obtain ⟨x, ex⟩ := at_of hi
                have hst := house_step (g := g) F cm.2 ex x2 x3 x5 x6 x7 x8 x9
                refine Ends.eq (Ends.mono hst ?_) rfl
                rintro o' S' ⟨rfl, ⟨hok, hch, x5', x6', x7', x8', x9', rfl⟩ | ⟨hn, rfl⟩⟩
                · refine tm ⟨rfl, _, _, _, _, _, _, _, _, fun k hk' => ?_, rfl⟩
                  by_cases ck : k < i
                  · exact hk k ck
                  · have : k = i := by omega
                    subst this
                    exact ⟨hok, hch⟩
                · exact ⟨rfl, .inr ⟨fun R => hn ⟨R.sonsB hi, _, (R.chain hi).1⟩, rfl⟩⟩
            · rintro δ S' ⟨rfl, x2, x3, x4, x5, x6, x7, x8, x9, hk, rfl⟩
              refine ⟨rfl, .inl ⟨_, fun k hk' => hk k ?_, rfl⟩⟩
              simp
              exact hk'
          · rintro o' S' ⟨rfl, ⟨δ, hs, rfl⟩ | ⟨hn, rfl⟩⟩
            · dsimp! []
              have t : W2.Tree (ups s) := W2.tree_iff.mpr fun k hk => (hs k (by rw [ups_len] at hk; exact hk)).2
              exact .of ⟨_, rfl, true, rfl, ⟨fun _ => ⟨s, rs_of cm.1 cm.2 F (fun k hk => (hs k hk).1) t, rfl⟩, fun _ => rfl⟩⟩
            · exact ⟨_, _, rfl, _, rfl, false, rfl, ⟨(fun z => nomatch z), fun z => (hn (shR_iff.mp z)).elim⟩⟩
        · exact ⟨_, _, rfl, _, rfl, false, rfl, ⟨(fun z => nomatch z), fun z => (hn z).elim⟩⟩
    · refine ⟨false, pure_dat rfl (S' := []) ?_, (fun z => nomatch z), fun ⟨s, R, e⟩ => ?_⟩
      · by_cases c1 : 1 ≤ l.length
        · have q1 : decide ((1 : Int) ≤ (l.length : Int)) = true := decide_eq_true (by omega)
          have q2 : decide ((l.length : Int) ≤ 64) = false := decide_eq_false (by omega)
          unfold m_L_is_shape
          dsimp! [isi_tuple_o X h, isTP, ln, q1, q2]
        · have q1 : decide ((1 : Int) ≤ (l.length : Int)) = false := decide_eq_false (by omega)
          unfold m_L_is_shape
          dsimp! [isi_tuple_o X h, isTP, ln, q1]
      · cases e
        rw [List.length_map] at cm
        exact (cm ⟨R.n1, R.n64⟩).elim
  · have et : isTP p = false := by
      cases p <;> first | rfl | exact absurd ⟨_, rfl⟩ c
    refine ⟨false, pure_dat rfl (S' := []) ?_, (fun z => nomatch z), fun ⟨s, R, e⟩ => absurd ⟨_, e⟩ c⟩
    unfold m_L_is_shape
    dsimp! [isi_tuple_o X h, et]
end W3
namespace W3
open PySem PySem.Spec PyProof.Rows L2 M3
theorem stands_t {g : G} (X : Gx g) {s : Shp} (R : RS s) {S : Store} (hc : ∀ (j : Nat) (w : O), S[j]? = some w → O.lt S.length w = true) :
    ∃ S', m_stands_of g [.dat (shP s)] S = .ok (.obj (S.length + s.length)) S' ∧ St g S' S.length (S.length + s.length) s ∧ S' = S ++ (s.map (stO g) ++ [.lst ((List.range s.length).map fun k => .obj (S.length + k))]) := by
  have n64 := R.n64
  refine ⟨_, ?_, ?_, rfl⟩
  · unfold m_stands_of
    have lc : mLc (mWalk (mVar 0)) (gmName 1) mYes (mDef 1 (mkC g.Stand (m_Stand_init g)) (mCons (mVar 1) mNil)) [1] [some (.dat (shP s)), none] S = .ok ((List.range s.length).map fun k => .obj (S.length + k)) (S ++ s.map (stO g)) := by
      unfold mLc
      rw [walk_t (l := s.map hsP) (S1 := S) rfl, M3.R.bind_ok]
      simp only []
      rw [List.map_map, lcL_new (D.dat ∘ hsP) (stO g) (by simp; omega) fun x m S => ⟨_, rfl, rfl, by
        have e := made_st X x S
        show mDef 1 _ _ _ _ = _
        dsimp! [Function.comp, e]⟩, M3.R.bnf_ok]
      rfl
    have ln : (S ++ s.map (stO g)).length = S.length + s.length := by simp
    dsimp! [is_shape_t R, lc, ln, List.append_assoc]
  · have len : (S ++ (s.map (stO g) ++ [O.lst ((List.range s.length).map fun k => .obj (S.length + k))])).length = S.length + s.length + 1 := by simp; omega
    refine ⟨fun k x e => ?_, ?_, fun k h => by omega, fun j w e => ?_⟩
    · rw [List.getElem?_append_right (by omega), Nat.add_sub_cancel_left, List.getElem?_append_left (by rw [List.length_map]; exact lt_at e), List.getElem?_map, e]; rfl
    · rw [List.getElem?_append_right (by omega), Nat.add_sub_cancel_left, List.getElem?_append_right (by simp)]; simp
    · rw [len]
      by_cases c : j < S.length
      · rw [List.getElem?_append_left c] at e
        exact O.lt_mono (by omega) (hc j w e)
      · rw [List.getElem?_append_right (by omega)] at e
        by_cases c2 : j - S.length < s.length
        · rw [List.getElem?_append_left (by rw [List.length_map]; exact c2), List.getElem?_map] at e
          cases q : s[j - S.length]? with
          | none => rw [q] at e; cases e
          | some x => rw [q] at e; cases e; exact stO_lt
        · rw [List.getElem?_append_right (by rw [List.length_map]; omega)] at e
          have := List.mem_singleton.mp (List.mem_of_getElem? e)
          subst this
          show List.all _ _ = true
          rw [List.all_map]
          refine List.all_eq_true.mpr fun k m => ?_
          have := List.mem_range.mp m
          show decide (S.length + k < _) = true
          exact decide_eq_true (by omega)
theorem cl_nil' : ∀ (j : Nat) (w : O), ([] : Store)[j]? = some w → O.lt ([] : Store).length w = true := fun j w e => by simp at e
theorem stands0 {g : G} (X : Gx g) {s : Shp} (R : RS s) : ∃ S', m_stands_of g [.dat (shP s)] [] = .ok (.obj s.length) S' ∧ St g S' 0 s.length s ∧ S' = s.map (stO g) ++ [.lst ((List.range s.length).map fun k => .obj (0 + k))] := by
  obtain ⟨S', e, T, q⟩ := stands_t X R cl_nil'
  refine ⟨S', ?_, ?_, ?_⟩
  · rw [e, List.length_nil, Nat.zero_add]
  · rw [List.length_nil, Nat.zero_add] at T; exact T
  · rw [q, List.nil_append]; rfl
/-- how many come to k -/
noncomputable def cnt (s : Shp) (i k : Nat) : Nat := ((List.range i).filter fun h => decide (k ∈ W2.up (ups s) h)).length
noncomputable def wt (s : Shp) (k : Nat) : Nat := cnt s s.length k
theorem cnt_succ {s : Shp} {i k : Nat} : cnt s (i + 1) k = cnt s i k + if k ∈ W2.up (ups s) i then 1 else 0 := by
  unfold cnt
  rw [List.range_succ, List.filter_append, List.length_append]
  congr 1
  by_cases c : k ∈ W2.up (ups s) i
  · rw [if_pos c]; simp [c]
  · rw [if_neg c]; simp [c]
theorem augS_o {a b : DE} {δ : DEnv} {S : Store} {o : Nat} {l : List D} {k : Nat} {v n : Int} (ha : a δ S = .ok (.obj o) S) (hb : b δ S = .ok (.dat (nv k)) S) (ho : S[o]? = some (.lst l)) (hk : l[k]? = some (.dat (.int v))) : mAugS a b (mC (.int n)) δ S = .ok (.nx δ) (S.set o (.lst (l.set k (.dat (.int (v + n)))))) := by
  have g0 : getD S (.obj o) (.dat (nv k)) = some (.dat (.int v)) := by
    show (match listD S (.obj o) with | some l => l[k]? | none => none) = _
    have : listD S (.obj o) = some l := by show (match S[o]? with | some (.lst l) => some l | _ => none) = _; rw [ho]
    rw [this]; exact hk
  have s0 := setD_o (x := .dat (.int (v + n))) ho (ixN_nat (lt_at hk))
  unfold mAugS mC
  rw [ha, M3.R.st_ok, hb, M3.R.st_ok]
  simp only [g0, M3.R.st_ok]
  rw [show setD (.obj o) (.dat (nv k)) (.dat (.int (v + n))) S = some (S.set o (.lst (l.set k (.dat (.int (v + n)))))) from s0]
def natsO (fs : List Nat) : O := .lst ((fs.map nv).map .dat)
section
variable {g : G} (X : Gx g) {S : Store} {b o : Nat} {s : Shp} (T : St g S b o s) (R : RS s)
include X T R
theorem weights_of_t : ∃ fs : List Nat, fs.length = s.length ∧ (∀ k, k < s.length → fs[k]? = some (wt s k)) ∧ mScope (m_weights_of g) [.obj o] S = .ok (.dat (.tup (fs.map nv))) S := by
  have n64 := R.n64
  suffices z : ∃ d S', m_weights_of g [.obj o] S = .ok d S' ∧ ∃ fs : List Nat, fs.length = s.length ∧ (∀ k, k < s.length → fs[k]? = some (wt s k)) ∧ d = .dat (.tup (fs.map nv)) ∧ ∃ t, S' = S ++ t by
    obtain ⟨d, S', e, fs, h1, h2, rfl, t, rfl⟩ := z
    exact ⟨fs, h1, h2, scope_u e rfl T.cl⟩
  have em : (s.length : Int) ≤ 1000000 ∧ (0 : Int) ≤ (s.length : Int) ∧ 1 * s.length ≤ 100000 := by omega
  have el : ∀ S : Store, listD S (.dat (.lst [.int 0])) = some [.dat (.int 0)] := fun _ => rfl
  have o1 : (1 : Nat) ≤ 100000 := by decide
  have ro : O.lst (repD s.length [.dat (.int 0)]) = natsO (List.replicate s.length 0) := by
    unfold repD natsO
    rw [List.map_replicate, List.map_replicate]
    congr 1
    generalize s.length = n
    induction n with
    | zero => rfl
    | succ n ih => rw [List.replicate_succ, List.flatten_cons, ih]; rfl
  have T' : ∀ fs : List Nat, St g (S ++ [natsO fs]) b o s := fun fs => push1 T _
  unfold m_weights_of
  rw [mBody_fin]
  refine fin_ends ?_
  unfold mMulL
  dsimp! [o1, el, T.len, if_pos em, Int.toNat_natCast, ro]
  rw [for_items (rng0_ok (n := s.length) (by dsimp! [(T' _).len] <;> rfl) (by omega))]
  refine then_ends (Q1 := fun o' S' => ∃ x2 x3 fs, o' = .nx [some (.obj o), some (.obj S.length), x2, x3] ∧ S' = S ++ [natsO fs] ∧ fs.length = s.length ∧ ∀ k, k < s.length → fs[k]? = some (wt s k)) ?_ ?_
  · refine forL_ends (fun i δ S' => ∃ (x2 x3 : Option D) (fs : List Nat), δ = [some (.obj o), some (.obj S.length), x2, x3] ∧ S' = S ++ [natsO fs] ∧ fs.length = s.length ∧ ∀ k, k < s.length → fs[k]? = some (cnt s i k)) (i := 0) ⟨_, _, List.replicate s.length 0, rfl, rfl, by simp, fun k hk => by rw [List.getElem?_replicate, if_pos hk]; rfl⟩ ?_ ?_
    · rintro i d δ S' hd ⟨x2, x3, fs, rfl, rfl, lf, hf⟩
      rw [Nat.zero_add] at hf
      rw [Nat.zero_add]
      rw [List.getElem?_map] at hd
      by_cases ci : i < s.length
      · rw [List.getElem?_range ci] at hd
        cases hd
        have ch := R.chain ci
        have nd := ch.1.nodup
        dsimp! []
        rw [for_items (walk_l (l := (W2.up (ups s) i).map nv) (by dsimp! [line_up_t X (T' fs) R ci] <;> rfl))]
        refine forL_ends (fun j δ S' => ∃ (x3 : Option D) (fs : List Nat), δ = [some (.obj o), some (.obj S.length), some (.dat (nv i)), x3] ∧ S' = S ++ [natsO fs] ∧ fs.length = s.length ∧ ∀ k, k < s.length → fs[k]? = some (cnt s i k + if k ∈ (W2.up (ups s) i).take j then 1 else 0)) (i := 0) ⟨_, fs, rfl, rfl, lf, fun k hk => by rw [hf k hk]; simp⟩ ?_ ?_
        · rintro j d δ S' hd ⟨x3, fs, rfl, rfl, lf, hf⟩
          rw [Nat.zero_add] at hf
          rw [Nat.zero_add]
          rw [List.getElem?_map, List.getElem?_map] at hd
          cases ea : (W2.up (ups s) i)[j]? with
          | none => rw [ea] at hd; cases hd
          | some a =>
            rw [ea] at hd
            cases hd
            have ha : a < s.length := by
              have := ch.1.lt a (List.mem_of_getElem? ea)
              rwa [ups_len] at this
            have hfa := hf a ha
            have na : a ∉ (W2.up (ups s) i).take j := fun m => by
              obtain ⟨j', hj'⟩ := List.getElem?_of_mem m
              have lj := lt_at hj'
              rw [List.length_take] at lj
              rw [List.getElem?_take, if_pos (by omega)] at hj'
              have := nd_inj nd hj' ea
              omega
            rw [if_neg na] at hfa
            have hk : ((fs.map nv).map D.dat)[a]? = some (.dat (.int ((cnt s i a + 0 : Nat) : Int))) := by rw [List.getElem?_map, List.getElem?_map, hfa]; rfl
            have es := augS_o (a := mVar 1) (b := mVar 3) (δ := [some (.obj o), some (.obj S.length), some (.dat (nv i)), some (.dat (nv a))]) (S := S ++ [natsO fs]) (n := 1) rfl rfl get_new hk
            dsimp! [es]
            refine .of (tm ⟨_, fs.set a (cnt s i a + 1), rfl, ?_, by rw [List.length_set]; exact lf, fun k hk => ?_⟩)
            · rw [List.set_append_right _ _ (Nat.le_refl _), Nat.sub_self]
              unfold natsO
              rw [List.map_set, List.map_set]
              rfl
            · have tk : (W2.up (ups s) i).take (j + 1) = (W2.up (ups s) i).take j ++ [a] := by rw [List.take_add_one, ea]; rfl
              by_cases c : a = k
              · subst c
                rw [List.getElem?_set_self (by omega), tk, if_pos (by simp)]
              · rw [List.getElem?_set_ne c, hf k hk, tk]
                have : k ∈ (W2.up (ups s) i).take j ++ [a] ↔ k ∈ (W2.up (ups s) i).take j := by
                  rw [List.mem_append, List.mem_singleton]
                  exact ⟨fun q => q.resolve_right fun z => c z.symm, .inl⟩
                simp only [this]
        · rintro δ S' ⟨x3, fs, rfl, rfl, lf, hf⟩
          refine tm ⟨_, _, fs, rfl, rfl, lf, fun k hk => ?_⟩
          rw [hf k hk, cnt_succ]
          simp
      · rw [List.getElem?_eq_none (by simpa using ci)] at hd; cases hd
    · rintro δ S' ⟨x2, x3, fs, rfl, rfl, lf, hf⟩
      refine ⟨_, _, fs, rfl, rfl, lf, fun k hk => ?_⟩
      rw [hf k hk]
      simp [wt]
  · rintro o' S' ⟨x2, x3, fs, rfl, rfl, lf, hf⟩
    dsimp! [tuple_o (l := fs.map nv) (show (S ++ [natsO fs])[S.length]? = some (.lst ((fs.map nv).map .dat)) from get_new)]
    exact .of ⟨_, rfl, fs, lf, hf, rfl, _, rfl⟩
end
theorem wt_pos {s : Shp} (R : RS s) {k : Nat} (hk : k < s.length) : 1 ≤ wt s k ∧ wt s k ≤ s.length := by
  unfold wt cnt
  constructor
  · refine List.length_pos_of_mem (a := k) (List.mem_filter.mpr ⟨List.mem_range.mpr hk, decide_eq_true ?_⟩)
    obtain ⟨r, e⟩ := R.up_head hk
    rw [e]; simp
  · have := List.length_filter_le (fun h => decide (k ∈ W2.up (ups s) h)) (List.range s.length)
    rwa [List.length_range] at this
end W3
namespace W3
open PySem PySem.Spec PyProof.Rows L2 M3
section
variable {g : G} (X : Gx g) {S : Store} {b o : Nat} {s : Shp} (T : St g S b o s) (R : RS s)
include X T R
theorem told_worth_t {h t : Nat} {c : Int} {x : Hs} (hx : s[h]? = some x) (ht : t < s.length) (nt : ¬ Son s t) (cx : Cx s t h c) : mScope (m_told_worth g) [.obj o, .dat (nv h)] S = .ok (.dat (.int (x.value + c))) S := by
  have n64 := R.n64
  suffices z : ∃ d S', m_told_worth g [.obj o, .dat (nv h)] S = .ok d S' ∧ d = .dat (.int (x.value + c)) ∧ S' = S by
    obtain ⟨d, S', e, rfl, rfl⟩ := z
    exact scope_u (t := []) (by rw [List.append_nil]; exact e) rfl T.cl
  unfold m_told_worth
  rw [mBody_fin]
  refine fin_ends ?_
  have f0 := fR_value X (T.at_ h x hx)
  have ih := T.ix (lt_at hx)
  have chg : ∀ i j : Int, mAug 2 aAddI = mAug 2 aAddI := fun _ _ => rfl
  unfold mFld
  dsimp! [ih, f0]
  refine then_ends (Q1 := fun o' S' => ∃ a : Nat, o' = .nx [some (.obj o), some (.dat (nv a)), some (.dat (.int (x.value + c)))] ∧ S' = S) ?_ (fun o S' ⟨a, e, z⟩ => by subst e; dsimp! []; exact .of ⟨_, rfl, rfl, z⟩)
  refine while_ends (m := (W2.up (ups s) h).length) (fun m δ S' => ∃ (a : Nat) (c' : Int), δ = [some (.obj o), some (.dat (nv a)), some (.dat (.int (x.value + c - c')))] ∧ S' = S ∧ a < s.length ∧ Cx s t a c' ∧ m = (W2.up (ups s) a).length) (by have := (R.chain (lt_at hx)).2.1; omega) ⟨h, c, by simp, rfl, lt_at hx, cx, rfl⟩ ?_
  rintro m δ S' ⟨a, c', rfl, rfl, ha, cx', rfl⟩
  have it := is_top_t X T R ha
  refine ⟨sonB s a, S', by dsimp! [it, Bool.not_not], fun q => ?_, fun q => ?_⟩
  · have so := R.sonB.mp q
    cases cx' with
    | here => exact absurd so nt
    | @step _ u y w e hy cx2 =>
      have sof : SonOf s u a := ⟨y, e, hy⟩
      obtain ⟨z, ez, eu⟩ := R.son u a sof
      have f1 := fR_up X (T.at_ a z ez)
      rw [eu] at f1
      have f1' : fldD g.FL "up" S' (.obj (b + a)) = some (.dat (nv u)) := f1
      have f2 := fR_added X (T.at_ u y e)
      have ad : ∀ i j : Int, aAddI S' (.dat (.int i)) (.dat (.int j)) = some (.dat (.int (i + j))) := fun _ _ => rfl
      unfold mAug
      dsimp! [T.ix ha, f1', T.ix (lt_at e), f2, ad]
      refine Ends.of (tm ⟨_, ?_, u, w, ?_, rfl, lt_at e, cx2, rfl⟩)
      · rw [R.upc sof, List.length_cons]; omega
      · rw [show x.value + c - (w + y.added) + y.added = x.value + c - w by omega]
  · have ns : ¬ Son s a := fun z => by rw [R.sonB.mpr z] at q; cases q
    have : c' = 0 := by
      cases cx' with
      | here => rfl
      | step e hy _ => exact absurd ⟨_, _, e, hy⟩ ns
    subst this
    exact ⟨a, by simp, rfl⟩
end
end W3
namespace W3
open PySem PySem.Spec PyProof.Rows L2 M3
def hsL (l : List (Nat × Int)) : List P := (l.map Prod.fst).map nv
theorem hsL_len {l : List (Nat × Int)} : (hsL l).length = l.length := by unfold hsL; rw [List.length_map, List.length_map]
section
variable {g : G} (X : Gx g) {S : Store} {b o : Nat} {s : Shp} (T : St g S b o s) (R : RS s)
include X T R
theorem Pt.len {d : Nat} {oh : Option Nat} {k : Bool} {acc : Int} {l : List (Nat × Int)} (p : Pt s d oh k acc l) (ho : ∀ x, oh = some x → x < s.length) : l.length ≤ 64 := by
  have nd := R.nodup p ho
  have := W2.nodup_len (n := s.length) nd fun y m => by
    obtain ⟨z, mz, rfl⟩ := List.mem_map.mp m
    cases oh with
    | none => cases p; cases mz
    | some x =>
      obtain ⟨_, y, _, ey, _⟩ := p.climb rfl z mz
      exact lt_at ey
  rw [List.length_map] at this
  have := R.n64
  omega
theorem part_t {d : Nat} {oh : Option Nat} {k : Bool} {acc : Int} {l : List (Nat × Int)} (p : Pt s d oh k acc l) : mScope (m_part_in_order g d) [.obj o, .dat (ov oh), .dat (.bl k)] S = .ok (.dat (.lst (hsL l))) S := by
  induction p with
  | nil =>
    refine scope_u (t := []) ?_ rfl T.cl
    unfold m_part_in_order
    dsimp! [ov, List.append_nil, Nat.zero_le]
    rfl
  | @node d h x k acc l r e pl pr ih1 ih2 =>
    have hh := lt_at e
    have lt : ∀ {c : Nat}, (x.left = some c ∨ x.right = some c) → c < s.length := fun {c} q => by
      obtain ⟨y, ey, _⟩ := R.son h c ⟨x, e, q⟩
      exact lt_at ey
    have l1 := Pt.len X T R pl fun c q => lt (.inl q)
    have l2 := Pt.len X T R pr fun c q => lt (.inr q)
    have nn : aIsN S (.dat (ov (some h))) (.dat .non) = some (.dat (.bl false)) := rfl
    have ix : aIx S (.obj o) (.dat (ov (some h))) = some (.obj (b + h)) := T.ix hh
    have e0 := T.at_ h x e
    have nx : (!decide (k = x.turned)) = xor k x.turned := by cases k <;> cases x.turned <;> rfl
    have o1 : (1 : Nat) ≤ 100000 := by decide
    refine scope_u (t := []) ?_ rfl T.cl
    rw [List.append_nil]
    unfold m_part_in_order mFld
    dsimp! [nn, ix, fR_turned X e0, nx]
    dsimp! [fR_left X e0, ih1, fR_right X e0, ih2]
    cases c : xor k x.turned with
    | true =>
      dsimp! [o1]
      rw [add_ll (by rw [hsL_len]; simp; omega)]
      dsimp! []
      rw [add_ll (by rw [List.length_append, hsL_len, hsL_len]; simp; omega)]
      dsimp! []
      unfold hsL
      simp [ov, nv]
    | false =>
      dsimp! [o1]
      rw [add_ll (by rw [hsL_len]; simp; omega)]
      dsimp! []
      rw [add_ll (by rw [List.length_append, hsL_len, hsL_len]; simp; omega)]
      dsimp! []
      unfold hsL
      simp [ov, nv]
theorem row_t {t : Nat} {l : List (Nat × Int)} (r : Row s t l) : mScope (m_row_in_order g) [.obj o, .dat (nv t)] S = .ok (.dat (.tup (hsL l))) S := by
  refine scope_u (t := []) ?_ rfl T.cl
  rw [List.append_nil]
  have e := part_t X T R (r.2.2.mono (d' := 70) (by omega))
  have e' : mScope (m_part_in_order g 70) [.obj o, .dat (nv t), .dat (.bl false)] S = .ok (.dat (.lst (hsL l))) S := e
  unfold m_row_in_order
  dsimp! [e']
theorem worths_t {ps : List (Option Nat)} {ws : List Int} (W : Told s ps ws) : mScope (m_told_worths g) [.obj o] S = .ok (.dat (.tup (ws.map .int))) S := by
  have n64 := R.n64
  refine scope_u (t := []) ?_ rfl T.cl
  rw [List.append_nil]
  unfold m_told_worths
  dsimp! []
  rw [lc_all (xs := List.range s.length) (fun k => .dat (nv k)) (fun k => .int (ws.getD k 0)) (rng0_ok (n := s.length) (by dsimp! [T.len] <;> rfl) (by omega)) (by rw [List.length_range]; omega) fun k hk => ⟨_, rfl, rfl, ?_⟩]
  · dsimp! []
    congr 3
    refine List.ext_getElem? fun k => ?_
    rw [List.getElem?_map, List.getElem?_map]
    by_cases c : k < s.length
    · have hw : k < ws.length := by rw [W.lw]; exact c
      rw [List.getElem?_range c, List.getElem?_eq_getElem hw]
      show some (P.int (ws.getD k 0)) = some (P.int ws[k])
      rw [List.getD_eq_getElem?_getD, List.getElem?_eq_getElem hw]; rfl
    · rw [List.getElem?_eq_none (by simpa using c), List.getElem?_eq_none (by rw [W.lw]; omega)]; rfl
  · have hk := List.mem_range.mp hk
    obtain ⟨t, l, w, r, m⟩ := R.in_row hk
    obtain ⟨c, y, cx, ey, ew⟩ := r.2.2.climb rfl _ m
    have ew : w = y.value + 0 + c := ew
    have e := told_worth_t X T R ey r.1 r.2.1 cx
    have eg : ws.getD k 0 = y.value + c := by
      rw [List.getD_eq_getElem?_getD, W.wor t l r k w m, ew]; simp
    dsimp! [e, eg]
theorem fill_t {ps : List (Option Nat)} {ws : List Int} (W : Told s ps ws) : ∃ S', mScope (m_forest_of g) [.obj o] S = .ok (.dat (forP g ps ws)) S' ∧ S' = S := by
  have n64 := R.n64
  suffices z : ∃ d S', m_forest_of g [.obj o] S = .ok d S' ∧ d = .dat (forP g ps ws) ∧ ∃ t, S' = S ++ t by
    obtain ⟨d, S', e, rfl, t, rfl⟩ := z
    exact ⟨S, scope_u e rfl T.cl, rfl⟩
  have em : (s.length : Int) ≤ 1000000 ∧ (0 : Int) ≤ (s.length : Int) ∧ 1 * s.length ≤ 100000 := by omega
  have el : ∀ S : Store, listD S (.dat (.lst [.non])) = some [.dat .non] := fun _ => rfl
  have o1 : (1 : Nat) ≤ 100000 := by decide
  have ro : repD s.length [.dat .non] = ((List.replicate s.length none).map ov).map .dat := by
    unfold repD
    rw [List.map_replicate, List.map_replicate]
    generalize s.length = n
    induction n with
    | zero => rfl
    | succ n ih => rw [List.replicate_succ, List.flatten_cons, ih]; rfl
  unfold m_forest_of
  rw [mBody_fin]
  refine fin_ends ?_
  unfold mMulL mFld
  dsimp! [o1, el, T.len, if_pos em, Int.toNat_natCast, ro]
  have T' : ∀ fs : List (Option Nat), St g (S ++ [.lst ((fs.map ov).map .dat)]) b o s := fun fs => push1 T _
  rw [for_items (rng0_ok (n := s.length) (by dsimp! [(T' _).len] <;> rfl) (by omega))]
  refine then_ends (Q1 := fun o' S' => ∃ x2 x3 x4, o' = .nx [some (.obj o), some (.obj S.length), x2, x3, x4] ∧ S' = S ++ [.lst ((ps.map ov).map .dat)]) ?_ ?_
  · refine forL_ends (fun i δ S' => ∃ (x2 x3 x4 : Option D) (fs : List (Option Nat)), δ = [some (.obj o), some (.obj S.length), x2, x3, x4] ∧ S' = S ++ [.lst ((fs.map ov).map .dat)] ∧ fs.length = s.length ∧ ∀ (t : Nat) (l : List (Nat × Int)), t < i → Row s t l → ∀ z ∈ l, fs[z.1]? = ps[z.1]?) (i := 0) ⟨_, _, _, List.replicate s.length none, rfl, rfl, by simp, fun t l q => (nomatch q)⟩ ?_ ?_
    · rintro i d δ S' hd ⟨x2, x3, x4, fs, rfl, rfl, lf, hf⟩
      rw [Nat.zero_add] at hf
      rw [List.getElem?_map] at hd
      by_cases ci : i < s.length
      · rw [List.getElem?_range ci] at hd
        cases hd
        cases ct : sonB s i with
        | true =>
          dsimp! [is_top_t X (T' fs) R ci, ct]
          refine .of (tm ⟨_, _, _, fs, rfl, rfl, lf, fun t l q r => ?_⟩)
          by_cases c : t < i
          · exact hf t l c r
          · have : t = i := by omega
            subst this
            exact absurd (R.sonB.mp ct) r.2.1
        | false =>
          have nt : ¬ Son s i := fun z => by rw [R.sonB.mpr z] at ct; cases ct
          obtain ⟨l, r⟩ := R.row_ex ci nt
          obtain ⟨x, ex⟩ := at_of ci
          have lt : ∀ z ∈ l, z.1 < s.length := fun z m => by
            obtain ⟨_, y, _, ey, _⟩ := r.2.2.climb rfl z m
            exact lt_at ey
          dsimp! [is_top_t X (T' fs) R ci, ct, (T' fs).ix ci, fR_up X ((T' fs).at_ i x ex)]
          rw [for_items (walk_t (l := hsL l) (by dsimp! [row_t X (T' fs) R r] <;> rfl))]
          refine forL_ends (fun j δ S' => ∃ (x4 : Option D) (fs' : List (Option Nat)), δ = [some (.obj o), some (.obj S.length), some (.dat (nv i)), some (.dat (ov (if j = 0 then x.up else (l[j - 1]?).map Prod.fst))), x4] ∧ S' = S ++ [.lst ((fs'.map ov).map .dat)] ∧ fs'.length = s.length ∧ (∀ (t : Nat) (l : List (Nat × Int)), t < i → Row s t l → ∀ z ∈ l, fs'[z.1]? = ps[z.1]?) ∧ ∀ (m : Nat) (z : Nat × Int), m < j → l[m]? = some z → fs'[z.1]? = ps[z.1]?) (i := 0) ⟨_, fs, rfl, rfl, lf, hf, fun m z q => (nomatch q)⟩ ?_ ?_
          · rintro j d δ S' hd ⟨x4, fs', rfl, rfl, lf', hf', hm⟩
            rw [Nat.zero_add] at hm
            rw [Nat.zero_add]
            unfold hsL at hd
            rw [List.getElem?_map, List.getElem?_map, List.getElem?_map] at hd
            cases ez : l[j]? with
            | none => rw [ez] at hd; cases hd
            | some z =>
              rw [ez] at hd
              cases hd
              have hz := lt z (List.mem_of_getElem? ez)
              have ep := W.par i l x r ex j z.1 z.2 ez
              have es : setD (.obj S.length) (.dat (nv z.1)) (.dat (ov (if j = 0 then x.up else (l[j - 1]?).map Prod.fst))) (S ++ [O.lst ((fs'.map ov).map .dat)]) = some (S ++ [O.lst (((fs'.set z.1 (if j = 0 then x.up else (l[j - 1]?).map Prod.fst)).map ov).map .dat)]) := by
                show setD (.obj S.length) (.dat (.int (z.1 : Int))) _ _ = _
                rw [setD_o get_new (ixN_nat (by rw [List.length_map, List.length_map]; omega))]
                rw [List.set_append_right _ _ (Nat.le_refl _), Nat.sub_self, List.map_set, List.map_set]; rfl
              dsimp! [es]
              have keep : ∀ y : Nat, fs'[y]? = ps[y]? → (fs'.set z.1 (if j = 0 then x.up else (l[j - 1]?).map Prod.fst))[y]? = ps[y]? := fun y q => by
                by_cases c : z.1 = y
                · subst c; rw [List.getElem?_set_self (by omega), ep]
                · rw [List.getElem?_set_ne c]; exact q
              refine .of (tm ⟨some (.dat (nv z.1)), _, ?_, rfl, by rw [List.length_set]; exact lf', fun t l q r z m => keep _ (hf' t l q r z m), fun m y q e => ?_⟩)
              · rw [Nat.add_sub_cancel, ez]; rfl
              · by_cases c : m < j
                · exact keep _ (hm m y c e)
                · have : m = j := by omega
                  subst this
                  rw [ez] at e
                  cases e
                  rw [List.getElem?_set_self (by omega), ep]
          · rintro δ S' ⟨x4, fs', rfl, rfl, lf', hf', hm⟩
            refine tm ⟨_, _, _, fs', rfl, rfl, lf', fun t l' q r' z m => ?_⟩
            by_cases c : t < i
            · exact hf' t l' c r' z m
            · have : t = i := by omega
              subst this
              have := r.2.2.det r'.2.2
              subst this
              obtain ⟨k, hk⟩ := List.getElem?_of_mem m
              exact hm k z (by have := lt_at hk; rw [List.length_map, hsL_len]; omega) hk
      · rw [List.getElem?_eq_none (by simpa using ci)] at hd; cases hd
    · rintro δ S' ⟨x2, x3, x4, fs, rfl, rfl, lf, hf⟩
      refine ⟨_, _, _, rfl, ?_⟩
      have : fs = ps := List.ext_getElem? fun h => by
        by_cases hh : h < s.length
        · obtain ⟨t, l, w, r, m⟩ := R.in_row hh
          exact hf t l (by simp; exact r.1) r _ m
        · rw [List.getElem?_eq_none (by omega), List.getElem?_eq_none (by rw [W.lp]; omega)]
      rw [this]
  · rintro o' S' ⟨x2, x3, x4, rfl, rfl⟩
    have tr := R.told_tree W
    dsimp! [tuple_o get_new, worths_t X (T' ps) R W, made_t g X tr (by rw [W.lp]; exact R.n1) (by rw [W.lp]; exact R.n64) (by rw [W.lw, W.lp])]
    exact .of ⟨_, rfl, rfl, _, rfl⟩
end
end W3
namespace W3
open PySem PySem.Spec PyProof.Rows L2 M3
theorem weights_t {g : G} (X : Gx g) {s : Shp} (R : RS s) (S : Store) : ∃ fs : List Nat, fs.length = s.length ∧ (∀ k, k < s.length → fs[k]? = some (wt s k)) ∧ mPure (m_weights g) [.dat (shP s)] S = .ok (.dat (.tup (fs.map nv))) S := by
  obtain ⟨S', e, T, _⟩ := stands0 X R
  obtain ⟨fs, h1, h2, e2⟩ := weights_of_t X T R
  refine ⟨fs, h1, h2, pure_dat rfl (S' := S') ?_⟩
  unfold m_weights
  dsimp! [e, e2]
theorem told_t {g : G} (X : Gx g) {s : Shp} (R : RS s) {ps : List (Option Nat)} {ws : List Int} (W : Told s ps ws) (S : Store) : mPure (m_told_forest g) [.dat (shP s)] S = .ok (.dat (forP g ps ws)) S := by
  obtain ⟨S', e, T, _⟩ := stands0 X R
  obtain ⟨S'', e2, q⟩ := fill_t X T R W
  subst q
  refine pure_dat rfl (S' := S'') ?_
  unfold m_told_forest
  dsimp! [e, e2]
end W3
namespace W3
open PySem PySem.Spec PyProof.Rows L2 M3
noncomputable def rwO (s : Shp) (t : Nat) : List P := open Classical in if h : ∃ l, Row s t l then hsL h.choose else []
theorem rwO_of {s : Shp} {t : Nat} {l : List (Nat × Int)} (r : Row s t l) : rwO s t = hsL l := by
  have e : ∃ l, Row s t l := ⟨l, r⟩
  unfold rwO
  rw [dif_pos e]
  have := e.choose_spec.2.2.det r.2.2
  rw [this]
def tps (s : Shp) : List Nat := (List.range s.length).filter fun k => !sonB s k
theorem fm_filter {α : Type} (f : Nat → α) (p : Nat → Bool) (l : List Nat) : l.filterMap (fun k => if p k = true then some (f k) else none) = (l.filter p).map f := by
  induction l with
  | nil => rfl
  | cons a l ih =>
    rw [List.filterMap_cons, List.filter_cons, ih]
    cases p a <;> rfl
end W3
namespace W3
open PySem PySem.Spec PyProof.Rows L2 M3
theorem bits_nat {n : Nat} (h : 1 ≤ n) (S : Store) : aBits S (.dat (.int (n : Int))) = some (.dat (.int ((Nat.log2 n + 1 : Nat) : Int))) := by
  show some (D.dat (.int ((Builtin.Int.intBits (n : Int) : Nat) : Int))) = _
  have : Builtin.Int.intBits (n : Int) = Nat.log2 n + 1 := by
    unfold Builtin.Int.intBits
    rw [if_neg (by simp; omega), Int.natAbs_natCast]
  rw [this]
theorem rank_t (g : G) {n : Nat} (h : 1 ≤ n) (S : Store) : mPure (m_rank g) [.dat (.int (n : Int))] S = .ok (.dat (.int ((Nat.log2 n : Nat) : Int))) S := by
  refine pure_dat rfl (S' := []) ?_
  have d1 : decide ((n : Int) < 1) = false := decide_eq_false (by omega)
  have e1 : ((Nat.log2 n + 1 : Nat) : Int) - 1 = ((Nat.log2 n : Nat) : Int) := by omega
  unfold m_rank
  dsimp! [is_integer_i, d1, bits_nat h, e1]
end W3
namespace W3
open PySem PySem.Spec PyProof.Rows L2 M3
section
variable {g : G} (X : Gx g) {s : Shp} (R : RS s)
include X R
theorem rows_t (S : Store) : mPure (m_rows g) [.dat (shP s)] S = .ok (.dat (.tup ((tps s).map fun t => .tup (rwO s t)))) S := by
  have n64 := R.n64
  obtain ⟨S', e, T, _⟩ := stands0 X R
  refine pure_dat rfl (S' := S') ?_
  have lc : mLc (mRng1 (mCons (mCall aLen (mCons (mVar 1) mNil)) mNil)) (gmName 2) (mTst (mDef 2 (mScope (m_is_top g)) (mCons (mVar 1) (mCons (mVar 2) mNil)))) (mDef 2 (mScope (m_row_in_order g)) (mCons (mVar 1) (mCons (mVar 2) mNil))) [2] [some (.dat (shP s)), some (.obj s.length), none] S' = .ok (((tps s).map fun t => P.tup (rwO s t)).map .dat) S' := by
    rw [lc_map (xs := List.range s.length) (fun k => .dat (nv k)) (fun k => if (!sonB s k) = true then some (.tup (rwO s k)) else none) (rng0_ok (n := s.length) (by dsimp! [T.len] <;> rfl) (by omega)) (by rw [List.length_range]; omega) fun k m => ⟨_, rfl, by
      have hk := List.mem_range.mp m
      cases c : sonB s k with
      | true =>
        show mTst _ _ _ = _
        dsimp! [is_top_t X T R hk, c]
      | false =>
        have nt : ¬ Son s k := fun z => by rw [R.sonB.mpr z] at c; cases c
        obtain ⟨l, r⟩ := R.row_ex hk nt
        exact ⟨by dsimp! [is_top_t X T R hk, c], by dsimp! [row_t X T R r, rwO_of r]⟩⟩]
    rw [fm_filter]; rfl
  unfold m_rows
  dsimp! [e, lc]
theorem potential_t {fs : List Nat} (lf : fs.length = s.length) (hf : ∀ k, k < s.length → fs[k]? = some (wt s k)) (S : Store) : mPure (m_potential g) [.dat (shP s)] S = .ok (.dat (.int ((fs.map fun (w : Nat) => ((Nat.log2 w : Nat) : Int)).sum))) S := by
  have n64 := R.n64
  obtain ⟨S', e, T, _⟩ := stands0 X R
  obtain ⟨fs', h1, h2, ew⟩ := weights_of_t X T R
  have : fs' = fs := List.ext_getElem? fun k => by
    by_cases c : k < s.length
    · rw [h2 k c, hf k c]
    · rw [List.getElem?_eq_none (by omega), List.getElem?_eq_none (by omega)]
  subst this
  have lc : mLc (mWalk (mDef 1 (mScope (m_weights_of g)) (mCons (mVar 0) mNil))) (gmName 1) mYes (mDef 1 (mPure (m_rank g)) (mCons (mVar 1) mNil)) [1] [some (.obj s.length), none] S' = .ok (((fs'.map fun (w : Nat) => ((Nat.log2 w : Nat) : Int)).map P.int).map .dat) S' := by
    rw [lc_all (xs := fs') (fun w => .dat (nv w)) (fun w => .int ((Nat.log2 w : Nat) : Int)) (by rw [walk_t (l := fs'.map nv) (S1 := S') (by dsimp! [ew] <;> rfl), List.map_map]; rfl) (by omega) fun w m => ⟨_, rfl, rfl, by
      obtain ⟨k, hk⟩ := List.getElem?_of_mem m
      have hl := lt_at hk
      rw [hf k (by omega)] at hk
      have wp := (wt_pos R (k := k) (by omega)).1
      rw [Option.some.inj hk] at wp
      have er := rank_t g wp S'
      have er' : mPure (m_rank g) [.dat (nv w)] S' = .ok (.dat (.int ((Nat.log2 w : Nat) : Int))) S' := er
      dsimp! [er']⟩]
    simp only [List.map_map]
    rfl
  have e3 : mScope (m_potential_of g) [.obj s.length] S' = .ok (.dat (.int ((fs'.map fun (w : Nat) => ((Nat.log2 w : Nat) : Int)).sum))) S' := by
    refine scope_u (t := []) ?_ rfl T.cl
    rw [List.append_nil]
    have sl : ∀ (S : Store) (l : List Int), aSum S [.dat (.lst (l.map .int))] = some (.dat (.int l.sum)) := fun S l => by
      show ((listP S (.dat (.lst (l.map .int)))).bind intsP).map (fun l => dInt l.sum) = _
      rw [listP_l]
      show (intsP (l.map .int)).map (fun l => dInt l.sum) = _
      rw [intsP_map]; rfl
    unfold m_potential_of
    dsimp! [lc, sl]
  refine pure_dat rfl (S' := S') ?_
  unfold m_potential
  dsimp! [e, e3]
end
end W3
namespace W3
def flp (x y : Hs) : Hs := { y with turned := xor y.turned x.turned, added := y.added + x.added, value := y.value + x.added }
def hnd (x : Hs) : Hs := { x with left := if x.turned = true then x.right else x.left, right := if x.turned = true then x.left else x.right, turned := false, added := 0 }
def handOn (s : Shp) (h : Nat) : Shp := match s[h]? with
  | none => s
  | some x => s.mapIdx fun k y => if k = h then hnd x else if x.left = some k ∨ x.right = some k then flp x y else y
section
variable {s : Shp} {h : Nat} {x : Hs} (e : s[h]? = some x)
include e
theorem handOn_eq : handOn s h = s.mapIdx fun k y => if k = h then hnd x else if x.left = some k ∨ x.right = some k then flp x y else y := by
  unfold handOn; rw [e]
theorem handOn_len : (handOn s h).length = s.length := by rw [handOn_eq e, List.length_mapIdx]
theorem handOn_at (k : Nat) : (handOn s h)[k]? = (s[k]?).map fun y => if k = h then hnd x else if x.left = some k ∨ x.right = some k then flp x y else y := by
  rw [handOn_eq e, List.getElem?_mapIdx]
theorem handOn_h : (handOn s h)[h]? = some (hnd x) := by rw [handOn_at e, e]; simp
theorem handOn_son {k : Nat} {y : Hs} (ey : s[k]? = some y) (n : k ≠ h) (so : x.left = some k ∨ x.right = some k) : (handOn s h)[k]? = some (flp x y) := by
  rw [handOn_at e, ey]; simp [n, so]
theorem handOn_no {k : Nat} (n : k ≠ h) (so : ¬ (x.left = some k ∨ x.right = some k)) : (handOn s h)[k]? = s[k]? := by
  rw [handOn_at e]
  cases s[k]? with
  | none => rfl
  | some y => simp [n, so]
theorem handOn_ups : ups (handOn s h) = ups s := by
  refine List.ext_getElem? fun k => ?_
  unfold ups
  rw [List.getElem?_map, List.getElem?_map, handOn_at e]
  cases q : s[k]? with
  | none => rfl
  | some y =>
    simp only [Option.map_some]
    by_cases c : k = h
    · subst c
      rw [e] at q
      cases q
      rw [if_pos rfl]; rfl
    · rw [if_neg c]; split <;> rfl
theorem handOn_sonOf {u c : Nat} : SonOf (handOn s h) u c ↔ SonOf s u c := by
  have key : ∀ y : Hs, s[u]? = some y → ∃ z, (handOn s h)[u]? = some z ∧ ((z.left = some c ∨ z.right = some c) ↔ (y.left = some c ∨ y.right = some c)) := fun y ey => by
    by_cases q : u = h
    · subst q
      rw [e] at ey
      cases ey
      refine ⟨_, handOn_h e, ?_⟩
      unfold hnd
      cases x.turned <;> simp [or_comm]
    · by_cases so : x.left = some u ∨ x.right = some u
      · exact ⟨_, handOn_son e ey q so, Iff.rfl⟩
      · exact ⟨y, by rw [handOn_no e q so, ey], Iff.rfl⟩
  constructor
  · rintro ⟨z, ez, hz⟩
    have hu : u < s.length := by have := lt_at ez; rwa [handOn_len e] at this
    obtain ⟨y, ey⟩ := at_of hu
    obtain ⟨z', ez', iff⟩ := key y ey
    rw [ez] at ez'
    cases ez'
    exact ⟨y, ey, iff.mp hz⟩
  · rintro ⟨y, ey, hy⟩
    obtain ⟨z, ez, iff⟩ := key y ey
    exact ⟨z, ez, iff.mpr hy⟩
theorem handOn_rs (R : RS s) : RS (handOn s h) where
  n1 := by rw [handOn_len e]; exact R.n1
  n64 := by rw [handOn_len e]; exact R.n64
  son := fun u c so => by
    obtain ⟨y, ey, hy⟩ := R.son u c ((handOn_sonOf e).mp so)
    have : (ups (handOn s h))[c]? = some y.up := by rw [handOn_ups e, ups_at ey]
    unfold ups at this
    rw [List.getElem?_map] at this
    cases q : (handOn s h)[c]? with
    | none => rw [q] at this; cases this
    | some z =>
      rw [q] at this
      exact ⟨z, rfl, (Option.some.inj this).trans hy⟩
  ne := fun u c z ez hl => by
    have hu : u < s.length := by have := lt_at ez; rwa [handOn_len e] at this
    obtain ⟨y, ey⟩ := at_of hu
    by_cases q : u = h
    · subst q
      rw [handOn_h e] at ez
      cases ez
      unfold hnd at hl ⊢
      cases ht : x.turned with
      | true => rw [ht] at hl; simp only [if_true] at hl ⊢; exact fun q => R.ne u c x e q hl
      | false => rw [ht] at hl; simp only [Bool.false_eq_true, if_false] at hl ⊢; exact R.ne u c x e hl
    · by_cases so : x.left = some u ∨ x.right = some u
      · rw [handOn_son e ey q so] at ez
        cases ez
        exact R.ne u c y ey hl
      · rw [handOn_no e q so] at ez
        exact R.ne u c z ez hl
  tree := by rw [handOn_ups e]; exact R.tree
end
end W3
namespace W3
open PySem PySem.Spec PyProof.Rows L2 M3
theorem St.set {g : G} {S : Store} {b o : Nat} {s : Shp} (T : St g S b o s) {k : Nat} (hk : k < s.length) (y : Hs) : St g (S.set (b + k) (stO g y)) b o (s.set k y) where
  at_ := fun j x e => by
    have hl : b + k < S.length := by obtain ⟨x, ex⟩ := at_of hk; exact lt_of_get (T.at_ k x ex)
    by_cases c : k = j
    · subst c
      rw [List.getElem?_set_self hk] at e
      cases e
      exact List.getElem?_set_self hl
    · rw [List.getElem?_set_ne c] at e
      rw [List.getElem?_set_ne (by omega)]
      exact T.at_ j x e
  lst := by
    rw [List.length_set, List.getElem?_set_ne (fun q => T.out k hk q.symm)]
    exact T.lst
  out := fun j hj => T.out j (by rwa [List.length_set] at hj)
  cl := fun j w e => by
    rw [List.length_set]
    by_cases c : b + k = j
    · subst c
      have hl : b + k < S.length := by obtain ⟨x, ex⟩ := at_of hk; exact lt_of_get (T.at_ k x ex)
      rw [List.getElem?_set_self hl] at e
      cases e
      exact stO_lt
    · rw [List.getElem?_set_ne c] at e
      exact T.cl j w e
theorem Fr.set {S : Store} {b n k : Nat} {z : O} (hk : k < n) : Fr S (S.set (b + k) z) b n := ⟨List.length_set, fun j h => List.getElem?_set_ne fun q => h k hk q.symm⟩
def modAt (s : Shp) (c : Nat) (f : Hs → Hs) : Shp := match s[c]? with
  | some y => s.set c (f y)
  | none => s
theorem modAt_eq {s : Shp} {c : Nat} {y : Hs} (e : s[c]? = some y) (f : Hs → Hs) : modAt s c f = s.set c (f y) := by unfold modAt; rw [e]
theorem modAt_len (s : Shp) (c : Nat) (f : Hs → Hs) : (modAt s c f).length = s.length := by
  unfold modAt
  split
  · exact List.length_set
  · rfl
theorem modAt_at (s : Shp) (c : Nat) (f : Hs → Hs) (k : Nat) : (modAt s c f)[k]? = if k = c then (s[k]?).map f else s[k]? := by
  unfold modAt
  cases e : s[c]? with
  | none =>
    simp only
    by_cases q : k = c
    · subst q; rw [if_pos rfl, e]; rfl
    · rw [if_neg q]
  | some y =>
    simp only
    by_cases q : k = c
    · subst q; rw [if_pos rfl, List.getElem?_set_self (lt_at e), e]; rfl
    · rw [if_neg q, List.getElem?_set_ne (fun z => q z.symm)]
theorem foldM_at (f : Hs → Hs) (k : Nat) : ∀ {cs : List Nat} {s : Shp}, cs.Nodup → (cs.foldl (fun s c => modAt s c f) s)[k]? = if k ∈ cs then (s[k]?).map f else s[k]?
  | [], s, _ => by simp
  | c :: cs, s, nd => by
    rw [List.foldl_cons, foldM_at f k (List.nodup_cons.mp nd).2, modAt_at]
    by_cases q : k = c
    · subst q
      have := (List.nodup_cons.mp nd).1
      simp [this]
    · simp [q]
theorem foldM_len (f : Hs → Hs) : ∀ {cs : List Nat} {s : Shp}, (cs.foldl (fun s c => modAt s c f) s).length = s.length
  | [], s => rfl
  | c :: cs, s => by rw [List.foldl_cons, foldM_len f, modAt_len]
def sonsL (x : Hs) : List Nat := [x.left, x.right].filterMap id
theorem sonsL_mem {x : Hs} {c : Nat} : c ∈ sonsL x ↔ (x.left = some c ∨ x.right = some c) := by
  unfold sonsL
  simp [List.mem_filterMap, eq_comm]
/-- handing on, step by step -/
def hSteps (s : Shp) (h : Nat) (x : Hs) : Shp :=
  let s1 := if x.turned = true then (sonsL x).foldl (fun s c => modAt s c fun y => { y with turned := !y.turned }) (modAt s h fun z => { z with left := x.right, right := x.left, turned := false }) else s
  modAt ((sonsL x).foldl (fun s c => modAt s c fun y => { y with added := y.added + x.added, value := y.value + x.added }) s1) h fun z => { z with added := 0 }
theorem sons_nd {s : Shp} (R : RS s) {h : Nat} {x : Hs} (e : s[h]? = some x) : (sonsL x).Nodup ∧ h ∉ sonsL x := by
  constructor
  · unfold sonsL
    cases cl : x.left with
    | none => cases cr : x.right <;> simp
    | some l =>
      cases cr : x.right with
      | none => simp
      | some r =>
        have : l ≠ r := fun q => R.ne h l x e cl (by rw [cr, q])
        simp [this]
  · intro m
    have so : SonOf s h h := ⟨x, e, sonsL_mem.mp m⟩
    have := congrArg List.length (R.upc so)
    simp at this
theorem hSteps_eq {s : Shp} (R : RS s) {h : Nat} {x : Hs} (e : s[h]? = some x) : hSteps s h x = handOn s h := by
  obtain ⟨nd, nh⟩ := sons_nd R e
  refine List.ext_getElem? fun k => ?_
  rw [handOn_at e]
  unfold hSteps
  rw [modAt_at]
  by_cases kh : k = h
  · subst kh
    rw [if_pos rfl, foldM_at _ _ nd, if_neg nh, e]
    cases ht : x.turned with
    | true =>
      simp only [if_true]
      rw [foldM_at _ _ nd, if_neg nh, modAt_at, if_pos rfl, e]
      simp [hnd, ht]
    | false =>
      simp only [Bool.false_eq_true, if_false]
      rw [e]
      simp [hnd, ht]
  · rw [if_neg kh, foldM_at _ _ nd]
    cases ht : x.turned with
    | true =>
      simp only [if_true]
      rw [foldM_at _ _ nd, modAt_at, if_neg kh]
      by_cases m : k ∈ sonsL x
      · rw [if_pos m, if_pos m]
        cases s[k]? with
        | none => rfl
        | some y => simp [kh, sonsL_mem.mp m, flp, ht]
      · have nm : ¬ (x.left = some k ∨ x.right = some k) := fun q => m (sonsL_mem.mpr q)
        rw [if_neg m, if_neg m]
        cases s[k]? with
        | none => rfl
        | some y => simp only [Option.map_some, if_neg kh, if_neg nm]
    | false =>
      simp only [Bool.false_eq_true, if_false]
      by_cases m : k ∈ sonsL x
      · rw [if_pos m]
        cases s[k]? with
        | none => rfl
        | some y => simp [kh, sonsL_mem.mp m, flp, ht]
      · have nm : ¬ (x.left = some k ∨ x.right = some k) := fun q => m (sonsL_mem.mpr q)
        rw [if_neg m]
        cases s[k]? with
        | none => rfl
        | some y => simp only [Option.map_some, if_neg kh, if_neg nm]
section
variable {g : G} (X : Gx g) {Y t : Store} {b o : Nat} {s : Shp} (T : St g Y b o s) {k : Nat} {x : Hs} (e : s[k]? = some x)
include X T e
theorem st_up {v : Option Nat} : setF g.FL "up" (.obj (b + k)) (.dat (ov v)) (Y ++ t) = some (Y.set (b + k) (stO g { x with up := v }) ++ t) := by
  have q := sR_up X (T.app (t := t) e) (d := .dat (ov v))
  rw [List.set_append_left _ _ (lt_of_get (T.at_ k x e))] at q
  exact q
theorem st_left {v : Option Nat} : setF g.FL "left" (.obj (b + k)) (.dat (ov v)) (Y ++ t) = some (Y.set (b + k) (stO g { x with left := v }) ++ t) := by
  have q := sR_left X (T.app (t := t) e) (d := .dat (ov v))
  rw [List.set_append_left _ _ (lt_of_get (T.at_ k x e))] at q
  exact q
theorem st_right {v : Option Nat} : setF g.FL "right" (.obj (b + k)) (.dat (ov v)) (Y ++ t) = some (Y.set (b + k) (stO g { x with right := v }) ++ t) := by
  have q := sR_right X (T.app (t := t) e) (d := .dat (ov v))
  rw [List.set_append_left _ _ (lt_of_get (T.at_ k x e))] at q
  exact q
theorem st_turned {v : Bool} : setF g.FL "turned" (.obj (b + k)) (.dat (.bl v)) (Y ++ t) = some (Y.set (b + k) (stO g { x with turned := v }) ++ t) := by
  have q := sR_turned X (T.app (t := t) e) (d := .dat (.bl v))
  rw [List.set_append_left _ _ (lt_of_get (T.at_ k x e))] at q
  exact q
theorem st_added {v : Int} : setF g.FL "added" (.obj (b + k)) (.dat (.int v)) (Y ++ t) = some (Y.set (b + k) (stO g { x with added := v }) ++ t) := by
  have q := sR_added X (T.app (t := t) e) (d := .dat (.int v))
  rw [List.set_append_left _ _ (lt_of_get (T.at_ k x e))] at q
  exact q
theorem st_value {v : Int} : setF g.FL "value" (.obj (b + k)) (.dat (.int v)) (Y ++ t) = some (Y.set (b + k) (stO g { x with value := v }) ++ t) := by
  have q := sR_value X (T.app (t := t) e) (d := .dat (.int v))
  rw [List.set_append_left _ _ (lt_of_get (T.at_ k x e))] at q
  exact q
end
end W3
namespace W3
open PySem PySem.Spec PyProof.Rows L2 M3
theorem modN {s : Shp} {c : Nat} {f : Hs → Hs} {y : Hs} (e : s[c]? = some y) : (modAt s c f)[c]? = some (f y) := by rw [modAt_at, if_pos rfl, e]; rfl
theorem fin_nx_ends {r : R Out} {Q : Store → Prop} (h : Ends r fun o S => ∃ δ, o = .nx δ ∧ Q S) : ∃ (d : D) (S : Store), fin r = .ok d S ∧ (d = .dat .non ∧ Q S) := by
  obtain ⟨o, S, rfl, δ, rfl, q⟩ := h
  exact ⟨_, S, rfl, rfl, q⟩
section
variable {g : G} (X : Gx g) {S : Store} {b o : Nat} {s : Shp} (T : St g S b o s) (R : RS s)
include X T R
theorem hand_on_t {h : Nat} (hh : h < s.length) : ∃ S', mScope (m_hand_on g) [.obj o, .dat (nv h)] S = .ok (.dat .non) S' ∧ St g S' b o (handOn s h) ∧ Fr S S' b s.length := by
  obtain ⟨x, e⟩ := at_of hh
  obtain ⟨nd, nh⟩ := sons_nd R e
  have n64 := R.n64
  have lt : ∀ c ∈ sonsL x, c < s.length := fun c m => by
    obtain ⟨y, ey, _⟩ := R.son h c ⟨x, e, sonsL_mem.mp m⟩
    exact lt_at ey
  suffices z : ∃ d S', m_hand_on g [.obj o, .dat (nv h)] S = .ok d S' ∧ d = .dat .non ∧ ∃ Y t, S' = Y ++ t ∧ St g Y b o (hSteps s h x) ∧ Fr S Y b s.length by
    obtain ⟨d, S', e1, rfl, Y, t, rfl, T', F'⟩ := z
    rw [hSteps_eq R e] at T'
    exact ⟨Y, scope_u e1 F'.len T'.cl, T', F'⟩
  have sl : ∃ k : Nat, (sonsL x).length = k ∧ k ≤ 2 := ⟨_, rfl, by unfold sonsL; cases x.left <;> cases x.right <;> simp⟩
  have l2 : (2 : Nat) ≤ 100000 := by decide
  -- the list of the sons
  have lc : mLc (mWalk (mTup (mCons (mFld g.FL "left" (mVar 2)) (mCons (mFld g.FL "right" (mVar 2)) mNil)))) (gmName 4) (mTst (mOp aNotN (mVar 4) (mC .non))) (mOp aIx (mVar 0) (mVar 4)) [4] [some (.obj o), some (.dat (nv h)), some (.obj (b + h)), none, none] S = .ok ((sonsL x).map fun c => .obj (b + c)) S := by
    have w : mWalk (mTup (mCons (mFld g.FL "left" (mVar 2)) (mCons (mFld g.FL "right" (mVar 2)) mNil))) [some (.obj o), some (.dat (nv h)), some (.obj (b + h)), none, none] S = .ok (.items (([x.left, x.right].map ov).map .dat)) S := walk_t (l := [x.left, x.right].map ov) (by
      unfold mFld
      dsimp! [fR_left X (T.at_ h x e), fR_right X (T.at_ h x e), l2])
    rw [List.map_map] at w
    have ee := lc_items (w := mWalk (mTup (mCons (mFld g.FL "left" (mVar 2)) (mCons (mFld g.FL "right" (mVar 2)) mNil)))) (g := gmName 4) (t := mTst (mOp aNotN (mVar 4) (mC .non))) (e := mOp aIx (mVar 0) (mVar 4)) (vs := [4]) (δ := [some (.obj o), some (.dat (nv h)), some (.obj (b + h)), none, none]) (S := S) (S1 := S) (fun d => match d with
      | .dat (.int c) => some (.obj (b + c.toNat))
      | _ => none) w (by simp) fun d m => ⟨_, rfl, ?_⟩
    · rw [ee]
      unfold sonsL
      cases x.left <;> cases x.right <;> simp [ov]
    · obtain ⟨oo, mo, rfl⟩ := List.mem_map.mp m
      cases oo with
      | none => show mTst _ _ _ = _; dsimp! [Function.comp, ov]
      | some c =>
        have hc : c < s.length := lt c (by
          rw [sonsL_mem]
          simp only [List.mem_cons, List.mem_nil_iff, or_false] at mo
          exact mo.imp Eq.symm Eq.symm)
        have ix : aIx S (.obj o) (.dat (ov (some c))) = some (.obj (b + c)) := T.ix hc
        refine ⟨by dsimp! [Function.comp, ov], ?_⟩
        show mOp aIx (mVar 0) (mVar 4) _ _ = _
        dsimp! [Function.comp, ix]
        rfl
  -- a walk over the sons
  have walk : ∀ (bd : DS) (f : Hs → Hs) (x4 : Option D) (Y : Store) (s0 : Shp), St g Y b o s0 → Fr S Y b s.length → s0.length = s.length → (∀ (c : Nat) (y : Hs) (Y : Store) (s1 : Shp), c ∈ sonsL x → St g Y b o s1 → s1.length = s.length → s1[h]? = s0[h]? → s1[c]? = some y →
        bd [some (.obj o), some (.dat (nv h)), some (.obj (b + h)), some (.obj S.length), some (.obj (b + c))] (Y ++ [.lst ((sonsL x).map fun c => .obj (b + c))]) = .ok (.nx [some (.obj o), some (.dat (nv h)), some (.obj (b + h)), some (.obj S.length), some (.obj (b + c))]) (Y.set (b + c) (stO g (f y)) ++ [.lst ((sonsL x).map fun c => .obj (b + c))])) →
      Ends (mFor (mWalk (mVar 3)) (gmName 4) bd [some (.obj o), some (.dat (nv h)), some (.obj (b + h)), some (.obj S.length), x4] (Y ++ [.lst ((sonsL x).map fun c => .obj (b + c))])) fun o' S' => ∃ (x4 : Option D) (Y : Store), o' = .nx [some (.obj o), some (.dat (nv h)), some (.obj (b + h)), some (.obj S.length), x4] ∧ S' = Y ++ [.lst ((sonsL x).map fun c => .obj (b + c))] ∧ St g Y b o ((sonsL x).foldl (fun s c => modAt s c f) s0) ∧ Fr S Y b s.length := by
    intro bd f x4 Y s0 T0 F0 l0 hb
    have hS : ∀ Y : Store, Y.length = S.length → (Y ++ [O.lst ((sonsL x).map fun c => .obj (b + c))])[S.length]? = some (.lst ((sonsL x).map fun c => .obj (b + c))) := fun Y ly => by
      rw [← ly]; exact get_new
    rw [for_ob (walk_o (o := S.length) rfl (hS Y F0.len)) (hS Y F0.len)]
    refine forO_ends (l := (sonsL x).map fun c => .obj (b + c)) (fun i δ S' => ∃ (x4 : Option D) (Y : Store), δ = [some (.obj o), some (.dat (nv h)), some (.obj (b + h)), some (.obj S.length), x4] ∧ S' = Y ++ [.lst ((sonsL x).map fun c => .obj (b + c))] ∧ St g Y b o (((sonsL x).take i).foldl (fun s c => modAt s c f) s0) ∧ Fr S Y b s.length) (fun i δ S' ⟨x4, Y, _, e2, _, F⟩ => by rw [e2]; exact hS Y F.len) ?_ (fun δ S' ⟨x4, Y, e1, e2, T1, F⟩ => ⟨x4, Y, by rw [e1], e2, by rwa [List.take_of_length_le (by simp)] at T1, F⟩) (by simp) ⟨x4, Y, rfl, rfl, by simpa using T0, F0⟩
    rintro i d δ S' ed ⟨x4, Y, rfl, rfl, T1, F1⟩
    rw [List.getElem?_map] at ed
    cases ec : (sonsL x)[i]? with
    | none => rw [ec] at ed; cases ed
    | some c =>
      rw [ec] at ed
      cases ed
      have mc := List.mem_of_getElem? ec
      have hc := lt c mc
      have ln : (((sonsL x).take i).foldl (fun s c => modAt s c f) s0).length = s.length := by rw [foldM_len, l0]
      obtain ⟨y, ey⟩ := at_of (s := ((sonsL x).take i).foldl (fun s c => modAt s c f) s0) (h := c) (by rw [ln]; exact hc)
      have ndt : ((sonsL x).take i).Nodup := nd.sublist (List.take_sublist _ _)
      have e0 : (((sonsL x).take i).foldl (fun s c => modAt s c f) s0)[h]? = s0[h]? := by
        rw [foldM_at f h ndt, if_neg fun m => nh (List.mem_of_mem_take m)]
      have q := hb c y Y _ mc T1 ln e0 ey
      refine Ends.eq (.of (tm ⟨_, _, rfl, rfl, ?_, F1.trans (Fr.set hc)⟩)) q
      rw [List.take_add_one, ec]
      show St g _ b o (List.foldl _ s0 (List.take i (sonsL x) ++ [c]))
      rw [List.foldl_append, List.foldl_cons, List.foldl_nil, modAt_eq ey]
      exact T1.set (by rw [ln]; exact hc) _
  unfold m_hand_on
  rw [mBody_fin]
  refine Exists.imp (fun d h => Exists.imp (fun S' h => ⟨h.1, h.2⟩) h) (fin_nx_ends ?_)
  unfold mSetF
  dsimp! [T.ix hh, lc]
  have sx : ∀ (Y : Store) (s1 : Shp), St g Y b o s1 → s1.length = s.length → ∃ z, s1[h]? = some z := fun Y s1 T1 l1 => at_of (by rw [l1]; exact hh)
  have T0 := T
  have L : O.lst ((sonsL x).map fun c => .obj (b + c)) = O.lst ((sonsL x).map fun c => .obj (b + c)) := rfl
  -- the flags
  refine then_ends (Q1 := fun o' S' => ∃ (x4 : Option D) (Y : Store), o' = .nx [some (.obj o), some (.dat (nv h)), some (.obj (b + h)), some (.obj S.length), x4] ∧ S' = Y ++ [.lst ((sonsL x).map fun c => .obj (b + c))] ∧ St g Y b o (if x.turned = true then (sonsL x).foldl (fun s c => modAt s c fun y => { y with turned := !y.turned }) (modAt s h fun z => { z with left := x.right, right := x.left, turned := false }) else s) ∧ Fr S Y b s.length) ?_ ?_
  · cases ht : x.turned with
    | false =>
      have f0 := fR_turned X (T.app (t := [.lst ((sonsL x).map fun c => .obj (b + c))]) e)
      rw [ht] at f0
      unfold mFld
      dsimp! [f0]
      exact .of ⟨_, S, rfl, rfl, by simpa using T, Fr.refl⟩
    | true =>
      have f0 := fR_turned X (T.app (t := [.lst ((sonsL x).map fun c => .obj (b + c))]) e)
      have fl := fR_left X (T.app (t := [.lst ((sonsL x).map fun c => .obj (b + c))]) e)
      have fr := fR_right X (T.app (t := [.lst ((sonsL x).map fun c => .obj (b + c))]) e)
      have g1 := st_left X T (t := [.lst ((sonsL x).map fun c => .obj (b + c))]) e (v := x.right)
      have T1 := T.set hh { x with left := x.right }
      have e1 : (s.set h { x with left := x.right })[h]? = some { x with left := x.right } := List.getElem?_set_self hh
      have g2 := st_right X T1 (t := [.lst ((sonsL x).map fun c => .obj (b + c))]) e1 (v := x.left)
      have T2 := T1.set (by rw [List.length_set]; exact hh) { x with left := x.right, right := x.left }
      have e2 : ((s.set h { x with left := x.right }).set h { x with left := x.right, right := x.left })[h]? = some { x with left := x.right, right := x.left } := List.getElem?_set_self (by rw [List.length_set]; exact hh)
      have g3 := st_turned X T2 (t := [.lst ((sonsL x).map fun c => .obj (b + c))]) e2 (v := false)
      have T3 := T2.set (by rw [List.length_set, List.length_set]; exact hh) { x with left := x.right, right := x.left, turned := false }
      have F3 : Fr S (((S.set (b + h) (stO g { x with left := x.right })).set (b + h) (stO g { x with left := x.right, right := x.left })).set (b + h) (stO g { x with left := x.right, right := x.left, turned := false })) b s.length := ((Fr.set hh).trans (Fr.set hh)).trans (Fr.set hh)
      have es : ((s.set h { x with left := x.right }).set h { x with left := x.right, right := x.left }).set h { x with left := x.right, right := x.left, turned := false } = s.set h { x with left := x.right, right := x.left, turned := false } := by rw [List.set_set, List.set_set]
      rw [es] at T3
      have em := modAt_eq e fun z => { z with left := x.right, right := x.left, turned := false }
      have em : modAt s h (fun z => { z with left := x.right, right := x.left, turned := false }) = s.set h { x with left := x.right, right := x.left, turned := false } := em
      have two : ([ov x.right, ov x.left] : List P).length = 2 := rfl
      rw [ht] at f0
      unfold mFld gmFld
      dsimp! [f0, fl, fr, l2, two, g1, g2, g3]
      refine (walk _ (fun y => { y with turned := !y.turned }) _ _ _ T3 F3 List.length_set (fun c y Y s1 mc T4 l4 _ ey => ?_)).mono fun o' S' ⟨x4, Y, q1, q2, q3, q4⟩ => ⟨x4, Y, q1, q2, by rw [em]; exact q3, q4⟩
      have fy := fR_turned X (T4.app (t := [.lst ((sonsL x).map fun c => .obj (b + c))]) ey)
      have gy := st_turned X T4 (t := [.lst ((sonsL x).map fun c => .obj (b + c))]) ey (v := !y.turned)
      dsimp! [fy, gy]
  · rintro o' S' ⟨x4, Y, rfl, rfl, T1, F1⟩
    obtain ⟨s1, hs1⟩ : ∃ s1, s1 = (if x.turned = true then (sonsL x).foldl (fun s c => modAt s c fun y => { y with turned := !y.turned }) (modAt s h fun z => { z with left := x.right, right := x.left, turned := false }) else s) := ⟨_, rfl⟩
    rw [← hs1] at T1
    have l1 : s1.length = s.length := by
      rw [hs1]
      split
      · rw [foldM_len, modAt_len]
      · rfl
    obtain ⟨z, ez, az⟩ : ∃ z : Hs, s1[h]? = some z ∧ z.added = x.added := by
      rw [hs1]
      split
      · rw [foldM_at _ _ nd, if_neg nh, modN e]; exact ⟨_, rfl, rfl⟩
      · exact ⟨x, e, rfl⟩
    dsimp! []
    refine then_ends (walk _ (fun y => { y with added := y.added + x.added, value := y.value + x.added }) _ _ _ T1 F1 l1 (fun c y Y s2 mc T4 l4 e0 ey => ?_)) ?_
    · have hc := lt c mc
      have hch : h ≠ c := fun q => nh (q ▸ mc)
      rw [ez] at e0
      have fa := fR_added X (T4.app (t := [.lst ((sonsL x).map fun c => .obj (b + c))]) e0)
      rw [az] at fa
      have fv := fR_value X (T4.app (t := [.lst ((sonsL x).map fun c => .obj (b + c))]) ey)
      have g1 := st_value X T4 (t := [.lst ((sonsL x).map fun c => .obj (b + c))]) ey (v := y.value + x.added)
      have T5 := T4.set (by rw [l4]; exact hc) { y with value := y.value + x.added }
      have ey5 : (s2.set c { y with value := y.value + x.added })[c]? = some { y with value := y.value + x.added } := List.getElem?_set_self (by rw [l4]; exact hc)
      have ez5 : (s2.set c { y with value := y.value + x.added })[h]? = some z := by rw [List.getElem?_set_ne (fun q => hch q.symm)]; exact e0
      have fa5 := fR_added X (T5.app (t := [.lst ((sonsL x).map fun c => .obj (b + c))]) ez5)
      rw [az] at fa5
      have fy5 := fR_added X (T5.app (t := [.lst ((sonsL x).map fun c => .obj (b + c))]) ey5)
      have g2 := st_added X T5 (t := [.lst ((sonsL x).map fun c => .obj (b + c))]) ey5 (v := y.added + x.added)
      have ad : ∀ (S : Store) (i j : Int), aAddI S (.dat (.int i)) (.dat (.int j)) = some (.dat (.int (i + j))) := fun _ _ _ => rfl
      unfold mAugF mFld
      dsimp! [fa, fv, ad, g1, fa5, fy5, g2]
      rw [List.set_set]
    · rintro o' S' ⟨x4, Y, rfl, rfl, T6, F6⟩
      have l6 : ((sonsL x).foldl (fun s c => modAt s c fun y => { y with added := y.added + x.added, value := y.value + x.added }) s1).length = s.length := by rw [foldM_len, l1]
      obtain ⟨w, ew⟩ := at_of (s := (sonsL x).foldl (fun s c => modAt s c fun y => { y with added := y.added + x.added, value := y.value + x.added }) s1) (h := h) (by rw [l6]; exact hh)
      have g0 := st_added X T6 (t := [.lst ((sonsL x).map fun c => .obj (b + c))]) ew (v := 0)
      have T7 := T6.set (by rw [l6]; exact hh) { w with added := 0 }
      dsimp! [g0]
      refine .of ⟨_, rfl, _, _, rfl, ?_, F6.trans (Fr.set hh)⟩
      unfold hSteps
      rw [← hs1, modAt_eq ew]
      exact T7
end
end W3
namespace W3
def ren (a h : Nat) (o : Option Nat) : Option Nat := if o = some a then some h else o
/-- what lies between, behind a turn -/
def mid (x y : Hs) (h : Nat) : Option Nat := if y.right = some h then x.left else x.right
def rotF (a h : Nat) (x y : Hs) (k : Nat) (z : Hs) : Hs :=
  if k = h then { x with up := y.up, left := if y.right = some h then some a else x.left, right := if y.right = some h then x.right else some a }
  else if k = a then { y with up := some h, left := if y.right = some h then y.left else x.right, right := if y.right = some h then x.left else y.right }
  else { z with up := if mid x y h = some k then some a else z.up, left := ren a h z.left, right := ren a h z.right }
def rot (s : Shp) (a h : Nat) : Shp := match s[a]?, s[h]? with
  | some y, some x => s.mapIdx (rotF a h x y)
  | _, _ => s
/-- before a turn: h is a son of a; both have handed on -/
structure Pre (s : Shp) (a h : Nat) (x y : Hs) : Prop where
  R : RS s
  ea : s[a]? = some y
  eh : s[h]? = some x
  so : y.left = some h ∨ y.right = some h
  tx : x.turned = false
  ty : y.turned = false
  ax : x.added = 0
  ay : y.added = 0
section
variable {s : Shp} {a h : Nat} {x y : Hs} (p : Pre s a h x y)
include p
theorem Pre.sof : SonOf s a h := ⟨y, p.ea, p.so⟩
theorem Pre.xu : x.up = some a := by
  obtain ⟨z, ez, q⟩ := p.R.son a h p.sof
  rw [p.eh] at ez
  cases ez
  exact q
theorem Pre.upc : W2.up (ups s) h = h :: W2.up (ups s) a := p.R.upc p.sof
theorem Pre.ah : a ≠ h := fun q => by
  have := congrArg List.length p.upc
  rw [q] at this
  simp at this
theorem Pre.no_self {u : Nat} : ¬ SonOf s u u := fun so => by
  have := congrArg List.length (p.R.upc so)
  simp at this
theorem Pre.no_back : ¬ SonOf s h a := fun so => by
  have := congrArg List.length (p.R.upc so)
  rw [p.upc] at this
  simp at this
  omega
theorem rot_eq : rot s a h = s.mapIdx (rotF a h x y) := by unfold rot; rw [p.ea, p.eh]
theorem rot_len : (rot s a h).length = s.length := by rw [rot_eq p, List.length_mapIdx]
theorem rot_at (k : Nat) : (rot s a h)[k]? = (s[k]?).map (rotF a h x y k) := by rw [rot_eq p, List.getElem?_mapIdx]
theorem rot_h : (rot s a h)[h]? = some { x with up := y.up, left := if y.right = some h then some a else x.left, right := if y.right = some h then x.right else some a } := by
  rw [rot_at p, p.eh]; simp [rotF]
theorem rot_a : (rot s a h)[a]? = some { y with up := some h, left := if y.right = some h then y.left else x.right, right := if y.right = some h then x.left else y.right } := by
  rw [rot_at p, p.ea]; simp [rotF, p.ah]
theorem rot_o {k : Nat} {z : Hs} (e : s[k]? = some z) (n1 : k ≠ h) (n2 : k ≠ a) : (rot s a h)[k]? = some { z with up := if mid x y h = some k then some a else z.up, left := ren a h z.left, right := ren a h z.right } := by
  rw [rot_at p, e]; simp [rotF, n1, n2]
theorem Pre.mid_son {k : Nat} (e : mid x y h = some k) : SonOf s h k := by
  unfold mid at e
  split at e
  · exact ⟨x, p.eh, .inl e⟩
  · exact ⟨x, p.eh, .inr e⟩
theorem ren_ne {u : Nat} {o : Option Nat} (hu : ∀ c, o = some c → SonOf s u c) (n : ¬ SonOf s u a) : ren a h o = o := by
  unfold ren
  split
  · rename_i q; exact absurd (hu a q) n
  · rfl
theorem rot_son {u c : Nat} (so : SonOf (rot s a h) u c) : ∃ z, (rot s a h)[c]? = some z ∧ z.up = some u := by
  have ah := p.ah
  obtain ⟨z, ez, hz⟩ := so
  by_cases uh : u = h
  · subst uh
    rw [rot_h p] at ez
    cases ez
    by_cases r : y.right = some u
    · simp only [r, if_true] at hz
      rcases hz with hz | hz
      · cases hz; exact ⟨_, rot_a p, rfl⟩
      · have sc : SonOf s u c := ⟨x, p.eh, .inr hz⟩
        obtain ⟨w, ew, hw⟩ := p.R.son u c sc
        have n1 : c ≠ u := fun q => by subst q; exact p.no_self sc
        have n2 : c ≠ a := fun q => by subst q; exact p.no_back sc
        refine ⟨_, rot_o p ew n1 n2, ?_⟩
        simp only [mid, r, if_true]
        rw [if_neg fun q => p.R.ne u c x p.eh q hz]; exact hw
    · simp only [r, if_false] at hz
      rcases hz with hz | hz
      · have sc : SonOf s u c := ⟨x, p.eh, .inl hz⟩
        obtain ⟨w, ew, hw⟩ := p.R.son u c sc
        have n1 : c ≠ u := fun q => by subst q; exact p.no_self sc
        have n2 : c ≠ a := fun q => by subst q; exact p.no_back sc
        refine ⟨_, rot_o p ew n1 n2, ?_⟩
        simp only [mid, r, if_false]
        rw [if_neg fun q => p.R.ne u c x p.eh hz q]; exact hw
      · cases hz; exact ⟨_, rot_a p, rfl⟩
  · by_cases ua : u = a
    · subst ua
      rw [rot_a p] at ez
      cases ez
      have stay : ∀ c, SonOf s u c → c ≠ h → ∃ z, (rot s u h)[c]? = some z ∧ z.up = some u := fun c sc n1 => by
        obtain ⟨w, ew, hw⟩ := p.R.son u c sc
        have n2 : c ≠ u := fun q => by subst q; exact p.no_self sc
        refine ⟨_, rot_o p ew n1 n2, ?_⟩
        show (if mid x y h = some c then some u else w.up) = some u
        split
        · rfl
        · exact hw
      have moved : ∀ c, mid x y h = some c → ∃ z, (rot s u h)[c]? = some z ∧ z.up = some u := fun c q => by
        have sc := p.mid_son q
        obtain ⟨w, ew, hw⟩ := p.R.son h c sc
        have n1 : c ≠ h := fun q => by subst q; exact p.no_self sc
        have n2 : c ≠ u := fun q => by subst q; exact p.no_back sc
        exact ⟨_, rot_o p ew n1 n2, if_pos q⟩
      by_cases r : y.right = some h
      · simp only [r, if_true] at hz
        rcases hz with hz | hz
        · exact stay c ⟨y, p.ea, .inl hz⟩ fun q => p.R.ne u h y p.ea (q ▸ hz) r
        · exact moved c (by simp only [mid, r, if_true]; exact hz)
      · simp only [r, if_false] at hz
        rcases hz with hz | hz
        · exact moved c (by simp only [mid, r, if_false]; exact hz)
        · exact stay c ⟨y, p.ea, .inr hz⟩ fun q => r (q ▸ hz)
    · have hu : u < s.length := by have := lt_at ez; rwa [rot_len p] at this
      obtain ⟨w, ew⟩ := at_of hu
      rw [rot_o p ew uh ua] at ez
      cases ez
      have key : ∀ o : Option Nat, (o = w.left ∨ o = w.right) → ren a h o = some c → ∃ z, (rot s a h)[c]? = some z ∧ z.up = some u := fun o ho e => by
        unfold ren at e
        split at e
        · rename_i q
          cases e
          have sc : SonOf s u a := ⟨w, ew, by rw [q] at ho; exact ho.imp Eq.symm Eq.symm⟩
          obtain ⟨v, ev, hv⟩ := p.R.son u a sc
          rw [p.ea] at ev
          cases ev
          exact ⟨_, rot_h p, hv⟩
        · rename_i q
          have sc : SonOf s u c := ⟨w, ew, by rw [e] at ho; exact ho.imp Eq.symm Eq.symm⟩
          obtain ⟨v, ev, hv⟩ := p.R.son u c sc
          have n1 : c ≠ h := fun z => by subst z; exact ua (p.R.sonof_inj sc p.sof)
          have n2 : c ≠ a := fun z => q (by rw [e, z])
          refine ⟨_, rot_o p ev n1 n2, ?_⟩
          show (if mid x y h = some c then some a else v.up) = some u
          rw [if_neg fun z => uh (p.R.sonof_inj sc (p.mid_son z))]; exact hv
      rcases hz with hz | hz
      · exact key _ (.inl rfl) hz
      · exact key _ (.inr rfl) hz
theorem rot_ne {u c : Nat} {z : Hs} (ez : (rot s a h)[u]? = some z) (hl : z.left = some c) : z.right ≠ some c := by
  have ah := p.ah
  by_cases uh : u = h
  · subst uh
    rw [rot_h p] at ez
    cases ez
    by_cases r : y.right = some u
    · simp only [r, if_true] at hl ⊢
      cases hl
      exact fun q => p.no_back ⟨x, p.eh, .inr q⟩
    · simp only [r, if_false] at hl ⊢
      intro q
      cases q
      exact p.no_back ⟨x, p.eh, .inl hl⟩
  · by_cases ua : u = a
    · subst ua
      rw [rot_a p] at ez
      cases ez
      by_cases r : y.right = some h
      · simp only [r, if_true] at hl ⊢
        exact fun q => ah (p.R.sonof_inj ⟨y, p.ea, .inl hl⟩ ⟨x, p.eh, .inl q⟩)
      · simp only [r, if_false] at hl ⊢
        exact fun q => ah (p.R.sonof_inj ⟨y, p.ea, .inr q⟩ ⟨x, p.eh, .inr hl⟩)
    · have hu : u < s.length := by have := lt_at ez; rwa [rot_len p] at this
      obtain ⟨w, ew⟩ := at_of hu
      rw [rot_o p ew uh ua] at ez
      cases ez
      have hl : ren a h w.left = some c := hl
      show ren a h w.right ≠ some c
      intro q
      unfold ren at hl q
      by_cases e1 : w.left = some a
      · by_cases e2 : w.right = some a
        · exact p.R.ne u a w ew e1 e2
        · rw [if_pos e1] at hl
          rw [if_neg e2] at q
          cases hl
          exact ua (p.R.sonof_inj ⟨w, ew, .inr q⟩ p.sof)
      · rw [if_neg e1] at hl
        by_cases e2 : w.right = some a
        · rw [if_pos e2] at q
          cases q
          exact ua (p.R.sonof_inj ⟨w, ew, .inl hl⟩ p.sof)
        · rw [if_neg e2] at q
          exact p.R.ne u c w ew hl q
theorem rup_h : (ups (rot s a h))[h]? = some y.up := (ups_at (rot_h p)).trans rfl
theorem rup_a : (ups (rot s a h))[a]? = some (some h) := (ups_at (rot_a p)).trans rfl
theorem rup_o {k : Nat} {o : Option Nat} (e : (ups s)[k]? = some o) (n1 : k ≠ h) (n2 : k ≠ a) : (ups (rot s a h))[k]? = some (if mid x y h = some k then some a else o) := by
  have hk : k < s.length := by have := lt_at e; rwa [ups_len] at this
  obtain ⟨z, ez⟩ := at_of hk
  rw [ups_at ez] at e
  cases e
  exact ups_at (rot_o p ez n1 n2)
/-- the ways up, behind a turn -/
theorem rot_chain {k : Nat} {l : List Nat} (c : W2.Ch (ups s) k l) : ∃ l', W2.Ch (ups (rot s a h)) k l' ∧ (∀ j, j ≠ a → j ≠ h → (j ∈ l' ↔ j ∈ l)) ∧ (h ∈ l' ↔ a ∈ l) := by
  have ah := p.ah
  have ux : (ups s)[h]? = some (some a) := by rw [ups_at p.eh, p.xu]
  have uy : (ups s)[a]? = some y.up := ups_at p.ea
  induction c with
  | @root k e =>
    by_cases kh : k = h
    · subst kh; rw [ux] at e; cases e
    · by_cases ka : k = a
      · subst ka
        rw [uy] at e
        have e := Option.some.inj e
        refine ⟨[k, h], .step (rup_a p) (.root (by rw [rup_h p, e])), fun j n1 n2 => ?_, by simp⟩
        simp [n1, n2]
      · have nm : mid x y h ≠ some k := fun q => by
          obtain ⟨w, ew, hw⟩ := p.R.son h k (p.mid_son q)
          rw [ups_at ew, hw] at e
          cases e
        refine ⟨[k], .root (by rw [rup_o p e kh ka, if_neg nm]), fun j _ _ => Iff.rfl, ?_⟩
        simp [Ne.symm kh, Ne.symm ka]
  | @step k q l e c ih =>
    obtain ⟨l', c', m1, m2⟩ := ih
    by_cases kh : k = h
    · subst kh
      rw [ux] at e
      have : a = q := by simpa using e
      subst this
      -- the way of a now goes by h
      cases c' with
      | root e2 => rw [rup_a p] at e2; cases e2
      | @step _ q2 l2 e2 c2 =>
        rw [rup_a p] at e2
        have : k = q2 := by simpa using e2
        subst this
        obtain ⟨r2, er2⟩ := c2.head
        refine ⟨l2, c2, fun j n1 n2 => ?_, ?_⟩
        · have := m1 j n1 n2
          rw [List.mem_cons] at this ⊢
          constructor
          · exact fun z => .inr (this.mp (.inr z))
          · rintro (z | z)
            · exact absurd z n2
            · exact (this.mpr z).resolve_left n1
        · have ha : a ∈ l := by obtain ⟨r, er⟩ := c.head; rw [er]; simp
          constructor
          · exact fun _ => List.mem_cons_of_mem _ ha
          · intro _; rw [er2]; simp
    · by_cases ka : k = a
      · subst ka
        rw [uy] at e
        have e := Option.some.inj e
        refine ⟨k :: h :: l', .step (rup_a p) (.step (by rw [rup_h p, e]) c'), fun j n1 n2 => ?_, by simp⟩
        have := m1 j n1 n2
        simp [n1, n2, this]
      · by_cases nm : mid x y h = some k
        · have sc := p.mid_son nm
          obtain ⟨w, ew, hw⟩ := p.R.son h k sc
          rw [ups_at ew, hw] at e
          have : h = q := by simpa using e
          subst this
          have ek : (ups (rot s a h))[k]? = some (some a) := by
            rw [rup_o p (o := some h) (by rw [ups_at ew, hw]) kh ka, if_pos nm]
          refine ⟨k :: a :: l', .step ek (.step (rup_a p) c'), fun j n1 n2 => ?_, ?_⟩
          · have := m1 j n1 n2
            simp [n1, this]
          · have hl : h ∈ l' := by obtain ⟨r, er⟩ := c'.head; rw [er]; simp
            have al : a ∈ l := m2.mp hl
            simp [hl, al]
        · refine ⟨k :: l', .step (by rw [rup_o p e kh ka, if_neg nm]) c', fun j n1 n2 => ?_, ?_⟩
          · have := m1 j n1 n2
            simp [this]
          · simp [Ne.symm kh, Ne.symm ka, m2]
theorem rot_rs : RS (rot s a h) where
  n1 := by rw [rot_len p]; exact p.R.n1
  n64 := by rw [rot_len p]; exact p.R.n64
  son := fun u c so => rot_son p so
  ne := fun u c z ez hl => rot_ne p ez hl
  tree := W2.tree_iff.mpr fun k hk => by
    rw [ups_len, rot_len p] at hk
    obtain ⟨l', c', _⟩ := rot_chain p (p.R.chain hk).1
    exact ⟨l', c'⟩
end
/-- handing on twice, then the turn -/
def turnUp (s : Shp) (h : Nat) : Shp := match s[h]? with
  | some x => (match x.up with
    | some a => rot (handOn (handOn s a) h) a h
    | none => s)
  | none => s
end W3
namespace W3
open PySem PySem.Spec PyProof.Rows L2 M3
theorem eq_on {S : Store} {o : Option Nat} {a : Nat} : aEq S (.dat (ov o)) (.dat (nv a)) = some (.dat (.bl (decide (o = some a)))) := by
  cases o with
  | none => rfl
  | some q =>
    show some (D.dat (.bl (decide ((q : Int) = (a : Int))))) = _
    by_cases c : q = a
    · subst c; rw [decide_eq_true rfl, decide_eq_true rfl]
    · rw [decide_eq_false (by omega), decide_eq_false (by simpa using c)]
def renH (a h : Nat) (z : Hs) : Hs := { z with left := ren a h z.left, right := ren a h z.right }
/-- the place is taken -/
def tSteps (s : Shp) (a h : Nat) (x y : Hs) : Shp :=
  let s1 := s.set h { x with up := y.up }
  match y.up with
  | some p => modAt s1 p (renH a h)
  | none => s1
def rSteps (s : Shp) (a h : Nat) (x y : Hs) : Shp :=
  let x2 := if y.right = some h then { x with up := y.up, left := some a } else { x with up := y.up, right := some a }
  let y2 := if y.right = some h then { y with right := x.left, up := some h } else { y with left := x.right, up := some h }
  let s4 := ((tSteps s a h x y).set a y2).set h x2
  match mid x y h with
  | some m => modAt s4 m fun w => { w with up := some a }
  | none => s4
section
variable {s : Shp} {a h : Nat} {x y : Hs} (p : Pre s a h x y)
include p
theorem Pre.up_ne {q : Nat} (e : y.up = some q) : q ≠ a ∧ q ≠ h ∧ ¬ SonOf s h q := by
  have c := (p.R.chain (p.R.up_lt p.ea e)).1
  have e1 := W2.up_of (W2.Ch.step (by rw [ups_at p.ea, e]) c)
  have e2 := p.upc
  refine ⟨fun z => ?_, fun z => ?_, fun so => ?_⟩
  · rw [z] at e1
    have := congrArg List.length e1
    simp at this
  · rw [z, e2] at e1
    have := congrArg List.length e1
    simp at this
    omega
  · have e3 := p.R.upc so
    rw [e2] at e3
    rw [e3] at e1
    have := congrArg List.length e1
    simp at this
    omega
theorem tSteps_at {k : Nat} (n : k ≠ h) : (tSteps s a h x y)[k]? = (s[k]?).map fun z => if k = a then z else renH a h z := by
  have id_ : ∀ z : Hs, s[k]? = some z → k ≠ a → y.up ≠ some k → renH a h z = z := fun z ez na nu => by
    have ns : ¬ SonOf s k a := fun so => by
      obtain ⟨w, ew, hw⟩ := p.R.son k a so
      rw [p.ea] at ew
      cases ew
      exact nu hw
    unfold renH
    rw [ren_ne p (fun c q => ⟨z, ez, .inl q⟩) ns, ren_ne p (fun c q => ⟨z, ez, .inr q⟩) ns]
  unfold tSteps
  cases eu : y.up with
  | none =>
    simp only
    rw [List.getElem?_set_ne (fun q => n q.symm)]
    cases ez : s[k]? with
    | none => rfl
    | some z =>
      simp only [Option.map_some]
      split
      · rfl
      · rename_i na
        rw [id_ z ez na (by rw [eu]; exact fun q => nomatch q)]
  | some q =>
    simp only
    rw [modAt_at]
    by_cases kq : k = q
    · subst kq
      rw [if_pos rfl, List.getElem?_set_ne (fun q => n q.symm)]
      have := (p.up_ne eu).1
      cases s[k]? with
      | none => rfl
      | some z => simp only [Option.map_some, if_neg this]
    · rw [if_neg kq, List.getElem?_set_ne (fun q => n q.symm)]
      cases ez : s[k]? with
      | none => rfl
      | some z =>
        simp only [Option.map_some]
        split
        · rfl
        · rename_i na
          rw [id_ z ez na (by rw [eu]; exact fun q => kq (Option.some.inj q).symm)]
theorem tSteps_len : (tSteps s a h x y).length = s.length := by
  unfold tSteps
  split
  · rw [modAt_len, List.length_set]
  · exact List.length_set
theorem tSteps_h : (tSteps s a h x y)[h]? = some { x with up := y.up } := by
  unfold tSteps
  cases eu : y.up with
  | none => exact List.getElem?_set_self (lt_at p.eh)
  | some q =>
    simp only
    rw [modAt_at, if_neg fun z => (p.up_ne eu).2.1 z.symm]
    exact List.getElem?_set_self (lt_at p.eh)
theorem rSteps_eq : rSteps s a h x y = rot s a h := by
  have ah := p.ah
  refine List.ext_getElem? fun k => ?_
  have base : ∀ (x2 y2 : Hs), (((tSteps s a h x y).set a y2).set h x2)[k]? = if k = h then some x2 else if k = a then some y2 else (tSteps s a h x y)[k]? := fun x2 y2 => by
    by_cases kh : k = h
    · subst kh
      rw [if_pos rfl, List.getElem?_set_self (by rw [List.length_set, tSteps_len p]; exact lt_at p.eh)]
    · rw [if_neg kh, List.getElem?_set_ne (fun q => kh q.symm)]
      by_cases ka : k = a
      · subst ka
        rw [if_pos rfl, List.getElem?_set_self (by rw [tSteps_len p]; exact lt_at p.ea)]
      · rw [if_neg ka, List.getElem?_set_ne (fun q => ka q.symm)]
  unfold rSteps
  have full : (match mid x y h with
      | some m => modAt (((tSteps s a h x y).set a (if y.right = some h then { y with right := x.left, up := some h } else { y with left := x.right, up := some h })).set h (if y.right = some h then { x with up := y.up, left := some a } else { x with up := y.up, right := some a })) m fun w => { w with up := some a }
      | none => ((tSteps s a h x y).set a (if y.right = some h then { y with right := x.left, up := some h } else { y with left := x.right, up := some h })).set h (if y.right = some h then { x with up := y.up, left := some a } else { x with up := y.up, right := some a }))[k]? =
      if k = h then some (if y.right = some h then { x with up := y.up, left := some a } else { x with up := y.up, right := some a }) else if k = a then some (if y.right = some h then { y with right := x.left, up := some h } else { y with left := x.right, up := some h }) else (s[k]?).map fun z => { z with up := if mid x y h = some k then some a else z.up, left := ren a h z.left, right := ren a h z.right } := by
    cases em : mid x y h with
    | none =>
      simp only
      rw [base]
      by_cases kh : k = h
      · rw [if_pos kh, if_pos kh]
      · rw [if_neg kh, if_neg kh]
        by_cases ka : k = a
        · rw [if_pos ka, if_pos ka]
        · rw [if_neg ka, if_neg ka, tSteps_at p kh]
          cases s[k]? with
          | none => rfl
          | some z =>
            simp only [Option.map_some, if_neg ka]
            rfl
    | some m =>
      have sm := p.mid_son em
      have mh : m ≠ h := fun q => by subst q; exact p.no_self sm
      have ma : m ≠ a := fun q => by subst q; exact p.no_back sm
      simp only
      rw [modAt_at, base]
      by_cases kh : k = h
      · rw [if_neg (fun q => mh (q.symm.trans kh)), if_pos kh, if_pos kh]
      · by_cases ka : k = a
        · rw [if_neg (fun q => ma (q.symm.trans ka)), if_neg kh, if_pos ka, if_neg kh, if_pos ka]
        · rw [if_neg kh, if_neg ka, if_neg kh, if_neg ka, tSteps_at p kh]
          by_cases km : k = m
          · subst km
            rw [if_pos rfl]
            cases s[k]? with
            | none => rfl
            | some z => simp only [Option.map_some, if_neg ka, if_true]; rfl
          · rw [if_neg km]
            have : ¬ (some m = some k) := fun q => km (Option.some.inj q).symm
            cases s[k]? with
            | none => rfl
            | some z =>
              simp only [Option.map_some, if_neg ka, if_neg this]
              rfl
  refine full.trans ?_
  by_cases kh : k = h
  · subst kh
    rw [if_pos rfl, rot_h p]
    by_cases r : y.right = some k
    · simp only [r, if_true]
    · simp only [r, if_false]
  · rw [if_neg kh]
    by_cases ka : k = a
    · subst ka
      rw [if_pos rfl, rot_a p]
      by_cases r : y.right = some h
      · simp only [r, if_true]
      · simp only [r, if_false]
    · rw [if_neg ka]
      cases ez : s[k]? with
      | none => rw [rot_at p, ez]; rfl
      | some z => rw [rot_o p ez kh ka]; rfl
end
end W3
namespace W3
open PySem PySem.Spec PyProof.Rows L2 M3
theorem lcO_map {α : Type} {gm : DG} {t : DT} {e : DE} {vs : List Nat} {δ : DEnv} {S : Store} {o : Nat} {xs : List α} (h : α → D) (k : α → P) (ho : S[o]? = some (.lst (xs.map h))) (hl : xs.length ≤ 100000)
    (hh : ∀ x ∈ xs, ∃ δ1, gm (h x) (wipeD δ vs) S = .ok δ1 S ∧ t δ1 S = .ok true S ∧ e δ1 S = .ok (.dat (k x)) S) : ∀ (m i : Nat) (acc : List D), i + m = xs.length → acc.length = i →
      mLcO gm t e vs δ o xs.length m i acc S = .ok (acc ++ ((xs.drop i).map k).map .dat) S
  | 0, i, acc, hi, ha => by
    unfold mLcO
    rw [ho]
    simp only [List.length_map, if_true]
    rw [List.drop_eq_nil_of_le (by omega)]
    simp
  | m + 1, i, acc, hi, ha => by
    have hx : xs[i]? = some xs[i] := List.getElem?_eq_getElem (by omega)
    obtain ⟨δ1, e1, e2, e3⟩ := hh _ (List.mem_of_getElem? hx)
    unfold mLcO
    rw [ho]
    simp only [List.length_map, if_true]
    rw [List.getElem?_map, hx]
    simp only [Option.map_some]
    rw [e1, R.bnf_ok, e2, R.bnf_ok]
    show (e δ1 S).bnf _ = _
    rw [e3, R.bnf_ok, if_pos (by omega), lcO_map h k ho hl hh m (i + 1) _ (by omega) (by simp [ha])]
    rw [List.drop_eq_getElem_cons (show i < xs.length by omega), List.map_cons, List.map_cons, List.append_assoc]
    rfl
theorem lc_ob {α : Type} {w : DI} {gm : DG} {t : DT} {e : DE} {vs : List Nat} {δ : DEnv} {S S1 : Store} {o : Nat} {xs : List α} (h : α → D) (k : α → P) (hw : w δ S = .ok (.ob o) S1) (ho : S1[o]? = some (.lst (xs.map h))) (hl : xs.length ≤ 100000)
    (hh : ∀ x ∈ xs, ∃ δ1, gm (h x) (wipeD δ vs) S1 = .ok δ1 S1 ∧ t δ1 S1 = .ok true S1 ∧ e δ1 S1 = .ok (.dat (k x)) S1) : mLc w gm t e vs δ S = .ok ((xs.map k).map .dat) S1 := by
  unfold mLc
  rw [hw, R.bind_ok]
  simp only [ho]
  rw [List.length_map, lcO_map h k ho hl hh xs.length 0 [] (by omega) rfl, R.bnf_ok]
  simp
end W3
namespace W3
open PySem PySem.Spec PyProof.Rows L2 M3
theorem set_same {s : Shp} {k : Nat} {z : Hs} (e : s[k]? = some z) : s.set k z = s := by
  refine List.ext_getElem? fun j => ?_
  by_cases c : k = j
  · subst c; rw [List.getElem?_set_self (lt_at e), e]
  · rw [List.getElem?_set_ne c]
section
variable {g : G} (X : Gx g) {S : Store} {b o : Nat} {s : Shp} (T : St g S b o s) {a h : Nat} {x y : Hs} (p : Pre s a h x y)
include X T p
theorem take_place_t : ∃ S', mScope (m_take_place g) [.obj o, .dat (nv h), .dat (nv a)] S = .ok (.dat .non) S' ∧ St g S' b o (tSteps s a h x y) ∧ Fr S S' b s.length := by
  suffices z : ∃ S', m_take_place g [.obj o, .dat (nv h), .dat (nv a)] S = .ok (.dat .non) S' ∧ St g S' b o (tSteps s a h x y) ∧ Fr S S' b s.length by
    obtain ⟨S', e, T', F⟩ := z
    exact ⟨S', scope_u (t := []) (by rw [List.append_nil]; exact e) F.len T'.cl, T', F⟩
  have hh := lt_at p.eh
  have ha := lt_at p.ea
  have fy := fR_up X (T.at_ a y p.ea)
  have s1 := st_up X T (t := []) p.eh (v := y.up)
  rw [List.append_nil, List.append_nil] at s1
  have T1 := T.set hh { x with up := y.up }
  have e1 : (s.set h { x with up := y.up })[h]? = some { x with up := y.up } := List.getElem?_set_self hh
  have f1 := fR_up X (T1.at_ h _ e1)
  unfold m_take_place mSetF mFld tSteps
  cases eu : y.up with
  | none =>
    rw [eu] at fy s1 T1 f1
    have nno : ∀ S : Store, aIsN S (.dat (ov none)) (.dat .non) = some (.dat (.bl true)) := fun _ => rfl
    refine ⟨_, ?_, T1, Fr.set hh⟩
    dsimp! [T.ix hh, T.ix ha, fy, s1, f1, nno]
  | some q =>
    have nq := p.up_ne eu
    have hq := p.R.up_lt p.ea eu
    obtain ⟨z, ez⟩ := at_of hq
    rw [eu] at fy s1 T1 f1
    have ez1 : (s.set h { x with up := some q })[q]? = some z := by rw [List.getElem?_set_ne (fun w => nq.2.1 w.symm)]; exact ez
    have nn : ∀ S : Store, aIsN S (.dat (ov (some q))) (.dat .non) = some (.dat (.bl false)) := fun _ => rfl
    have ix1 : aIx (S.set (b + h) (stO g { x with up := some q })) (.obj o) (.dat (ov (some q))) = some (.obj (b + q)) := T1.ix (by rw [List.length_set]; exact hq)
    have fl := fR_left X (T1.at_ q z ez1)
    have fr := fR_right X (T1.at_ q z ez1)
    simp only
    rw [modAt_eq ez1]
    have T2 := T1.set (k := q) (by rw [List.length_set]; exact hq) (renH a h z)
    by_cases cl : z.left = some a
    · have nr : z.right ≠ some a := p.R.ne q a z ez cl
      have er : renH a h z = { z with left := some h } := by unfold renH ren; rw [if_pos cl, if_neg nr]
      have s2 := st_left X T1 (t := []) ez1 (v := some h)
      rw [List.append_nil, List.append_nil] at s2
      have s2' : setF g.FL "left" (.obj (b + q)) (.dat (nv h)) (S.set (b + h) (stO g { x with up := some q })) = _ := s2
      rw [er] at T2 ⊢
      refine ⟨_, ?_, T2, (Fr.set hh).trans (Fr.set hq)⟩
      dsimp! [T.ix hh, T.ix ha, fy, s1, f1, nn, ix1, fl, eq_on, decide_eq_true cl, s2']
    · by_cases cr : z.right = some a
      · have er : renH a h z = { z with right := some h } := by unfold renH ren; rw [if_neg cl, if_pos cr]
        have s2 := st_right X T1 (t := []) ez1 (v := some h)
        rw [List.append_nil, List.append_nil] at s2
        have s2' : setF g.FL "right" (.obj (b + q)) (.dat (nv h)) (S.set (b + h) (stO g { x with up := some q })) = _ := s2
        rw [er] at T2 ⊢
        refine ⟨_, ?_, T2, (Fr.set hh).trans (Fr.set hq)⟩
        dsimp! [T.ix hh, T.ix ha, fy, s1, f1, nn, ix1, fl, eq_on, decide_eq_false cl, fr, decide_eq_true cr, s2']
      · have er : renH a h z = z := by unfold renH ren; rw [if_neg cl, if_neg cr]
        rw [er, set_same ez1]
        refine ⟨_, ?_, T1, Fr.set hh⟩
        dsimp! [T.ix hh, T.ix ha, fy, s1, f1, nn, ix1, fl, eq_on, decide_eq_false cl, fr, decide_eq_false cr]
end
theorem turnUp_eq {s : Shp} {h a : Nat} {x : Hs} (e : s[h]? = some x) (u : x.up = some a) : turnUp s h = rot (handOn (handOn s a) h) a h := by
  unfold turnUp; rw [e]; simp only [u]
/-- behind handing on twice -/
theorem pre_of {s : Shp} (R : RS s) {a h : Nat} (so : SonOf s a h) : ∃ x y, Pre (handOn (handOn s a) h) a h x y := by
  obtain ⟨y0, ey0, hy0⟩ := id so
  obtain ⟨x0, ex0, hx0⟩ := R.son a h so
  have ah : a ≠ h := fun q => by
    have := congrArg List.length (R.upc so)
    rw [q] at this
    simp at this
  have R1 := handOn_rs ey0 R
  have ea1 := handOn_h ey0
  have eh1 := handOn_son ey0 ex0 (fun q => ah q.symm) hy0
  have R2 := handOn_rs eh1 R1
  have eh2 := handOn_h eh1
  have so1 : SonOf (handOn s a) a h := (handOn_sonOf ey0).mpr so
  have nb : ¬ ((flp y0 x0).left = some a ∨ (flp y0 x0).right = some a) := fun q => by
    have sb : SonOf (handOn s a) h a := ⟨_, eh1, q⟩
    have e1 := congrArg List.length (R1.upc sb)
    rw [R1.upc so1] at e1
    simp at e1
    omega
  have ea2 : (handOn (handOn s a) h)[a]? = some (hnd y0) := by rw [handOn_no eh1 ah nb]; exact ea1
  have so2 : SonOf (handOn (handOn s a) h) a h := (handOn_sonOf eh1).mpr so1
  obtain ⟨y', ey', hy'⟩ := so2
  rw [ea2] at ey'
  cases ey'
  exact ⟨_, _, R2, ea2, eh2, hy', rfl, rfl, rfl, rfl⟩
theorem turnUp_rs {s : Shp} (R : RS s) {a h : Nat} (so : SonOf s a h) : RS (turnUp s h) ∧ (turnUp s h).length = s.length := by
  obtain ⟨x, y, p⟩ := pre_of R so
  obtain ⟨x0, ex0, hx0⟩ := R.son a h so
  obtain ⟨y0, ey0, hy0⟩ := so
  have l1 : (handOn s a).length = s.length := handOn_len ey0
  obtain ⟨x1, ex1⟩ := at_of (s := handOn s a) (h := h) (by rw [l1]; exact lt_at ex0)
  rw [turnUp_eq ex0 hx0]
  exact ⟨rot_rs p, by rw [rot_len p, handOn_len ex1, l1]⟩
section
variable {g : G} (X : Gx g) {S : Store} {b o : Nat} {s : Shp} (T : St g S b o s) (R : RS s)
include X T R
theorem turn_up_t {a h : Nat} (so : SonOf s a h) : ∃ S', mScope (m_turn_up g) [.obj o, .dat (nv h)] S = .ok (.dat .non) S' ∧ St g S' b o (turnUp s h) ∧ Fr S S' b s.length := by
  suffices z : ∃ S', m_turn_up g [.obj o, .dat (nv h)] S = .ok (.dat .non) S' ∧ St g S' b o (turnUp s h) ∧ Fr S S' b s.length by
    obtain ⟨S', e, T', F⟩ := z
    exact ⟨S', scope_u (t := []) (by rw [List.append_nil]; exact e) F.len T'.cl, T', F⟩
  obtain ⟨x, y, p⟩ := pre_of R so
  obtain ⟨x0, ex0, hx0⟩ := R.son a h so
  obtain ⟨y0, ey0, hy0⟩ := id so
  have hh := lt_at ex0
  have ha := lt_at ey0
  have l1 : (handOn s a).length = s.length := handOn_len ey0
  have R1 := handOn_rs ey0 R
  obtain ⟨x1, ex1⟩ := at_of (s := handOn s a) (h := h) (by rw [l1]; exact hh)
  have l2 : (handOn (handOn s a) h).length = s.length := by rw [handOn_len ex1, l1]
  obtain ⟨S1, r1, T1, F1⟩ := hand_on_t X T R ha
  obtain ⟨S2, r2, T2, F2⟩ := hand_on_t X T1 R1 (h := h) (by rw [l1]; exact hh)
  obtain ⟨S3, r3, T3, F3⟩ := take_place_t X T2 p
  rw [l1] at F2
  rw [l2] at F3
  have F := (F1.trans F2).trans F3
  rw [turnUp_eq ex0 hx0, ← rSteps_eq p]
  have fu := fR_up X (T.at_ h x0 ex0)
  rw [hx0] at fu
  have fu' : fldD g.FL "up" S (.obj (b + h)) = some (.dat (nv a)) := fu
  have l3 : (tSteps (handOn (handOn s a) h) a h x y).length = s.length := by rw [tSteps_len p, l2]
  have ah := p.ah
  have ea3 : (tSteps (handOn (handOn s a) h) a h x y)[a]? = some y := by rw [tSteps_at p ah, p.ea]; simp
  have eh3 := tSteps_h p
  have fr := fR_right X (T3.at_ a y ea3)
  unfold m_turn_up mSetF mFld rSteps
  by_cases r : y.right = some h
  · have em : mid x y h = x.left := if_pos r
    rw [em]
    simp only [r, if_true]
    have fl := fR_left X (T3.at_ h _ eh3)
    have s4 := st_right X T3 (t := []) ea3 (v := x.left)
    rw [List.append_nil, List.append_nil] at s4
    have T4 := T3.set (k := a) (by rw [l3]; exact ha) { y with right := x.left }
    have eh4 : ((tSteps (handOn (handOn s a) h) a h x y).set a { y with right := x.left })[h]? = some { x with up := y.up } := by rw [List.getElem?_set_ne ah]; exact eh3
    have s5 := st_left X T4 (t := []) eh4 (v := some a)
    rw [List.append_nil, List.append_nil] at s5
    have s5' : setF g.FL "left" (.obj (b + h)) (.dat (nv a)) (S3.set (b + a) (stO g { y with right := x.left })) = _ := s5
    have T5 := T4.set (k := h) (by rw [List.length_set, l3]; exact hh) { x with up := y.up, left := some a }
    have ea5 : (((tSteps (handOn (handOn s a) h) a h x y).set a { y with right := x.left }).set h { x with up := y.up, left := some a })[a]? = some { y with right := x.left } := by rw [List.getElem?_set_ne (fun q => ah q.symm)]; exact List.getElem?_set_self (by rw [l3]; exact ha)
    have s6 := st_up X T5 (t := []) ea5 (v := some h)
    rw [List.append_nil, List.append_nil] at s6
    have s6' : setF g.FL "up" (.obj (b + a)) (.dat (nv h)) ((S3.set (b + a) (stO g { y with right := x.left })).set (b + h) (stO g { x with up := y.up, left := some a })) = _ := s6
    have T6 := T5.set (k := a) (by rw [List.length_set, List.length_set, l3]; exact ha) { y with right := x.left, up := some h }
    have sw : ((((tSteps (handOn (handOn s a) h) a h x y).set a { y with right := x.left }).set h { x with up := y.up, left := some a }).set a { y with right := x.left, up := some h }) = ((tSteps (handOn (handOn s a) h) a h x y).set a { y with right := x.left, up := some h }).set h { x with up := y.up, left := some a } := by
      rw [List.set_comm _ _ (fun q => ah q.symm), List.set_set]
    rw [sw] at T6
    have F6 := ((F.trans (Fr.set (z := stO g { y with right := x.left }) ha)).trans (Fr.set (z := stO g { x with up := y.up, left := some a }) hh)).trans (Fr.set (z := stO g { y with right := x.left, up := some h }) ha)
    have eq1 : aEq S3 (.dat (ov (some h))) (.dat (nv h)) = some (.dat (.bl true)) := by rw [eq_on, decide_eq_true rfl]
    rw [r] at fr
    cases el : x.left with
    | none =>
      have nno : ∀ S : Store, aNotN S (.dat (ov none)) (.dat .non) = some (.dat (.bl false)) := fun _ => rfl
      rw [el] at fl s4 s5' s6' T6 F6
      refine ⟨_, ?_, T6, F6⟩
      dsimp! [T.ix hh, fu', T.ix ha, r1, r2, r3, fr, eq1, fl, s4, s5', s6', nno]
    | some m =>
      have sm : SonOf (handOn (handOn s a) h) h m := ⟨x, p.eh, .inl el⟩
      have mh : m ≠ h := fun q => by subst q; exact p.no_self sm
      have ma : m ≠ a := fun q => by subst q; exact p.no_back sm
      obtain ⟨w, ew, _⟩ := p.R.son h m sm
      have hm : m < s.length := by have := lt_at ew; rwa [l2] at this
      obtain ⟨w3, ew3⟩ := at_of (s := tSteps (handOn (handOn s a) h) a h x y) (h := m) (by rw [l3]; exact hm)
      rw [el] at fl s4 s5' s6' T6 F6
      have ew6 : (((tSteps (handOn (handOn s a) h) a h x y).set a { y with right := some m, up := some h }).set h { x with up := y.up, left := some a })[m]? = some w3 := by
        rw [List.getElem?_set_ne (fun q => mh q.symm), List.getElem?_set_ne (fun q => ma q.symm)]; exact ew3
      have nns : ∀ S : Store, aNotN S (.dat (ov (some m))) (.dat .non) = some (.dat (.bl true)) := fun _ => rfl
      have s7 := st_up X T6 (t := []) ew6 (v := some a)
      rw [List.append_nil, List.append_nil] at s7
      have s7' : setF g.FL "up" (.obj (b + m)) (.dat (nv a)) (((S3.set (b + a) (stO g { y with right := some m })).set (b + h) (stO g { x with up := y.up, left := some a })).set (b + a) (stO g { y with right := some m, up := some h })) = _ := s7
      have T7 := T6.set (k := m) (by rw [List.length_set, List.length_set, l3]; exact hm) { w3 with up := some a }
      have ix6 : aIx (((S3.set (b + a) (stO g { y with right := some m })).set (b + h) (stO g { x with up := y.up, left := some a })).set (b + a) (stO g { y with right := some m, up := some h })) (.obj o) (.dat (ov (some m))) = some (.obj (b + m)) := T6.ix (by rw [List.length_set, List.length_set, l3]; exact hm)
      simp only
      rw [modAt_eq ew6]
      refine ⟨_, ?_, T7, F6.trans (Fr.set hm)⟩
      dsimp! [T.ix hh, fu', T.ix ha, r1, r2, r3, fr, eq1, fl, s4, s5', s6', nns, ix6, s7']
  · have em : mid x y h = x.right := if_neg r
    rw [em]
    simp only [r, if_false]
    have fl := fR_right X (T3.at_ h _ eh3)
    have s4 := st_left X T3 (t := []) ea3 (v := x.right)
    rw [List.append_nil, List.append_nil] at s4
    have T4 := T3.set (k := a) (by rw [l3]; exact ha) { y with left := x.right }
    have eh4 : ((tSteps (handOn (handOn s a) h) a h x y).set a { y with left := x.right })[h]? = some { x with up := y.up } := by rw [List.getElem?_set_ne ah]; exact eh3
    have s5 := st_right X T4 (t := []) eh4 (v := some a)
    rw [List.append_nil, List.append_nil] at s5
    have s5' : setF g.FL "right" (.obj (b + h)) (.dat (nv a)) (S3.set (b + a) (stO g { y with left := x.right })) = _ := s5
    have T5 := T4.set (k := h) (by rw [List.length_set, l3]; exact hh) { x with up := y.up, right := some a }
    have ea5 : (((tSteps (handOn (handOn s a) h) a h x y).set a { y with left := x.right }).set h { x with up := y.up, right := some a })[a]? = some { y with left := x.right } := by rw [List.getElem?_set_ne (fun q => ah q.symm)]; exact List.getElem?_set_self (by rw [l3]; exact ha)
    have s6 := st_up X T5 (t := []) ea5 (v := some h)
    rw [List.append_nil, List.append_nil] at s6
    have s6' : setF g.FL "up" (.obj (b + a)) (.dat (nv h)) ((S3.set (b + a) (stO g { y with left := x.right })).set (b + h) (stO g { x with up := y.up, right := some a })) = _ := s6
    have T6 := T5.set (k := a) (by rw [List.length_set, List.length_set, l3]; exact ha) { y with left := x.right, up := some h }
    have sw : ((((tSteps (handOn (handOn s a) h) a h x y).set a { y with left := x.right }).set h { x with up := y.up, right := some a }).set a { y with left := x.right, up := some h }) = ((tSteps (handOn (handOn s a) h) a h x y).set a { y with left := x.right, up := some h }).set h { x with up := y.up, right := some a } := by
      rw [List.set_comm _ _ (fun q => ah q.symm), List.set_set]
    rw [sw] at T6
    have F6 := ((F.trans (Fr.set (z := stO g { y with left := x.right }) ha)).trans (Fr.set (z := stO g { x with up := y.up, right := some a }) hh)).trans (Fr.set (z := stO g { y with left := x.right, up := some h }) ha)
    have eq1 : aEq S3 (.dat (ov y.right)) (.dat (nv h)) = some (.dat (.bl false)) := by rw [eq_on, decide_eq_false r]
    cases el : x.right with
    | none =>
      have nno : ∀ S : Store, aNotN S (.dat (ov none)) (.dat .non) = some (.dat (.bl false)) := fun _ => rfl
      rw [el] at fl s4 s5' s6' T6 F6
      refine ⟨_, ?_, T6, F6⟩
      dsimp! [T.ix hh, fu', T.ix ha, r1, r2, r3, fr, eq1, fl, s4, s5', s6', nno]
    | some m =>
      have sm : SonOf (handOn (handOn s a) h) h m := ⟨x, p.eh, .inr el⟩
      have mh : m ≠ h := fun q => by subst q; exact p.no_self sm
      have ma : m ≠ a := fun q => by subst q; exact p.no_back sm
      obtain ⟨w, ew, _⟩ := p.R.son h m sm
      have hm : m < s.length := by have := lt_at ew; rwa [l2] at this
      obtain ⟨w3, ew3⟩ := at_of (s := tSteps (handOn (handOn s a) h) a h x y) (h := m) (by rw [l3]; exact hm)
      rw [el] at fl s4 s5' s6' T6 F6
      have ew6 : (((tSteps (handOn (handOn s a) h) a h x y).set a { y with left := some m, up := some h }).set h { x with up := y.up, right := some a })[m]? = some w3 := by
        rw [List.getElem?_set_ne (fun q => mh q.symm), List.getElem?_set_ne (fun q => ma q.symm)]; exact ew3
      have nns : ∀ S : Store, aNotN S (.dat (ov (some m))) (.dat .non) = some (.dat (.bl true)) := fun _ => rfl
      have s7 := st_up X T6 (t := []) ew6 (v := some a)
      rw [List.append_nil, List.append_nil] at s7
      have s7' : setF g.FL "up" (.obj (b + m)) (.dat (nv a)) (((S3.set (b + a) (stO g { y with left := some m })).set (b + h) (stO g { x with up := y.up, right := some a })).set (b + a) (stO g { y with left := some m, up := some h })) = _ := s7
      have T7 := T6.set (k := m) (by rw [List.length_set, List.length_set, l3]; exact hm) { w3 with up := some a }
      have ix6 : aIx (((S3.set (b + a) (stO g { y with left := some m })).set (b + h) (stO g { x with up := y.up, right := some a })).set (b + a) (stO g { y with left := some m, up := some h })) (.obj o) (.dat (ov (some m))) = some (.obj (b + m)) := T6.ix (by rw [List.length_set, List.length_set, l3]; exact hm)
      simp only
      rw [modAt_eq ew6]
      refine ⟨_, ?_, T7, F6.trans (Fr.set hm)⟩
      dsimp! [T.ix hh, fu', T.ix ha, r1, r2, r3, fr, eq1, fl, s4, s5', s6', nns, ix6, s7']
theorem shape_of_t : mScope (m_shape_of g) [.obj o] S = .ok (.dat (shP s)) S := by
  have n64 := R.n64
  have l6 : (6 : Nat) ≤ 100000 := by decide
  refine scope_u (t := []) ?_ rfl T.cl
  rw [List.append_nil]
  have lc : mLc (mWalk (mVar 0)) (gmName 1) mYes (mTup (mCons (mFld g.FL "up" (mVar 1)) (mCons (mFld g.FL "left" (mVar 1)) (mCons (mFld g.FL "right" (mVar 1)) (mCons (mFld g.FL "turned" (mVar 1)) (mCons (mFld g.FL "added" (mVar 1)) (mCons (mFld g.FL "value" (mVar 1)) mNil))))))) [1] [some (.obj o), none] S = .ok ((s.map hsP).map .dat) S := by
    have e := lc_ob (S := S) (S1 := S) (o := o) (gm := gmName 1) (t := mYes) (e := mTup (mCons (mFld g.FL "up" (mVar 1)) (mCons (mFld g.FL "left" (mVar 1)) (mCons (mFld g.FL "right" (mVar 1)) (mCons (mFld g.FL "turned" (mVar 1)) (mCons (mFld g.FL "added" (mVar 1)) (mCons (mFld g.FL "value" (mVar 1)) mNil))))))) (vs := [1]) (δ := [some (.obj o), none]) (w := mWalk (mVar 0)) (xs := List.range s.length) (fun k => .obj (b + k)) (fun k => hsP (s.getD k ⟨none, none, none, false, 0, 0⟩)) (walk_o rfl T.lst) T.lst (by rw [List.length_range]; omega) fun k m => ⟨_, rfl, rfl, by
      obtain ⟨x, ex⟩ := at_of (s := s) (List.mem_range.mp m)
      have eg : s.getD k ⟨none, none, none, false, 0, 0⟩ = x := by rw [List.getD_eq_getElem?_getD, ex]; rfl
      have tk := T.at_ k x ex
      rw [eg]
      unfold mFld
      dsimp! [fR_up X tk, fR_left X tk, fR_right X tk, fR_turned X tk, fR_added X tk, fR_value X tk, l6]
      rfl⟩
    rw [e]
    congr 2
    refine List.ext_getElem? fun k => ?_
    rw [List.getElem?_map, List.getElem?_map]
    by_cases q : k < s.length
    · obtain ⟨x, ex⟩ := at_of q
      rw [List.getElem?_range q, ex]
      show some (hsP (s.getD k _)) = some (hsP x)
      rw [List.getD_eq_getElem?_getD, ex]; rfl
    · rw [List.getElem?_eq_none (by simpa using q), List.getElem?_eq_none (by omega)]; rfl
  unfold m_shape_of
  dsimp! [lc]
  rfl
end
end W3
namespace W3
open PySem PySem.Spec PyProof.Rows L2 M3
section
variable {g : G} (X : Gx g) {S : Store} {b o : Nat} {s : Shp} (T : St g S b o s) (R : RS s)
include X T R
theorem need_t {h : Nat} (hh : h < s.length) : mScope (m_need_house g) [.obj o, .dat (nv h)] S = .ok (.dat .non) S := by
  refine scope_u (t := []) ?_ rfl T.cl
  rw [List.append_nil]
  have e := house_ok g hh S
  have e' : mPure (m_is_house g) [.dat (.int (s.length : Int)), .dat (nv h)] S = .ok (.dat (.bl true)) S := e
  unfold m_need_house
  dsimp! [T.len, e']
end
end W3
namespace W3
open PySem PySem.Spec PyProof.Rows L2 M3
section
variable {g : G} (X : Gx g) {s : Shp} (R : RS s)
include X R
theorem handed_on_t {h : Nat} (hh : h < s.length) (S : Store) : mPure (m_handed_on g) [.dat (shP s), .dat (nv h)] S = .ok (.dat (shP (handOn s h))) S := by
  obtain ⟨S', e, T, _⟩ := stands0 X R
  obtain ⟨S2, e2, T2, F⟩ := hand_on_t X T R hh
  obtain ⟨x, ex⟩ := at_of hh
  refine pure_dat rfl (S' := S2) ?_
  unfold m_handed_on
  dsimp! [e, need_t X T R hh, e2, shape_of_t X T2 (handOn_rs ex R)]
theorem turned_up_t {a h : Nat} (so : SonOf s a h) (S : Store) : mPure (m_turned_up g) [.dat (shP s), .dat (nv h)] S = .ok (.dat (shP (turnUp s h))) S := by
  obtain ⟨S', e, T, _⟩ := stands0 X R
  obtain ⟨x0, ex0, hx0⟩ := R.son a h so
  have hh := lt_at ex0
  obtain ⟨S2, e2, T2, F⟩ := turn_up_t X T R so
  have it := is_top_t X T R hh
  have sb : sonB s h = true := R.sonB.mpr ⟨a, so⟩
  refine pure_dat rfl (S' := S2) ?_
  unfold m_turned_up
  dsimp! [e, need_t X T R hh, it, sb, e2, shape_of_t X T2 (turnUp_rs R so).1]
end
end W3
namespace W3
open PySem PySem.Spec PyProof.Rows L2 M3
section
variable {g : G} (X : Gx g)
include X
theorem stands_no {p : P} (h : Odd g p) (n : ¬ ShR p) : m_stands_of g [.dat p] [] = .exc g.NoShape none [] := by
  obtain ⟨b, e, hb⟩ := is_shape_any X h []
  have : b = false := by
    cases b with
    | false => rfl
    | true => exact (n (hb.mp rfl)).elim
  subst this
  unfold m_stands_of
  dsimp! [e]
theorem rows_no {p : P} (h : Odd g p) (n : ¬ ShR p) (S : Store) : mPure (m_rows g) [.dat p] S = .exc g.NoShape none S := by
  refine pure_exc rfl (S' := []) ?_
  unfold m_rows
  dsimp! [stands_no X h n]
theorem told_no {p : P} (h : Odd g p) (n : ¬ ShR p) (S : Store) : mPure (m_told_forest g) [.dat p] S = .exc g.NoShape none S := by
  refine pure_exc rfl (S' := []) ?_
  unfold m_told_forest
  dsimp! [stands_no X h n]
theorem weights_no {p : P} (h : Odd g p) (n : ¬ ShR p) (S : Store) : mPure (m_weights g) [.dat p] S = .exc g.NoShape none S := by
  refine pure_exc rfl (S' := []) ?_
  unfold m_weights
  dsimp! [stands_no X h n]
theorem pot_no {p : P} (h : Odd g p) (n : ¬ ShR p) (S : Store) : mPure (m_potential g) [.dat p] S = .exc g.NoShape none S := by
  refine pure_exc rfl (S' := []) ?_
  unfold m_potential
  dsimp! [stands_no X h n]
theorem handed_no {p q : P} (h : Odd g p) (n : ¬ ShR p) (S : Store) : mPure (m_handed_on g) [.dat p, .dat q] S = .exc g.NoShape none S := by
  refine pure_exc rfl (S' := []) ?_
  unfold m_handed_on
  dsimp! [stands_no X h n]
theorem turned_no {p q : P} (h : Odd g p) (n : ¬ ShR p) (S : Store) : mPure (m_turned_up g) [.dat p, .dat q] S = .exc g.NoShape none S := by
  refine pure_exc rfl (S' := []) ?_
  unfold m_turned_up
  dsimp! [stands_no X h n]
theorem need_no {s : Shp} {S1 : Store} (T1 : St g S1 0 s.length s) {q : P} (h : Odd g q) (n : bet 0 ((s.length : Int) - 1) q = false) : mScope (m_need_house g) [.obj s.length, .dat q] S1 = .exc g.NoHouse none S1 := by
  have e0 : m_need_house g [.obj s.length, .dat q] S1 = .exc g.NoHouse none S1 := by
    unfold m_need_house
    dsimp! [T1.len, is_house_o X h, n]
  unfold mScope
  rw [e0]
  simp only [List.take_length]
  rw [if_pos (all_of T1.cl)]
theorem handed_house {s : Shp} (R : RS s) {q : P} (h : Odd g q) (n : bet 0 ((s.length : Int) - 1) q = false) (S : Store) : mPure (m_handed_on g) [.dat (shP s), .dat q] S = .exc g.NoHouse none S := by
  obtain ⟨S1, e1, T1, _⟩ := stands0 X R
  have en := need_no X T1 h n
  refine pure_exc rfl (S' := S1) ?_
  unfold m_handed_on
  dsimp! [e1, en]
theorem turned_house {s : Shp} (R : RS s) {q : P} (h : Odd g q) (n : bet 0 ((s.length : Int) - 1) q = false) (S : Store) : mPure (m_turned_up g) [.dat (shP s), .dat q] S = .exc g.NoHouse none S := by
  obtain ⟨S1, e1, T1, _⟩ := stands0 X R
  have en := need_no X T1 h n
  refine pure_exc rfl (S' := S1) ?_
  unfold m_turned_up
  dsimp! [e1, en]
theorem turned_top {s : Shp} (R : RS s) {h : Nat} (hh : h < s.length) (n : sonB s h = false) (S : Store) : mPure (m_turned_up g) [.dat (shP s), .dat (nv h)] S = .exc g.NoTurn none S := by
  obtain ⟨S1, e1, T1, _⟩ := stands0 X R
  have it := is_top_t X T1 R hh
  rw [n] at it
  refine pure_exc rfl (S' := S1) ?_
  unfold m_turned_up
  dsimp! [e1, need_t X T1 R hh, it]
theorem rank_any {q : P} (h : Odd g q) (S : Store) : (∃ k : Nat, 1 ≤ k ∧ q = .int (k : Int) ∧ mPure (m_rank g) [.dat q] S = .ok (.dat (.int ((Nat.log2 k : Nat) : Int))) S) ∨ ((∀ k : Nat, 1 ≤ k → q ≠ .int (k : Int)) ∧ mPure (m_rank g) [.dat q] S = .exc g.NoNumber none S) := by
  by_cases c : ∃ k : Nat, 1 ≤ k ∧ q = .int (k : Int)
  · obtain ⟨k, hk, rfl⟩ := c
    exact .inl ⟨k, hk, rfl, rank_t g hk S⟩
  · refine .inr ⟨fun k hk e => c ⟨k, hk, e⟩, pure_exc rfl (S' := []) ?_⟩
    unfold m_rank
    cases h with
    | int =>
      rename_i i
      have d1 : decide (i < 1) = true := decide_eq_true (by
        apply Classical.byContradiction
        intro z
        exact c ⟨i.toNat, by omega, by rw [Int.toNat_of_nonneg (by omega)]⟩)
      dsimp! [is_integer_i, d1]
    | non => dsimp! [is_integer_o X .non, isIP]
    | bl => dsimp! [is_integer_o X .bl, isIP]
    | str => dsimp! [is_integer_o X .str, isIP]
    | dic => dsimp! [is_integer_o X .dic, isIP]
    | frs =>
      rename_i ps ws
      have e : mPure (m_is_integer g) [.dat (forP g ps ws)] [] = .ok (.dat (.bl false)) [] := is_integer_o X .frs
      dsimp! [e]
    | tup hh => dsimp! [is_integer_o X (.tup hh), isIP]
    | lst hh => dsimp! [is_integer_o X (.lst hh), isIP]
end
theorem Lj_son {g : G} {s : Shp} (R : RS s) {h : Nat} (hh : h < s.length) (S : Store) : mPure (m_L_is_son g) [.dat (shP s), .dat (nv h)] S = .ok (.dat (.bl (sonB s h))) S := by
  obtain ⟨x, ex⟩ := at_of hh
  refine pure_dat rfl (S' := []) ?_
  have ix : aIx ([] : Store) (.dat (shP s)) (.dat (nv h)) = some (.dat (hsP x)) := hsP_at ex
  have i0 : aIx ([] : Store) (.dat (hsP x)) (.dat (.int 0)) = some (.dat (ov x.up)) := rfl
  unfold m_L_is_son mSl moS
  cases eu : x.up with
  | none =>
    have eb : sonB s h = false := by unfold sonB; rw [ex]; simp only [eu]
    rw [eu] at i0
    have nn : ∀ S : Store, aNotN S (.dat (ov none)) (.dat .non) = some (.dat (.bl false)) := fun _ => rfl
    dsimp! [ix, i0, nn, eb]
  | some u =>
    obtain ⟨y, ey⟩ := at_of (R.up_lt ex eu)
    have eb : sonB s h = (decide (y.left = some h) || decide (y.right = some h)) := by unfold sonB; rw [ex]; simp only [eu, ey]
    rw [eu] at i0
    have nn : ∀ S : Store, aNotN S (.dat (ov (some u))) (.dat .non) = some (.dat (.bl true)) := fun _ => rfl
    have iy : aIx ([] : Store) (.dat (shP s)) (.dat (ov (some u))) = some (.dat (hsP y)) := hsP_at ey
    have sl : aSl ([] : Store) (.dat (hsP y)) (some 1) (some 3) = some (.dat (.tup [ov y.left, ov y.right])) := rfl
    have it := in_two (S := ([] : Store)) (h := h) (l := y.left) (r := y.right)
    dsimp! [ix, i0, nn, iy, sl, it, eb]
end W3
namespace W3
open PySem PySem.Spec PyProof.Rows L2 M3
def Par (od : List Nat) (ps : List (Option Nat)) : Prop := ∀ (k g : Nat), od[k]? = some g → ps[g]? = some none ∨ ∃ (j p : Nat), j < k ∧ od[j]? = some p ∧ ps[g]? = some (some p)
theorem par_set {od : List Nat} {ps : List (Option Nat)} (h : Par od ps) (nd : od.Nodup) {k g : Nat} (hk : od[k]? = some g) (hg : g < ps.length) {v : Option Nat} (hv : v = none ∨ ∃ (j p : Nat), j < k ∧ od[j]? = some p ∧ v = some p) : Par od (ps.set g v) := by
  intro k' g' hk'
  by_cases e : g = g'
  · subst e
    have ek : k = k' := nd_ix nd hk hk'
    subst ek
    rw [List.getElem?_set_self hg]
    rcases hv with rfl | ⟨j, p, hj, hp, rfl⟩
    · exact .inl rfl
    · exact .inr ⟨j, p, hj, hp, rfl⟩
  · rw [List.getElem?_set_ne e]
    exact h k' g' hk'
theorem par_tree {od : List Nat} {ps : List (Option Nat)} (h : Par od ps) {n : Nat} (hp : od.Perm (List.range n)) (hn : ps.length = n) : W2.Tree ps := by
  refine W2.tree_ord (o := od) (by rw [hp.length_eq, List.length_range, hn]) (fun x hx => ?_) h
  have : x ∈ od := hp.mem_iff.mpr (List.mem_range.mpr (by omega))
  obtain ⟨i, hi, e⟩ := List.getElem_of_mem this
  exact ⟨i, List.getElem?_eq_some_iff.mpr ⟨hi, e⟩⟩
def nvs (l : List Nat) : List D := l.map fun k => .dat (nv k)
theorem nvs_at {l : List Nat} {k x : Nat} (h : l[k]? = some x) : (nvs l)[k]? = some (.dat (.int (x : Int))) := by unfold nvs; rw [List.getElem?_map, h]; rfl
theorem nvs_len {l : List Nat} : (nvs l).length = l.length := List.length_map ..
theorem nvs_lt (l : List Nat) (n : Nat) : (nvs l).all (D.lt n) = true := by
  unfold nvs; rw [List.all_map]; exact List.all_eq_true.mpr fun _ _ => rfl
theorem rngD_nvs (n : Nat) : rngD 0 n = nvs (List.range n) := rngD0 n
end W3
namespace W3
open PySem PySem.Spec PyProof.Rows L2 M3
def hdO (ns : List Int) (i b s c : Int) : O := .lst [.dat (.lst (ns.map .int)), .dat (.int i), .dat (.int b), .dat (.int s), .dat (.int c)]
def Hd (o : O) : Prop := ∃ ns i b s c, o = hdO ns i b s c ∧ 0 ≤ i ∧ 0 ≤ b ∧ 0 ≤ s ∧ s < 2147483647
theorem hd_lt {h : O} (H : Hd h) (n : Nat) : O.lt n h = true := by
  obtain ⟨ns, i, b, s, c, rfl, _⟩ := H
  rfl
theorem draw_h (g : G) {h : O} {rest : Store} {n : Int} (H : Hd h) (n0 : 0 < n) (n1 : n < 2 ^ 60) : ∃ (r : Nat) (h' : O), (r : Int) < n ∧ Hd h' ∧ m_L_draw g [.obj 0, .dat (.int n)] (h :: rest) = .ok (.dat (.int (r : Int))) (h' :: rest) := by
  obtain ⟨ns, i, b, s, c, rfl, i0, b0, s0, s1⟩ := H
  have ix : ∀ (a b c d e : D) (r : Store) (k : Int), aIx (.lst [a, b, c, d, e] :: r) (.obj 0) (.dat (.int k)) = atI [a, b, c, d, e] k := fun _ _ _ _ _ _ _ => rfl
  have a0 : ∀ (a b c d e : D), atI [a, b, c, d, e] 0 = some a := fun _ _ _ _ _ => rfl
  have a1 : ∀ (a b c d e : D), atI [a, b, c, d, e] 1 = some b := fun _ _ _ _ _ => rfl
  have a2 : ∀ (a b c d e : D), atI [a, b, c, d, e] 2 = some c := fun _ _ _ _ _ => rfl
  have a3 : ∀ (a b c d e : D), atI [a, b, c, d, e] 3 = some d := fun _ _ _ _ _ => rfl
  have a4 : ∀ (a b c d e : D), atI [a, b, c, d, e] 4 = some e := fun _ _ _ _ _ => rfl
  have t1 : ∀ (a b c d e v : D) (r : Store), setD (.obj 0) (.dat (.int 1)) v (.lst [a, b, c, d, e] :: r) = some (.lst [a, v, c, d, e] :: r) := fun _ _ _ _ _ _ _ => rfl
  have t2 : ∀ (a b c d e v : D) (r : Store), setD (.obj 0) (.dat (.int 2)) v (.lst [a, b, c, d, e] :: r) = some (.lst [a, b, v, d, e] :: r) := fun _ _ _ _ _ _ _ => rfl
  have t3 : ∀ (a b c d e v : D) (r : Store), setD (.obj 0) (.dat (.int 3)) v (.lst [a, b, c, d, e] :: r) = some (.lst [a, b, c, v, e] :: r) := fun _ _ _ _ _ _ _ => rfl
  have t4 : ∀ (a b c d e v : D) (r : Store), setD (.obj 0) (.dat (.int 4)) v (.lst [a, b, c, d, e] :: r) = some (.lst [a, b, c, d, v] :: r) := fun _ _ _ _ _ _ _ => rfl
  have nn : ∀ x : Int, ∃ r : Nat, x % n = (r : Int) ∧ (r : Int) < n := fun x => ⟨(x % n).toNat, (Int.toNat_of_nonneg (Int.emod_nonneg x (by omega))).symm, by rw [Int.toNat_of_nonneg (Int.emod_nonneg x (by omega))]; exact Int.emod_lt_of_pos x n0⟩
  have pw : ∀ S : Store, aPow S (.dat (.int 10)) (.dat (.int 18)) = some (.dat (.int 1000000000000000000)) := fun S => pow_ii (by decide) (by decide) (by decide)
  suffices z : ∃ (x : Int) (h' : O), Hd h' ∧ m_L_draw g [.obj 0, .dat (.int n)] (hdO ns i b s c :: rest) = .ok (.dat (.int (x % n))) (h' :: rest) by
    obtain ⟨x, h', H, e⟩ := z
    obtain ⟨r, er, r1⟩ := nn x
    exact ⟨r, h', r1, H, er ▸ e⟩
  have mr0 : ∀ (S : Store) (x : Int), aMul S (.dat (.int x)) (.dat (.int 16)) = some (.dat (.int (x * 16))) := fun _ _ => mul_r (by decide)
  have mr1 : ∀ (S : Store) (x : Int), aMul S (.dat (.int x)) (.dat (.int 48271)) = some (.dat (.int (x * 48271))) := fun _ _ => mul_r (by decide)
  have mr2 : ∀ (S : Store) (x : Int), aMul S (.dat (.int x)) (.dat (.int 69621)) = some (.dat (.int (x * 69621))) := fun _ _ => mul_r (by decide)
  have ml1 : ∀ (S : Store) (x : Int), aMul S (.dat (.int 7919)) (.dat (.int x)) = some (.dat (.int (7919 * x))) := fun _ _ => mul_l (by decide)
  have mm : ∀ (S : Store) (x y : Int), aMul S (.dat (.int (x % 2147483647))) (.dat (.int y)) = some (.dat (.int (x % 2147483647 * y))) := fun _ _ _ => mul_l (by omega)
  have dv1 : ∀ (S : Store) (x : Int), aDiv S (.dat (.int x)) (.dat (.int 1009)) = some (.dat (.int (x / 1009))) := fun _ _ => div_ii (by decide) (by decide)
  have dv2 : ∀ (S : Store) (x : Int), aDiv S (.dat (.int x)) (.dat (.int 2003)) = some (.dat (.int (x / 2003))) := fun _ _ => div_ii (by decide) (by decide)
  have dv3 : ∀ (S : Store) (x : Int), aDiv S (.dat (.int x)) (.dat (.int 16)) = some (.dat (.int (x / 16))) := fun _ _ => div_ii (by decide) (by decide)
  have md0 : ∀ (S : Store) (x : Int), aMod S (.dat (.int x)) (.dat (.int 2147483629)) = some (.dat (.int (x % 2147483629))) := fun _ _ => mod_ii (by decide)
  have md1 : ∀ (S : Store) (x : Int), aMod S (.dat (.int x)) (.dat (.int 2147483647)) = some (.dat (.int (x % 2147483647))) := fun _ _ => mod_ii (by decide)
  have md2 : ∀ (S : Store) (x : Int), aMod S (.dat (.int x)) (.dat (.int 2147483399)) = some (.dat (.int (x % 2147483399))) := fun _ _ => mod_ii (by decide)
  unfold m_L_draw hdO
  by_cases hb : b = 0
  · subst hb
    by_cases hi : i < (ns.length : Int)
    · have dh : decide (i < (ns.length : Int)) = true := decide_eq_true hi
      obtain ⟨cell, ec⟩ : ∃ cell, ns[i.toNat]? = some cell := ⟨_, List.getElem?_eq_getElem (by omega)⟩
      have ec2 : ∀ S, aIx S (.dat (.lst (ns.map .int))) (.dat (.int i)) = some (.dat (.int cell)) := fun S => ix_l (atI_of i0 (map_get ec))
      by_cases hc : 1000000000000000000 ≤ cell
      · have d2 : decide (0 < cell) = true := decide_eq_true (by omega)
        refine ⟨?x1, hdO ns ?a1 ?b1 ?c1 ?d1, ?h1, ?run1⟩
        case run1 =>
          dsimp! [ix, a0, a1, a2, a3, a4, t1, t2, t3, t4, mod_ii n0, div_ii n0 (show n < 2 ^ 64 by omega), List.length_map, dh, ec2, pw, mr0, mr2, md0, decide_eq_true hc, d2]
          rfl
        case h1 => exact ⟨_, _, _, _, _, rfl, by omega, Int.ediv_nonneg (by omega) (by omega), by omega, by omega⟩
      · refine ⟨?x2, hdO ns ?a2 ?b2 ?c2 ?d2, ?h2, ?run2⟩
        case run2 =>
          dsimp! [ix, a0, a1, a2, a3, a4, t1, t2, t3, t4, mod_ii n0, List.length_map, dh, ec2, pw, decide_eq_false hc, mr0, mr1, mr2, ml1, mm, dv1, dv2, dv3, md0, md1, md2]
          rfl
        case h2 => exact ⟨_, _, _, _, _, rfl, by omega, by omega, by omega, by omega⟩
    · have dh : decide (i < (ns.length : Int)) = false := decide_eq_false hi
      refine ⟨?x3, hdO ns ?a3 ?b3 ?c3 ?d3, ?h3, ?run3⟩
      case run3 =>
        dsimp! [ix, a0, a1, a2, a3, a4, t1, t2, t3, t4, mod_ii n0, List.length_map, dh, pw, mr1, mr2, ml1, mm, dv1, dv2, dv3, md1, md2]
        rfl
      case h3 => exact ⟨_, _, _, _, _, rfl, by omega, by omega, by omega, by omega⟩
  · have d1 : decide (b = 0) = false := decide_eq_false hb
    have d2 : decide (0 < b) = true := decide_eq_true (by omega)
    refine ⟨b, hdO ns i (b / n) s c, ⟨_, _, _, _, _, rfl, i0, Int.ediv_nonneg b0 (by omega), s0, s1⟩, ?_⟩
    unfold hdO
    dsimp! [ix, a0, a1, a2, a3, a4, t1, t2, t3, t4, d1, d2, mod_ii n0, div_ii n0 (show n < 2 ^ 64 by omega)]
/-- closed stores behind the hand -/
def Cs (rest : Store) : Prop := ∀ (j : Nat) (w : O), rest[j]? = some w → O.lt (rest.length + 1) w = true
theorem cs_nil : Cs [] := fun j w e => by simp at e
theorem cs_hand {h : O} {rest : Store} (H : Hd h) (hc : Cs rest) : ∀ (j : Nat) (w : O), (h :: rest)[j]? = some w → O.lt (h :: rest).length w = true := fun j w e => by
  cases j with
  | zero => cases e; exact hd_lt H _
  | succ j => exact hc j w e
theorem draw_s (g : G) {h : O} {rest : Store} {n : Int} (H : Hd h) (n0 : 0 < n) (n1 : n < 2 ^ 60) (hc : Cs rest) : ∃ (r : Nat) (h' : O), (r : Int) < n ∧ Hd h' ∧ mScope (m_L_draw g) [.obj 0, .dat (.int n)] (h :: rest) = .ok (.dat (.int (r : Int))) (h' :: rest) := by
  obtain ⟨r, h', a, b, e⟩ := draw_h g H n0 n1 (rest := rest)
  exact ⟨r, h', a, b, scope_u (t := []) (by rw [List.append_nil]; exact e) rfl (cs_hand b hc)⟩
theorem hand8 (g : G) (ns : List Int) : ∃ h, Hd h ∧ m_L_hand g [.dat (.scr ns)] [] = .ok (.obj 0) [h] := by
  have lx : (ns.take 63).length ≤ 63 := by rw [List.length_take]; omega
  have sl : ∀ S : Store, aSl S (.dat (.scr ns)) none (some 63) = some (.dat (.lst ((ns.take 63).map .int))) := fun S => by
    show some (D.dat (.lst ((cutL ns none (some ((63 : Nat) : Int))).map .int))) = _
    rw [cut_take]
  refine ⟨hdO (ns.take 63) 0 0 (1 + ((ns.take 63).length : Int)) 0, ⟨_, _, _, _, _, rfl, by omega, by omega, by omega, by omega⟩, ?_⟩
  have lc : mLc (mWalk (mSl (mVar 0) moN (moS (mC (.int 63))))) (gmName 1) mYes (mCall aInt (mCons (mVar 1) mNil)) [1] [some (.dat (.scr ns)), none] [] = .ok (((ns.take 63).map P.int).map .dat) [] :=
    lc_all (xs := ns.take 63) (fun i => .dat (.int i)) (fun i => .int i) (by rw [walk_l (l := (ns.take 63).map .int) (S1 := []) (by unfold mSl moN moS; dsimp! [sl]), List.map_map]; rfl) (by omega) fun i m => ⟨_, rfl, rfl, by dsimp! []⟩
  have sle : mSl (mVar 0) moN (moS (mC (.int 63))) [some (.dat (.scr ns)), none] [] = .ok (.dat (.lst ((ns.take 63).map .int))) [] := by unfold mSl moN moS; dsimp! [sl]
  unfold m_L_hand
  dsimp! [lc, sle, List.length_map]
  rfl
theorem value8 (g : G) {h : O} {rest : Store} (H : Hd h) (hc : Cs rest) : ∃ (i : Int) (h' : O), Hd h' ∧ mScope (m_L_value g) [.obj 0] (h :: rest) = .ok (.dat (.int i)) (h' :: rest) := by
  obtain ⟨r, h1, hr, H1, e1⟩ := draw_s g H (n := 8) (by omega) (by omega) hc
  have pw1 : ∀ S : Store, aPow S (.dat (.int 10)) (.dat (.int 18)) = some (.dat (.int 1000000000000000000)) := fun S => pow_ii (by decide) (by decide) (by decide)
  have pw2 : ∀ S : Store, aPow S (.dat (.int 2)) (.dat (.int 62)) = some (.dat (.int 4611686018427387904)) := fun S => pow_ii (by decide) (by decide) (by decide)
  have pw3 : ∀ S : Store, aPow S (.dat (.int 10)) (.dat (.int 9)) = some (.dat (.int 1000000000)) := fun S => pow_ii (by decide) (by decide) (by decide)
  have l6 : (6 : Nat) ≤ 100000 := by decide
  by_cases c : (r : Int) = 0
  · obtain ⟨k, h2, hk, H2, e2⟩ := draw_s g H1 (n := 6) (by omega) (by omega) hc
    let L : List P := [.int 1000000000000000000, .int (-1000000000000000000), .int 4611686018427387904, .int (-1), .int 0, .int 1000000000]
    have hk' : k < L.length := by show k < 6; omega
    have ek : L[k]? = some L[k] := List.getElem?_eq_getElem hk'
    obtain ⟨i, ei⟩ : ∃ i, L[k] = .int i := by
      have m := List.mem_of_getElem? ek
      generalize L[k] = p at m
      simp only [L, List.mem_cons, List.mem_nil_iff, or_false] at m
      rcases m with rfl | rfl | rfl | rfl | rfl | rfl <;> exact ⟨_, rfl⟩
    rw [ei] at ek
    have ix : ∀ S : Store, aIx S (.dat (.lst [.int 1000000000000000000, .int (-1000000000000000000), .int 4611686018427387904, .int (-1), .int 0, .int 1000000000])) (.dat (.int (k : Int))) = some (.dat (.int i)) := fun S => ix_l (atN ek)
    refine ⟨i, h2, H2, scope_u (t := []) ?_ rfl (cs_hand H2 hc)⟩
    rw [List.append_nil]
    unfold m_L_value
    dsimp! [e1, decide_eq_true c, pw1, pw2, pw3, l6, e2, ix]
  · obtain ⟨k, h2, hk, H2, e2⟩ := draw_s g H1 (n := 41) (by omega) (by omega) hc
    refine ⟨(k : Int) - 20, h2, H2, scope_u (t := []) ?_ rfl (cs_hand H2 hc)⟩
    rw [List.append_nil]
    unfold m_L_value
    dsimp! [e1, decide_eq_false c, e2]
end W3
namespace W3
open PySem PySem.Spec PyProof.Rows L2 M3
def rO (x : Hs) : O := .lst ([ov x.up, ov x.left, ov x.right, .bl x.turned, .int x.added, .int x.value].map .dat)
def Sh (h : O) (s : Shp) : Store := h :: (s.map rO ++ [.lst ((List.range s.length).map fun k => .obj (1 + k))])
section
variable {h : O} {s : Shp}
theorem Sh_len : (Sh h s).length = s.length + 2 := by unfold Sh; simp
theorem Sh_row {k : Nat} {x : Hs} (e : s[k]? = some x) : (Sh h s)[1 + k]? = some (rO x) := by
  unfold Sh
  rw [Nat.add_comm, List.getElem?_cons_succ, List.getElem?_append_left (by rw [List.length_map]; exact lt_at e), List.getElem?_map, e]; rfl
theorem Sh_lst : (Sh h s)[s.length + 1]? = some (.lst ((List.range s.length).map fun k => .obj (1 + k))) := by
  unfold Sh
  rw [List.getElem?_cons_succ, List.getElem?_append_right (by rw [List.length_map]; exact Nat.le_refl _)]; simp
theorem Sh_ix {k : Nat} (hk : k < s.length) : aIx (Sh h s) (.obj (s.length + 1)) (.dat (nv k)) = some (.obj (1 + k)) := ix_o Sh_lst (atN (by rw [List.getElem?_map, List.getElem?_range hk]; rfl))
theorem Sh_set {k : Nat} {x y : Hs} (e : s[k]? = some x) : (Sh h s).set (1 + k) (rO y) = Sh h (s.set k y) := by
  unfold Sh
  rw [Nat.add_comm, List.set_cons_succ, List.set_append_left _ _ (by rw [List.length_map]; exact lt_at e), List.map_set, List.length_set]
theorem Sh_cs (hd : Hd h) : ∀ (j : Nat) (w : O), (Sh h s)[j]? = some w → O.lt (Sh h s).length w = true := fun j w e => by
  rw [Sh_len]
  cases j with
  | zero => cases e; exact hd_lt hd _
  | succ j =>
    unfold Sh at e
    rw [List.getElem?_cons_succ] at e
    by_cases c : j < s.length
    · rw [List.getElem?_append_left (by rw [List.length_map]; exact c), List.getElem?_map] at e
      cases q : s[j]? with
      | none => rw [q] at e; cases e
      | some x => rw [q] at e; cases e; rfl
    · rw [List.getElem?_append_right (by rw [List.length_map]; omega)] at e
      have := List.mem_singleton.mp (List.mem_of_getElem? e)
      subst this
      show List.all _ _ = true
      rw [List.all_map]
      refine List.all_eq_true.mpr fun k m => ?_
      have := List.mem_range.mp m
      exact decide_eq_true (by omega)
theorem Sh_rest : Cs (s.map rO ++ [.lst ((List.range s.length).map fun k => .obj (1 + k))]) := fun j w e => by
  have := Sh_cs (h := hdO [] 0 0 0 0) (s := s) ⟨_, _, _, _, _, rfl, by omega, by omega, by omega, by omega⟩ (j + 1) w (by unfold Sh; exact e)
  rw [Sh_len] at this
  have l : (s.map rO ++ [O.lst ((List.range s.length).map fun k => .obj (1 + k))]).length + 1 = s.length + 2 := by simp
  rw [l]; exact this
variable {k : Nat} {x : Hs} (e : s[k]? = some x)
include e
theorem Sh_1 : aIx (Sh h s) (.obj (1 + k)) (.dat (.int 1)) = some (.dat (ov x.left)) := ix_o (Sh_row e) rfl
theorem Sh_2 : aIx (Sh h s) (.obj (1 + k)) (.dat (.int 2)) = some (.dat (ov x.right)) := ix_o (Sh_row e) rfl
theorem Sh_s0 {o : Option Nat} : setD (.obj (1 + k)) (.dat (.int 0)) (.dat (ov o)) (Sh h s) = some (Sh h (s.set k { x with up := o })) := by
  rw [setD_o (k := 0) (Sh_row e) rfl]
  exact congrArg some (Sh_set (y := { x with up := o }) e)
theorem Sh_s1 {o : Option Nat} : setD (.obj (1 + k)) (.dat (.int 1)) (.dat (ov o)) (Sh h s) = some (Sh h (s.set k { x with left := o })) := by
  rw [setD_o (k := 1) (Sh_row e) rfl]
  exact congrArg some (Sh_set (y := { x with left := o }) e)
theorem Sh_s2 {o : Option Nat} : setD (.obj (1 + k)) (.dat (.int 2)) (.dat (ov o)) (Sh h s) = some (Sh h (s.set k { x with right := o })) := by
  rw [setD_o (k := 2) (Sh_row e) rfl]
  exact congrArg some (Sh_set (y := { x with right := o }) e)
theorem Sh_s3 {o : Bool} : setD (.obj (1 + k)) (.dat (.int 3)) (.dat (.bl o)) (Sh h s) = some (Sh h (s.set k { x with turned := o })) := by
  rw [setD_o (k := 3) (Sh_row e) rfl]
  exact congrArg some (Sh_set (y := { x with turned := o }) e)
theorem Sh_s4 {o : Int} : setD (.obj (1 + k)) (.dat (.int 4)) (.dat (.int o)) (Sh h s) = some (Sh h (s.set k { x with added := o })) := by
  rw [setD_o (k := 4) (Sh_row e) rfl]
  exact congrArg some (Sh_set (y := { x with added := o }) e)
end
theorem shuf8 (g : G) {h : O} {n : Nat} (H : Hd h) (n64 : n ≤ 64) : ∃ (od : List Nat) (h' : O), od.Perm (List.range n) ∧ Hd h' ∧ mScope (m_L_shuffled g) [.obj 0, .dat (.int (n : Int))] [h] = .ok (.dat (.lst (od.map nv))) [h'] := by
  have c1 : ∀ l, Cs [.lst (nvs l)] := fun l j w e => by
    have := List.mem_singleton.mp (List.mem_of_getElem? e)
    subst this
    exact nvs_lt l _
  suffices z : ∃ d S', m_L_shuffled g [.obj 0, .dat (.int (n : Int))] [h] = .ok d S' ∧ ∃ (od : List Nat) (h' : O), od.Perm (List.range n) ∧ Hd h' ∧ d = .obj 1 ∧ S' = [h', .lst (nvs od)] by
    obtain ⟨d, S', e, od, h', pm, H', rfl, rfl⟩ := z
    have en : nvs od = (od.map nv).map .dat := by unfold nvs; rw [List.map_map]; rfl
    refine ⟨od, h', pm, H', scope_uo (S' := [h']) (t := [.lst (nvs od)]) e rfl (Nat.le_refl _) (cs_hand H' cs_nil) ?_⟩
    rw [en]; exact frz_o rfl
  unfold m_L_shuffled
  rw [mBody_fin]
  refine fin_ends ?_
  have en : -100000 ≤ (n : Int) ∧ (n : Int) ≤ 100000 := by omega
  unfold mListRg1
  dsimp! [if_pos en, Int.toNat_natCast, rngD_nvs]
  rw [for_items (rng1_ok (n := n) (by dsimp! [] <;> rfl) (by omega))]
  refine then_ends (Q1 := fun o S => ∃ (h : O) (x3 x4 : Option D) (od : List Nat), o = .nx [some (.obj 0), some (.dat (.int (n : Int))), some (.obj 1), x3, x4] ∧ S = [h, .lst (nvs od)] ∧ Hd h ∧ od.Perm (List.range n)) ?_ ?_
  · refine forL_ends (fun i δ S => ∃ (h : O) (x3 x4 : Option D) (od : List Nat), δ = [some (.obj 0), some (.dat (.int (n : Int))), some (.obj 1), x3, x4] ∧ S = [h, .lst (nvs od)] ∧ Hd h ∧ od.Perm (List.range n)) (i := 0) ⟨h, none, none, List.range n, rfl, rfl, H, .refl _⟩ ?_ ?_
    · rintro i d δ S hd ⟨h, x3, x4, od, rfl, rfl, H, pm⟩
      obtain ⟨hi, rfl⟩ := rngD_get hd
      rw [Int.zero_add]
      have lod : od.length = n := by rw [pm.length_eq, List.length_range]
      obtain ⟨r, h', hr, H', e⟩ := draw_s g H (n := (n : Int) - (i : Int)) (by omega) (by omega) (rest := [.lst (nvs od)]) (c1 od)
      have hj : (i : Int) + (r : Int) = ((i + r : Nat) : Int) := by omega
      have ej : od[i + r]? = some od[i + r] := List.getElem?_eq_getElem (by omega)
      have ei : od[i]? = some od[i] := List.getElem?_eq_getElem (by omega)
      have x1 : ∀ hh, aIx [hh, .lst (nvs od)] (.obj 1) (.dat (.int ((i + r : Nat) : Int))) = some (.dat (.int (od[i + r] : Int))) := fun hh => ix_o (S := [hh, .lst (nvs od)]) rfl (atN (nvs_at ej))
      have x2 : ∀ hh, aIx [hh, .lst (nvs od)] (.obj 1) (.dat (.int (i : Int))) = some (.dat (.int (od[i] : Int))) := fun hh => ix_o (S := [hh, .lst (nvs od)]) rfl (atN (nvs_at ei))
      have s1 : ∀ hh, setD (.obj 1) (.dat (.int (i : Int))) (.dat (.int (od[i + r] : Int))) [hh, .lst (nvs od)] = some [hh, .lst (nvs (od.set i od[i + r]))] := fun hh => by
        rw [setD_o (S := [hh, .lst (nvs od)]) rfl (ixN_nat (by rw [nvs_len]; omega))]
        unfold nvs; rw [List.map_set]; rfl
      have s2 : ∀ hh, setD (.obj 1) (.dat (.int ((i + r : Nat) : Int))) (.dat (.int (od[i] : Int))) [hh, .lst (nvs (od.set i od[i + r]))] = some [hh, .lst (nvs ((od.set i od[i + r]).set (i + r) od[i]))] := fun hh => by
        rw [setD_o (S := [hh, .lst (nvs (od.set i od[i + r]))]) rfl (ixN_nat (by rw [nvs_len, List.length_set]; omega))]
        unfold nvs; rw [List.map_set (l := od.set i od[i + r])]; rfl
      dsimp! [e, hj, x1, x2, s1, s2]
      exact .of (tm ⟨h', _, _, _, rfl, rfl, H', (List.set_set_perm (by omega) (by omega)).trans pm⟩)
    · rintro δ S ⟨h, x3, x4, od, rfl, rfl, H, pm⟩
      exact ⟨h, x3, x4, od, rfl, rfl, H, pm⟩
  · rintro o S ⟨h, x3, x4, od, rfl, rfl, H, pm⟩
    dsimp! []
    exact .of ⟨_, rfl, od, h, pm, H, rfl, rfl⟩
end W3
namespace W3
inductive Lr (s : Shp) : Nat → List Nat → Option Nat → Prop
  | top {h : Nat} {x : Hs} (e : s[h]? = some x) (n : ¬ Son s h) : Lr s h [h] x.up
  | son {h u : Nat} {l : List Nat} {o : Option Nat} (so : SonOf s u h) (t : Lr s u l o) : Lr s h (h :: l) o
theorem Lr.head {s : Shp} {h : Nat} {l : List Nat} {o : Option Nat} (t : Lr s h l o) : ∃ r, l = h :: r := by
  cases t with
  | top => exact ⟨_, rfl⟩
  | son => exact ⟨_, rfl⟩
/-- the houses above, from one that may be none -/
noncomputable def upO (s : Shp) (o : Option Nat) : List Nat := match o with
  | none => []
  | some q => W2.up (ups s) q
theorem lr_up {s : Shp} (R : RS s) {h : Nat} {l : List Nat} {o : Option Nat} (t : Lr s h l o) : W2.up (ups s) h = l ++ upO s o := by
  induction t with
  | @top h x e n =>
    cases q : x.up with
    | none => exact W2.up_of (W2.Ch.root (by rw [ups_at e, q]))
    | some u => exact W2.up_of (W2.Ch.step (by rw [ups_at e, q]) (R.tree u (by rw [ups_len]; exact R.up_lt e q)).1)
  | son so _ ih => rw [R.upc so, ih]; rfl
theorem Lr.lt {s : Shp} (R : RS s) {h : Nat} {l : List Nat} {o : Option Nat} (t : Lr s h l o) : h < s.length := by
  cases t with
  | top e n => exact lt_at e
  | son so t => obtain ⟨x, e, _⟩ := R.son _ _ so; exact lt_at e
theorem Lr.nodup {s : Shp} (R : RS s) {h : Nat} {l : List Nat} {o : Option Nat} (t : Lr s h l o) : l.Nodup := by
  have := (R.chain (t.lt R)).1.nodup
  rw [lr_up R t] at this
  exact (List.nodup_append.mp this).1
structure Mv (s s' : Shp) (L : List Nat) : Prop where
  R : RS s'
  len : s'.length = s.length
  told : ∀ ps ws, Told s ps ws → Told s' ps ws
  fr : ∀ (k : Nat) (z : Hs), s[k]? = some z → ¬ Son s k → k ∉ L → s'[k]? = some z ∧ ¬ Son s' k
  ch : ∀ (k : Nat) (l : List Nat), W2.Ch (ups s) k l → (∀ j ∈ L, j ∉ l) → W2.Ch (ups s') k l
theorem Mv.refl {s : Shp} (R : RS s) {L : List Nat} : Mv s s L := ⟨R, rfl, fun _ _ w => w, fun k z e n _ => ⟨e, n⟩, fun _ _ c _ => c⟩
theorem Mv.trans {s s' s'' : Shp} {L L' : List Nat} (m : Mv s s' L) (n : Mv s' s'' L') (h : ∀ k ∈ L', k ∈ L) : Mv s s'' L :=
  ⟨n.R, n.len.trans m.len, fun ps ws w => n.told ps ws (m.told ps ws w), fun k z e ns nl => by
    obtain ⟨e1, n1⟩ := m.fr k z e ns nl
    exact n.fr k z e1 n1 fun q => nl (h k q), fun k l c d => n.ch k l (m.ch k l c d) fun j hj => d j (h j hj)⟩
end W3
namespace W3
theorem Lr.one {s : Shp} {h : Nat} {o : Option Nat} (t : Lr s h [h] o) : ¬ Son s h ∧ ∃ x, s[h]? = some x ∧ o = x.up := by
  cases t with
  | top e n => exact ⟨n, _, e, rfl⟩
  | son so t => obtain ⟨r', e⟩ := t.head; cases e
end W3
namespace W3
theorem Lr.det {s : Shp} (R : RS s) {h : Nat} {l : List Nat} {o : Option Nat} (t : Lr s h l o) : ∀ {l' : List Nat} {o' : Option Nat}, Lr s h l' o' → l = l' ∧ o = o' := by
  induction t with
  | top e n =>
    intro l' o' t'
    cases t' with
    | top e' n' => rw [e] at e'; cases e'; exact ⟨rfl, rfl⟩
    | son so t' => exact absurd ⟨_, so⟩ n
  | son so t ih =>
    intro l' o' t'
    cases t' with
    | top e' n' => exact absurd ⟨_, so⟩ n'
    | son so' t' =>
      have := R.sonof_inj so so'
      subst this
      obtain ⟨a, b⟩ := ih t'
      exact ⟨by rw [a], b⟩
end W3
namespace W3
open PySem PySem.Spec PyProof.Rows L2 M3
def Fresh (x : Hs) : Prop := x.up = none ∧ x.left = none ∧ x.right = none
structure Gd (od : List Nat) (i : Nat) (s : Shp) : Prop where
  fresh : ∀ (k c : Nat) (x : Hs), i ≤ k → od[k]? = some c → s[c]? = some x → Fresh x
  par : Par od (ups s)
  son : ∀ (u h : Nat), SonOf s u h → ∃ x, s[h]? = some x ∧ x.up = some u
  ne : ∀ (u c : Nat) (y : Hs), s[u]? = some y → y.left = some c → y.right ≠ some c
theorem set_at {s : Shp} {k j : Nat} {y z : Hs} (e : (s.set k y)[j]? = some z) : (j = k ∧ k < s.length ∧ z = y) ∨ (j ≠ k ∧ s[j]? = some z) := by
  by_cases c : k = j
  · subst c
    have hl : k < s.length := by have := lt_at e; rwa [List.length_set] at this
    rw [List.getElem?_set_self hl] at e
    exact .inl ⟨rfl, hl, (Option.some.inj e).symm⟩
  · rw [List.getElem?_set_ne c] at e
    exact .inr ⟨fun q => c q.symm, e⟩
theorem ups_setT {s : Shp} {k : Nat} {y : Hs} : ups (s.set k y) = (ups s).set k y.up := by unfold ups; rw [List.map_set]
section
variable {od : List Nat} {i : Nat} {s : Shp} (G : Gd od i s) (nd : od.Nodup)
include G
theorem Gd.flags {c : Nat} {x y : Hs} (e : s[c]? = some x) (h : y.up = x.up ∧ y.left = x.left ∧ y.right = x.right) : Gd od i (s.set c y) := by
  have up : ups (s.set c y) = ups s := by
    rw [ups_setT, h.1]
    refine List.ext_getElem? fun j => ?_
    by_cases q : c = j
    · subst q; rw [List.getElem?_set_self (by rw [ups_len]; exact lt_at e), ups_at e]
    · rw [List.getElem?_set_ne q]
  have old : ∀ {u h' : Nat}, SonOf (s.set c y) u h' → SonOf s u h' := fun {u h'} ⟨z, ez, hz⟩ => by
    rcases set_at ez with ⟨rfl, _, rfl⟩ | ⟨_, ez⟩
    · rw [h.2.1, h.2.2] at hz; exact ⟨x, e, hz⟩
    · exact ⟨z, ez, hz⟩
  refine ⟨fun k c' z hk hc ez => ?_, up ▸ G.par, fun u h' so => ?_, fun u c' z ez => ?_⟩
  · rcases set_at ez with ⟨rfl, _, rfl⟩ | ⟨_, ez⟩
    · have := G.fresh k _ x hk hc e
      exact ⟨h.1.trans this.1, h.2.1.trans this.2.1, h.2.2.trans this.2.2⟩
    · exact G.fresh k c' z hk hc ez
  · obtain ⟨w, ew, hw⟩ := G.son u h' (old so)
    by_cases q : c = h'
    · subst q
      rw [e] at ew
      cases ew
      exact ⟨y, List.getElem?_set_self (lt_at e), h.1.trans hw⟩
    · exact ⟨w, by rw [List.getElem?_set_ne q]; exact ew, hw⟩
  · rcases set_at ez with ⟨rfl, _, rfl⟩ | ⟨_, ez⟩
    · rw [h.2.1, h.2.2]; exact G.ne _ c' x e
    · exact G.ne u c' z ez
theorem Gd.succ : Gd od (i + 1) s := ⟨fun k c x hk => G.fresh k c x (by omega), G.par, G.son, G.ne⟩
include nd
theorem Gd.hang {j c p : Nat} {x : Hs} (ec : od[i]? = some c) (e : s[c]? = some x) (hj : j < i) (ep : od[j]? = some p) : Gd od (i + 1) (s.set c { x with up := some p }) := by
  have fx := G.fresh i c x (Nat.le_refl _) ec e
  have old : ∀ {u h' : Nat}, SonOf (s.set c { x with up := some p }) u h' → SonOf s u h' := fun {u h'} ⟨z, ez, hz⟩ => by
    rcases set_at ez with ⟨rfl, _, rfl⟩ | ⟨_, ez⟩
    · exact ⟨x, e, hz⟩
    · exact ⟨z, ez, hz⟩
  refine ⟨fun k c' z hk hc ez => ?_, ?_, fun u h' so => ?_, fun u c' z ez => ?_⟩
  · rcases set_at ez with ⟨rfl, _, rfl⟩ | ⟨_, ez⟩
    · have := nd_inj nd hc ec
      omega
    · exact G.fresh k c' z (by omega) hc ez
  · rw [ups_setT]
    exact par_set G.par nd ec (by rw [ups_len]; exact lt_at e) (.inr ⟨j, p, hj, ep, rfl⟩)
  · obtain ⟨w, ew, hw⟩ := G.son u h' (old so)
    have : c ≠ h' := fun q => by
      subst q
      rw [e] at ew
      cases ew
      rw [fx.1] at hw
      cases hw
    exact ⟨w, by rw [List.getElem?_set_ne this]; exact ew, hw⟩
  · rcases set_at ez with ⟨rfl, _, rfl⟩ | ⟨_, ez⟩
    · exact G.ne _ c' x e
    · exact G.ne u c' z ez
/-- .. and takes a place -/
theorem Gd.take {j c p : Nat} {x y : Hs} {y' : Hs} (ec : od[i]? = some c) (e : s[c]? = some x) (hj : j < i) (ep : od[j]? = some p) (ey : s[p]? = some y)
    (hy : (y.left = none ∧ y' = { y with left := some c }) ∨ (y.right = none ∧ y' = { y with right := some c })) : Gd od (i + 1) ((s.set c { x with up := some p }).set p y') := by
  have G1 := G.hang nd ec e hj ep
  have fx := G.fresh i c x (Nat.le_refl _) ec e
  have pc : p ≠ c := fun q => by
    subst q
    have := nd_inj nd ec ep
    omega
  have ey1 : (s.set c { x with up := some p })[p]? = some y := by rw [List.getElem?_set_ne (fun q => pc q.symm)]; exact ey
  have ec1 : (s.set c { x with up := some p })[c]? = some { x with up := some p } := List.getElem?_set_self (lt_at e)
  have uy : y'.up = y.up := by rcases hy with ⟨_, rfl⟩ | ⟨_, rfl⟩ <;> rfl
  have noson : ∀ u, ¬ SonOf s u c := fun u so => by
    obtain ⟨w, ew, hw⟩ := G.son u c so
    rw [e] at ew
    cases ew
    rw [fx.1] at hw
    cases hw
  have up : ups ((s.set c { x with up := some p }).set p y') = ups (s.set c { x with up := some p }) := by
    rw [ups_setT, uy]
    refine List.ext_getElem? fun j => ?_
    by_cases q : p = j
    · subst q; rw [List.getElem?_set_self (by rw [ups_len]; exact lt_at ey1), ups_at ey1]
    · rw [List.getElem?_set_ne q]
  refine ⟨fun k c' z hk hc ez => ?_, up ▸ G1.par, fun u h' so => ?_, fun u c' z ez => ?_⟩
  · rcases set_at ez with ⟨rfl, _, rfl⟩ | ⟨_, ez⟩
    · have := nd_inj nd hc ep
      omega
    · exact G1.fresh k c' z hk hc ez
  · have key : (u = p ∧ h' = c) ∨ SonOf (s.set c { x with up := some p }) u h' := by
      obtain ⟨z, ez, hz⟩ := so
      rcases set_at ez with ⟨rfl, _, rfl⟩ | ⟨_, ez⟩
      · rcases hy with ⟨_, rfl⟩ | ⟨_, rfl⟩
        · rcases hz with hz | hz
          · exact .inl ⟨rfl, (Option.some.inj hz).symm⟩
          · exact .inr ⟨y, ey1, .inr hz⟩
        · rcases hz with hz | hz
          · exact .inr ⟨y, ey1, .inl hz⟩
          · exact .inl ⟨rfl, (Option.some.inj hz).symm⟩
      · exact .inr ⟨z, ez, hz⟩
    rcases key with ⟨rfl, rfl⟩ | so
    · exact ⟨_, by rw [List.getElem?_set_ne pc]; exact ec1, rfl⟩
    · obtain ⟨w, ew, hw⟩ := G1.son u h' so
      by_cases q : p = h'
      · subst q
        rw [ey1] at ew
        cases ew
        exact ⟨y', List.getElem?_set_self (lt_at ey1), uy.trans hw⟩
      · exact ⟨w, by rw [List.getElem?_set_ne q]; exact ew, hw⟩
  · rcases set_at ez with ⟨rfl, _, rfl⟩ | ⟨_, ez⟩
    · rcases hy with ⟨_, rfl⟩ | ⟨_, rfl⟩
      · intro q q2
        have : c' = c := (Option.some.inj q).symm
        subst this
        exact noson u ⟨y, ey, .inr q2⟩
      · intro q q2
        have : c' = c := (Option.some.inj q2).symm
        subst this
        exact noson u ⟨y, ey, .inl q⟩
    · exact G1.ne u c' z ez
end
theorem Gd.rs {od : List Nat} {i : Nat} {s : Shp} (G : Gd od i s) (pm : od.Perm (List.range s.length)) (n1 : 1 ≤ s.length) (n64 : s.length ≤ 64) : RS s :=
  ⟨n1, n64, G.son, G.ne, par_tree G.par pm (ups_len)⟩
end W3
namespace W3
open PySem PySem.Spec PyProof.Rows L2 M3
theorem house8 (g : G) (v : Int) (S : Store) : m_L_house g [.dat .non, .dat (.int v)] S = .ok (.obj S.length) (S ++ [rO ⟨none, none, none, false, 0, v⟩]) := by
  have l6 : (6 : Nat) ≤ 100000 := by decide
  unfold m_L_house
  dsimp! [l6]
  rfl
theorem found_lc (g : G) {δ : DEnv} (h0 : δ[0]? = some (some (.obj 0))) (h4 : 4 < δ.length) : ∀ (l : List D) (acc : List D) (h : O) (s : Shp), Hd h → acc.length + l.length ≤ 1000 → ∃ (h' : O) (s' : Shp), Hd h' ∧ s'.length = l.length ∧ (∀ x ∈ s', Fresh x) ∧
    mLcL (gmName 4) mYes (mDef 2 (m_L_house g) (mCons (mC .non) (mCons (mDef 1 (mScope (m_L_value g)) (mCons (mVar 0) mNil)) mNil))) [4] δ l acc (h :: s.map rO) = .ok (acc ++ ((List.range l.length).map fun k => .obj (1 + s.length + k))) (h' :: (s ++ s').map rO)
  | [], acc, h, s, H, _ => ⟨h, [], H, rfl, fun x m => (nomatch m), by simp [mLcL]⟩
  | d :: l, acc, h, s, H, hl => by
    have hc : Cs (s.map rO) := fun j w e => by
      rw [List.getElem?_map] at e
      cases q : s[j]? with
      | none => rw [q] at e; cases e
      | some x => rw [q] at e; cases e; rfl
    obtain ⟨v, h1, H1, e1⟩ := value8 g H hc
    rw [List.length_cons] at hl
    obtain ⟨h', s', H', ls, fr, e2⟩ := found_lc g h0 h4 l (acc ++ [.obj (1 + s.length)]) h1 (s ++ [⟨none, none, none, false, 0, v⟩]) H1 (by rw [List.length_append, List.length_singleton]; omega)
    refine ⟨h', ⟨none, none, none, false, 0, v⟩ :: s', H', by simp [ls], fun x m => ?_, ?_⟩
    · rcases List.mem_cons.mp m with rfl | m
      · exact ⟨rfl, rfl, rfl⟩
      · exact fr x m
    · have x0 : ((δ.set 4 none).set 4 (some d))[0]? = some (some (.obj 0)) := by rw [List.getElem?_set_ne (by decide), List.getElem?_set_ne (by decide)]; exact h0
      have e3 : mDef 2 (m_L_house g) (mCons (mC .non) (mCons (mDef 1 (mScope (m_L_value g)) (mCons (mVar 0) mNil)) mNil)) ((wipeD δ [4]).set 4 (some d)) (h :: s.map rO) = .ok (.obj (1 + s.length)) (h1 :: (s ++ [(⟨none, none, none, false, 0, v⟩ : Hs)]).map rO) := by
        show mDef 2 _ _ ((δ.set 4 none).set 4 (some d)) _ = _
        unfold mDef mCons mVar mC mNil
        simp only [x0, R.bind_ok, List.length_cons, List.length_nil, Nat.zero_add, if_true, e1, house8, Nat.reduceAdd]
        rw [List.map_append, List.length_map, Nat.add_comm s.length 1]
        rfl
      unfold mLcL
      show (R.ok _ _).bnf _ = _
      rw [R.bnf_ok]
      show (R.ok true _).bnf _ = _
      rw [R.bnf_ok]
      show R.bnf _ _ = _
      rw [e3, R.bnf_ok, if_pos (by omega), e2]
      rw [List.length_cons, List.range_succ_eq_map, List.map_cons, List.map_map, List.append_assoc, List.append_assoc]
      have : ((fun k => D.obj (1 + s.length + k)) ∘ Nat.succ) = (fun k => D.obj (1 + (s ++ [(⟨none, none, none, false, 0, v⟩ : Hs)]).length + k)) := by
        funext k
        show D.obj _ = D.obj _
        rw [List.length_append, List.length_singleton]
        congr 1
        omega
      rw [this]
      rfl
end W3
namespace W3
open PySem PySem.Spec PyProof.Rows L2 M3
theorem shape8 (g : G) {h : O} {n : Nat} (H : Hd h) (n1 : 1 ≤ n) (n64 : n ≤ 64) : ∃ (s : Shp) (h' : O), RS s ∧ s.length = n ∧ Hd h' ∧ mScope (m_L_shape g) [.obj 0, .dat (.int (n : Int))] [h] = .ok (.dat (shP s)) [h'] := by
  suffices z : ∃ d S', m_L_shape g [.obj 0, .dat (.int (n : Int))] [h] = .ok d S' ∧ ∃ (s : Shp) (h' : O), RS s ∧ s.length = n ∧ Hd h' ∧ d = .dat (shP s) ∧ ∃ t, S' = [h'] ++ t by
    obtain ⟨d, S', e, s, h', R, ls, H', rfl, t, rfl⟩ := z
    exact ⟨s, h', R, ls, H', scope_u e rfl (cs_hand H' cs_nil)⟩
  obtain ⟨od, h1, pm, H1, e1⟩ := shuf8 g H n64
  have lod : od.length = n := by rw [pm.length_eq, List.length_range]
  have nd : od.Nodup := pm.nodup_iff.mpr List.nodup_range
  have l6 : (6 : Nat) ≤ 100000 := by decide
  have l4 : (4 : Nat) ≤ 100000 := by decide
  obtain ⟨h2, s0, H2, ls0, fr0, e2⟩ := found_lc g (δ := [some (.obj 0), some (.dat (.int (n : Int))), some (.dat (.lst (od.map nv))), none, none, none, none, none, none, none, none, none]) rfl (by simp) ((List.range n).map fun k => .dat (nv k)) [] h1 [] H1 (by simp; omega)
  rw [List.length_map, List.length_range] at ls0 e2
  have lc : mLc (mRng1 (mCons (mVar 1) mNil)) (gmName 4) mYes (mDef 2 (m_L_house g) (mCons (mC .non) (mCons (mDef 1 (mScope (m_L_value g)) (mCons (mVar 0) mNil)) mNil))) [4] [some (.obj 0), some (.dat (.int (n : Int))), some (.dat (.lst (od.map nv))), none, none, none, none, none, none, none, none, none] [h1] = .ok ((List.range n).map fun k => .obj (1 + k)) (h2 :: s0.map rO) := by
    unfold mLc
    rw [rng0_ok (n := n) (S1 := [h1]) rfl (by omega), R.bind_ok]
    simp only []
    have e2' : mLcL (gmName 4) mYes (mDef 2 (m_L_house g) (mCons (mC .non) (mCons (mDef 1 (mScope (m_L_value g)) (mCons (mVar 0) mNil)) mNil))) [4] [some (.obj 0), some (.dat (.int (n : Int))), some (.dat (.lst (od.map nv))), none, none, none, none, none, none, none, none, none] ((List.range n).map fun k => .dat (nv k)) [] [h1] = .ok ((List.range n).map fun k => .obj (1 + k)) (h2 :: s0.map rO) := e2
    rw [e2', R.bnf_ok]
  have ln : (h2 :: s0.map rO).length = n + 1 := by simp [ls0]
  have st0 : (h2 :: s0.map rO) ++ [O.lst ((List.range n).map fun k => .obj (1 + k))] = Sh h2 s0 := by unfold Sh; rw [ls0]; rfl
  have cs : ∀ (s : Shp), Cs (s.map rO ++ [O.lst ((List.range s.length).map fun k => .obj (1 + k))]) := fun s => Sh_rest
  obtain ⟨kd, h3, hk, H3, e3⟩ := draw_s g H2 (n := 4) (by omega) (by omega) (cs s0)
  have e3' : mScope (m_L_draw g) [.obj 0, .dat (.int 4)] (Sh h2 s0) = .ok (.dat (.int (kd : Int))) (Sh h3 s0) := e3
  unfold m_L_shape
  rw [mBody_fin]
  refine fin_ends ?_
  dsimp! [e1, lc, ln, st0, e3']
  rw [for_items (rng0_ok (n := n) (by dsimp! [] <;> rfl) (by omega))]
  refine then_ends (Q1 := fun o S => ∃ (h : O) (s : Shp) (x6 x7 x8 x9 x10 : Option D), o = .nx [some (.obj 0), some (.dat (.int (n : Int))), some (.dat (.lst (od.map nv))), some (.obj (n + 1)), none, some (.dat (.int (kd : Int))), x6, x7, x8, x9, x10, none] ∧ S = Sh h s ∧ Hd h ∧ s.length = n ∧ Gd od n s) ?_ ?_
  · refine forL_ends (fun i δ S => ∃ (h : O) (s : Shp) (x6 x7 x8 x9 x10 : Option D), δ = [some (.obj 0), some (.dat (.int (n : Int))), some (.dat (.lst (od.map nv))), some (.obj (n + 1)), none, some (.dat (.int (kd : Int))), x6, x7, x8, x9, x10, none] ∧ S = Sh h s ∧ Hd h ∧ s.length = n ∧ Gd od i s) (i := 0) ⟨h3, s0, _, _, _, _, _, rfl, rfl, H3, ls0, ?_⟩ ?_ ?_
    · have fr : ∀ (c : Nat) (x : Hs), s0[c]? = some x → Fresh x := fun c x e => fr0 x (List.mem_of_getElem? e)
      have no : ∀ u c, ¬ SonOf s0 u c := fun u c ⟨y, ey, hy⟩ => by
        have := fr u y ey
        rw [this.2.1, this.2.2] at hy
        rcases hy with q | q <;> cases q
      refine ⟨fun k c x _ _ e => fr c x e, fun k q e => ?_, fun u c so => absurd so (no u c), fun u c y ey q => by rw [(fr u y ey).2.1] at q; cases q⟩
      have hq : q < s0.length := by
        have := pm.mem_iff.mp (List.mem_of_getElem? e)
        rw [ls0]
        simpa using this
      obtain ⟨x, ex⟩ := at_of hq
      exact .inl (by rw [ups_at ex, (fr q x ex).1])
    · rintro i d δ S hd ⟨h, s, x6, x7, x8, x9, x10, rfl, rfl, H, ls, Gs⟩
      rw [Nat.zero_add] at Gs
      rw [Nat.zero_add]
      rw [List.getElem?_map] at hd
      by_cases ci : i < n
      · rw [List.getElem?_range ci] at hd
        cases hd
        subst ls
        have ec : od[i]? = some od[i] := List.getElem?_eq_getElem (by omega)
        have inr : ∀ (k c : Nat), od[k]? = some c → c < s.length := fun k c e => by
          have := pm.mem_iff.mp (List.mem_of_getElem? e)
          simpa using this
        have hc := inr i _ ec
        generalize od[i] = c at ec hc
        obtain ⟨x, ex⟩ := at_of hc
        have xo : ∀ (S : Store) (k c : Nat), od[k]? = some c → aIx S (.dat (.lst (od.map nv))) (.dat (nv k)) = some (.dat (nv c)) := fun S k c e => ix_l (atN (map_get e))
        obtain ⟨t1, h4, ht1, H4, e4⟩ := draw_s g H (n := 3) (by omega) (by omega) (cs s)
        have e4' : mScope (m_L_draw g) [.obj 0, .dat (.int 3)] (Sh h s) = .ok (.dat (.int (t1 : Int))) (Sh h4 s) := e4
        have p1 := Sh_s3 (h := h4) ex (o := decide ((t1 : Int) = 0))
        have G1 := Gs.flags ex (y := { x with turned := decide ((t1 : Int) = 0) }) ⟨rfl, rfl, rfl⟩
        have ex1 : (s.set c { x with turned := decide ((t1 : Int) = 0) })[c]? = some { x with turned := decide ((t1 : Int) = 0) } := List.getElem?_set_self hc
        obtain ⟨t2, h5, ht2, H5, e5⟩ := draw_s g H4 (n := 6) (by omega) (by omega) (cs (s.set c { x with turned := decide ((t1 : Int) = 0) }))
        have e5' : mScope (m_L_draw g) [.obj 0, .dat (.int 6)] (Sh h4 (s.set c { x with turned := decide ((t1 : Int) = 0) })) = .ok (.dat (.int (t2 : Int))) (Sh h5 (s.set c { x with turned := decide ((t1 : Int) = 0) })) := e5
        obtain ⟨ad, ead⟩ : ∃ a : Int, ([.int 0, .int 0, .int 0, .int 1, .int (-7), .int 1000000000000000000] : List P)[t2]? = some (.int a) := by
          rcases t2 with _ | _ | _ | _ | _ | _ | k
          · exact ⟨_, rfl⟩
          · exact ⟨_, rfl⟩
          · exact ⟨_, rfl⟩
          · exact ⟨_, rfl⟩
          · exact ⟨_, rfl⟩
          · exact ⟨_, rfl⟩
          · omega
        have ix2 : ∀ S : Store, aIx S (.dat (.lst [.int 0, .int 0, .int 0, .int 1, .int (-7), .int 1000000000000000000])) (.dat (.int (t2 : Int))) = some (.dat (.int ad)) := fun S => ix_l (atN ead)
        have pw : ∀ S : Store, aPow S (.dat (.int 10)) (.dat (.int 18)) = some (.dat (.int 1000000000000000000)) := fun S => pow_ii (by decide) (by decide) (by decide)
        have p2 := Sh_s4 (h := h5) ex1 (o := ad)
        rw [List.set_set] at p2
        have G2 := G1.flags ex1 (y := { x with turned := decide ((t1 : Int) = 0), added := ad }) ⟨rfl, rfl, rfl⟩
        rw [List.set_set] at G2
        generalize hx2 : ({ x with turned := decide ((t1 : Int) = 0), added := ad } : Hs) = x2 at p2 G2
        have ex2 : (s.set c x2)[c]? = some x2 := List.getElem?_set_self hc
        have ls2 : (s.set c x2).length = s.length := List.length_set
        have ixm : ∀ (hh : O) (s' : Shp), s'.length = s.length → ∀ k, k < s.length → aIx (Sh hh s') (.obj (s.length + 1)) (.dat (nv k)) = some (.obj (1 + k)) := fun hh s' l k hk => by
          have := Sh_ix (h := hh) (s := s') (k := k) (by omega)
          rw [l] at this; exact this
        dsimp! [xo _ i c ec, ixm _ _ rfl c hc, e4', p1, l6, pw, e5', ix2, p2]
        by_cases c0 : (0 : Int) < (i : Int)
        · -- hang it somewhere
          have dg : decide ((0 : Int) < (i : Int)) = true := decide_eq_true c0
          have gt : ∀ S : Store, aGt S (.dat (nv i)) (.dat (.int 0)) = some (.dat (.bl (decide ((0 : Int) < (i : Int))))) := fun _ => rfl
          have mn : ∀ S : Store, aMin S [.dat (nv i), .dat (.int 2)] = some (.dat (.int (if (2 : Int) < (i : Int) then 2 else (i : Int)))) := fun _ => rfl
          obtain ⟨lim, hl1, hl2, elim⟩ : ∃ lim : Nat, 1 ≤ lim ∧ lim ≤ i ∧ ([nv i, .int (if (2 : Int) < (i : Int) then 2 else (i : Int)), .int 1, nv i] : List P)[kd]? = some (.int (lim : Int)) := by
            rcases kd with _ | _ | _ | _ | k
            · exact ⟨i, by omega, by omega, rfl⟩
            · by_cases q : (2 : Int) < (i : Int)
              · exact ⟨2, by omega, by omega, by rw [if_pos q]; rfl⟩
              · exact ⟨i, by omega, by omega, by rw [if_neg q]; rfl⟩
            · exact ⟨1, by omega, by omega, rfl⟩
            · exact ⟨i, by omega, by omega, rfl⟩
            · omega
          have ix3 : ∀ S : Store, aIx S (.dat (.lst [nv i, .int (if (2 : Int) < (i : Int) then 2 else (i : Int)), .int 1, nv i])) (.dat (.int (kd : Int))) = some (.dat (.int (lim : Int))) := fun S => ix_l (atN elim)
          obtain ⟨r, h6, hr, H6, e6⟩ := draw_s g H5 (n := (lim : Int)) (by omega) (by omega) (cs (s.set c x2))
          have e6' : mScope (m_L_draw g) [.obj 0, .dat (.int (lim : Int))] (Sh h5 (s.set c x2)) = .ok (.dat (.int (r : Int))) (Sh h6 (s.set c x2)) := e6
          have sb : ∀ S : Store, aSub S (.dat (nv i)) (.dat (.int 1)) = some (.dat (.int ((i : Int) - 1))) := fun _ => rfl
          have ej : (i : Int) - 1 - (r : Int) = ((i - 1 - r : Nat) : Int) := by omega
          have hj : i - 1 - r < i := by omega
          have ep : od[i - 1 - r]? = some od[i - 1 - r] := List.getElem?_eq_getElem (by omega)
          have hp := inr _ _ ep
          generalize od[i - 1 - r] = p at ep hp
          have pc : p ≠ c := fun q => by
            subst q
            have := nd_inj nd ec ep
            omega
          obtain ⟨y, ey⟩ := at_of hp
          have ey2 : (s.set c x2)[p]? = some y := by rw [List.getElem?_set_ne (fun q => pc q.symm)]; exact ey
          obtain ⟨sd, h7, hsd, H7, e7⟩ := draw_s g H6 (n := 2) (by omega) (by omega) (cs (s.set c x2))
          have e7' : mScope (m_L_draw g) [.obj 0, .dat (.int 2)] (Sh h6 (s.set c x2)) = .ok (.dat (.int (sd : Int))) (Sh h7 (s.set c x2)) := e7
          obtain ⟨d8, h8, hd8, H8, e8⟩ := draw_s g H7 (n := 8) (by omega) (by omega) (cs (s.set c x2))
          have e8' : mScope (m_L_draw g) [.obj 0, .dat (.int 8)] (Sh h7 (s.set c x2)) = .ok (.dat (.int (d8 : Int))) (Sh h8 (s.set c x2)) := e8
          have xp := fun S => xo S (i - 1 - r) p ep
          have xp' : ∀ S : Store, aIx S (.dat (.lst (od.map nv))) (.dat (.int ((i - 1 - r : Nat) : Int))) = some (.dat (nv p)) := xp
          by_cases c8 : (0 : Int) < (d8 : Int)
          · have G3 := G2.hang nd ec ex2 hj ep
            have p3 := Sh_s0 (h := h8) ex2 (o := some p)
            rw [List.set_set] at p3 G3
            have p3' : setD (.obj (1 + c)) (.dat (.int 0)) (.dat (nv p)) (Sh h8 (s.set c x2)) = some (Sh h8 (s.set c { x2 with up := some p })) := p3
            have ey3 : (s.set c { x2 with up := some p })[p]? = some y := by rw [List.getElem?_set_ne (fun q => pc q.symm)]; exact ey
            have ls3 : (s.set c { x2 with up := some p }).length = s.length := List.length_set
            obtain ⟨d4, h9, hd4, H9, e9⟩ := draw_s g H8 (n := 4) (by omega) (by omega) (cs (s.set c { x2 with up := some p }))
            have e9' : mScope (m_L_draw g) [.obj 0, .dat (.int 4)] (Sh h8 (s.set c { x2 with up := some p })) = .ok (.dat (.int (d4 : Int))) (Sh h9 (s.set c { x2 with up := some p })) := e9
            have nnv : ∀ (S : Store) (q : Nat), aIsN S (.dat (ov (some q))) (.dat .non) = some (.dat (.bl false)) := fun _ _ => rfl
            have nno : ∀ (S : Store), aIsN S (.dat (ov none)) (.dat .non) = some (.dat (.bl true)) := fun _ => rfl
            have side : sd = 0 ∨ sd = 1 := by omega
            rcases side with rfl | rfl
            · have e11 : (1 : Int) + ((0 : Nat) : Int) = 1 := rfl
              cases hyl : y.left with
              | some q =>
                dsimp! [gt, dg, mn, l4, ix3, e6', sb, ej, xp', ixm _ _ ls2 p hp, e7', e11, e8', decide_eq_true c8, p3', Sh_1 ey3, hyl, nnv]
                exact .of (tm ⟨h8, _, _, _, _, _, _, rfl, rfl, H8, ls3, G3⟩)
              | none =>
                by_cases c4 : (0 : Int) < (d4 : Int)
                · have p4 := Sh_s1 (h := h9) ey3 (o := some c)
                  have p4' : setD (.obj (1 + p)) (.dat (.int 1)) (.dat (nv c)) (Sh h9 (s.set c { x2 with up := some p })) = some (Sh h9 ((s.set c { x2 with up := some p }).set p { y with left := some c })) := p4
                  dsimp! [gt, dg, mn, l4, ix3, e6', sb, ej, xp', ixm _ _ ls2 p hp, e7', e11, e8', decide_eq_true c8, p3', Sh_1 ey3, hyl, nno, e9', decide_eq_true c4, xo _ i c ec, p4']
                  have G4 := G2.take nd ec ex2 hj ep ey2 (.inl ⟨hyl, rfl⟩)
                  rw [List.set_set] at G4
                  exact .of (tm ⟨h9, _, _, _, _, _, _, rfl, rfl, H9, by rw [List.length_set, List.length_set], G4⟩)
                · dsimp! [gt, dg, mn, l4, ix3, e6', sb, ej, xp', ixm _ _ ls2 p hp, e7', e11, e8', decide_eq_true c8, p3', Sh_1 ey3, hyl, nno, e9', decide_eq_false c4]
                  exact .of (tm ⟨h9, _, _, _, _, _, _, rfl, rfl, H9, ls3, G3⟩)
            · have e11 : (1 : Int) + ((1 : Nat) : Int) = 2 := rfl
              cases hyl : y.right with
              | some q =>
                dsimp! [gt, dg, mn, l4, ix3, e6', sb, ej, xp', ixm _ _ ls2 p hp, e7', e11, e8', decide_eq_true c8, p3', Sh_2 ey3, hyl, nnv]
                exact .of (tm ⟨h8, _, _, _, _, _, _, rfl, rfl, H8, ls3, G3⟩)
              | none =>
                by_cases c4 : (0 : Int) < (d4 : Int)
                · have p4 := Sh_s2 (h := h9) ey3 (o := some c)
                  have p4' : setD (.obj (1 + p)) (.dat (.int 2)) (.dat (nv c)) (Sh h9 (s.set c { x2 with up := some p })) = some (Sh h9 ((s.set c { x2 with up := some p }).set p { y with right := some c })) := p4
                  dsimp! [gt, dg, mn, l4, ix3, e6', sb, ej, xp', ixm _ _ ls2 p hp, e7', e11, e8', decide_eq_true c8, p3', Sh_2 ey3, hyl, nno, e9', decide_eq_true c4, xo _ i c ec, p4']
                  have G4 := G2.take nd ec ex2 hj ep ey2 (.inr ⟨hyl, rfl⟩)
                  rw [List.set_set] at G4
                  exact .of (tm ⟨h9, _, _, _, _, _, _, rfl, rfl, H9, by rw [List.length_set, List.length_set], G4⟩)
                · dsimp! [gt, dg, mn, l4, ix3, e6', sb, ej, xp', ixm _ _ ls2 p hp, e7', e11, e8', decide_eq_true c8, p3', Sh_2 ey3, hyl, nno, e9', decide_eq_false c4]
                  exact .of (tm ⟨h9, _, _, _, _, _, _, rfl, rfl, H9, ls3, G3⟩)
          · dsimp! [gt, dg, mn, l4, ix3, e6', sb, ej, xp', ixm _ _ ls2 p hp, e7', e8', decide_eq_false c8]
            exact .of (tm ⟨h8, _, _, _, _, _, _, rfl, rfl, H8, ls2, G2.succ⟩)
        · have dg : decide ((0 : Int) < (i : Int)) = false := decide_eq_false c0
          have gt : ∀ S : Store, aGt S (.dat (nv i)) (.dat (.int 0)) = some (.dat (.bl (decide ((0 : Int) < (i : Int))))) := fun _ => rfl
          dsimp! [gt, dg]
          exact .of (tm ⟨h5, _, _, _, _, _, _, rfl, rfl, H5, ls2, G2.succ⟩)
      · rw [List.getElem?_eq_none (by simpa using ci)] at hd; cases hd
    · rintro δ S ⟨h, s, x6, x7, x8, x9, x10, rfl, rfl, H, ls, Gs⟩
      exact ⟨h, s, x6, x7, x8, x9, x10, rfl, rfl, H, ls, by simpa using Gs⟩
  · rintro o S ⟨h, s, x6, x7, x8, x9, x10, rfl, rfl, H, ls, Gs⟩
    subst ls
    have lc2 : mLc (mWalk (mVar 3)) (gmName 11) mYes (mCall aTuple (mCons (mVar 11) mNil)) [11] [some (.obj 0), some (.dat (.int (s.length : Int))), some (.dat (.lst (od.map nv))), some (.obj (s.length + 1)), none, some (.dat (.int (kd : Int))), x6, x7, x8, x9, x10, none] (Sh h s) = .ok ((s.map hsP).map .dat) (Sh h s) := by
      have e := lc_ob (S := Sh h s) (S1 := Sh h s) (o := s.length + 1) (gm := gmName 11) (t := mYes) (e := mCall aTuple (mCons (mVar 11) mNil)) (vs := [11]) (δ := [some (.obj 0), some (.dat (.int (s.length : Int))), some (.dat (.lst (od.map nv))), some (.obj (s.length + 1)), none, some (.dat (.int (kd : Int))), x6, x7, x8, x9, x10, none]) (w := mWalk (mVar 3)) (xs := List.range s.length) (fun k => .obj (1 + k)) (fun k => hsP (s.getD k ⟨none, none, none, false, 0, 0⟩)) (walk_o rfl Sh_lst) Sh_lst (by rw [List.length_range]; omega) fun k m => ⟨_, rfl, rfl, by
        obtain ⟨x, ex⟩ := at_of (s := s) (List.mem_range.mp m)
        have eg : s.getD k ⟨none, none, none, false, 0, 0⟩ = x := by rw [List.getD_eq_getElem?_getD, ex]; rfl
        have tp : aTuple (Sh h s) [.obj (1 + k)] = some (.dat (hsP x)) := tuple_o (Sh_row ex)
        rw [eg]
        dsimp! [tp]⟩
      rw [e]
      congr 2
      refine List.ext_getElem? fun k => ?_
      rw [List.getElem?_map, List.getElem?_map]
      by_cases q : k < s.length
      · obtain ⟨x, ex⟩ := at_of q
        rw [List.getElem?_range q, ex]
        show some (hsP (s.getD k _)) = some (hsP x)
        rw [List.getD_eq_getElem?_getD, ex]; rfl
      · rw [List.getElem?_eq_none (by simpa using q), List.getElem?_eq_none (by omega)]; rfl
    dsimp! [lc2]
    exact .of ⟨_, rfl, s, h, Gs.rs pm n1 n64, rfl, H, rfl, _, rfl⟩
end W3
namespace W3
open PySem PySem.Spec PyProof.Rows L2 M3
theorem tk_t {S : Store} {l : List P} {k : Nat} : aSl S (.dat (.tup l)) none (some (k : Int)) = some (.dat (.tup (l.take k))) := by
  show some (D.dat (.tup (cutL l none (some (k : Int))))) = _
  rw [cut_take]
theorem cutL_dropK {α : Type} (l : List α) (k : Nat) : cutL l (some (k : Int)) none = l.drop k := by
  unfold cutL
  rw [HT.sIx_none, HT.sIx_nat]
  by_cases c : k ≤ l.length
  · rw [Nat.min_eq_left c, List.take_of_length_le (by rw [List.length_drop]; omega)]
  · rw [Nat.min_eq_right (by omega), List.drop_length, List.drop_eq_nil_of_le (by omega)]; simp
theorem dr_t {S : Store} {l : List P} {k : Nat} : aSl S (.dat (.tup l)) (some (k : Int)) none = some (.dat (.tup (l.drop k))) := by
  show some (D.dat (.tup (cutL l (some (k : Int)) none))) = _
  rw [cutL_dropK]
theorem odd_ov {g : G} (o : Option Nat) : Odd g (ov o) := by cases o <;> constructor
theorem odd_hs {g : G} (x : Hs) : Odd g (hsP x) := .tup fun p m => by
  simp only [List.mem_cons, List.not_mem_nil, or_false] at m
  rcases m with rfl | rfl | rfl | rfl | rfl | rfl
  · exact odd_ov _
  · exact odd_ov _
  · exact odd_ov _
  · exact .bl
  · exact .int
  · exact .int
theorem odd_shape {g : G} (s : Shp) : Odd g (shP s) := .tup fun p m => by
  obtain ⟨x, _, rfl⟩ := List.mem_map.mp m
  exact odd_hs x
theorem repP_mem {p : P} : ∀ {n : Nat} {l : List P}, p ∈ repP n l → p ∈ l
  | 0, l, m => by
    unfold repP at m
    simp at m
  | n + 1, l, m => by
    unfold repP at m
    simp at m
    first | exact m | exact m.2
/-- one in one another -/
inductive Dp : P → Prop
  | non : Dp .non
  | str {z : Str} : Dp (.str z)
  | int {i : Int} : Dp (.int i)
  | dic {l : List (P × P)} : Dp (.dic l)
  | lst {l : List P} : Dp (.lst l)
  | tup {q : P} : Dp q → Dp (.tup [q])
inductive Wr : P → Prop
  | dic {l : List (P × P)} : Wr (.dic l)
  | lst {l : List P} : Wr (.lst l)
  | tup {q : P} : Wr (.tup [q])
theorem Dp.no {p : P} (d : Dp p) : ¬ ShR p := by
  rintro ⟨s, R, e⟩
  cases d with
  | tup d =>
    rename_i q
    have e2 : ([q] : List P) = s.map hsP := P.tup.inj e
    cases s with
    | nil => cases e2
    | cons x s =>
      rw [List.map_cons] at e2
      have := (List.cons.inj e2).1
      subst this
      cases d
  | _ => cases e
theorem Wr.no {p : P} (d : Wr p) : ∀ i, p ≠ .int i := fun i e => by subst e; cases d
theorem cs_app8 {rest : Store} (hc : Cs rest) {l : List P} : Cs (rest ++ [.lst (l.map .dat)]) := fun j w e => by
  rw [List.length_append, List.length_singleton]
  by_cases c : j < rest.length
  · rw [List.getElem?_append_left c] at e
    exact O.lt_mono (by omega) (hc j w e)
  · rw [List.getElem?_append_right (by omega)] at e
    have := List.mem_of_getElem? e
    rw [List.mem_singleton.mp this]
    exact lt_lst
theorem mSl_ap (a : DE) (lo hi : DO) (δ : DEnv) (S : Store) : mSl a lo hi δ S = (a δ S).bind fun x S1 => (lo δ S1).bind fun l S2 => (hi δ S2).bind fun h S3 => oR (aSl S3 x l h) S3 := rfl
theorem moN_ap (δ : DEnv) (S : Store) : moN δ S = .ok none S := rfl
theorem moS_ap (a : DE) (δ : DEnv) (S : Store) : moS a δ S = (a δ S).bind fun d S1 => match d with
  | .dat (.int i) => .ok (some i) S1
  | _ => .fail := rfl
theorem dispF_1 (p : P) (δ : DEnv) (S : Store) (h : δ[1]? = some (some (.dat p))) : mDispF [(mC (.int 0), mVar 1)] δ S = .ok (.dat (.dic [(.con (kV (.inl 0)), p)])) S := by
  have e : mPairs [(mC (.int 0), mVar 1)] δ S = .ok [(.inl 0, .dat p)] S := by
    unfold mPairs
    dsimp! [h]
    rfl
  unfold mDispF
  rw [e]
  rfl
theorem deep_s (g : G) {h : O} {rest : Store} (H : Hd h) (hc : Cs rest) : ∃ (p : P) (h' : O), Dp p ∧ Wr p ∧ Odd g p ∧ Hd h' ∧ mScope (m_L_deep g) [.obj 0] (h :: rest) = .ok (.dat p) (h' :: rest) := by
  suffices z : ∃ d S', m_L_deep g [.obj 0] (h :: rest) = .ok d S' ∧ ∃ (p : P) (h' : O), Dp p ∧ Wr p ∧ Odd g p ∧ Hd h' ∧ d = .dat p ∧ S' = h' :: rest by
    obtain ⟨d, S', e, p, h', a, b, c, H', rfl, rfl⟩ := z
    exact ⟨p, h', a, b, c, H', scope_u (t := []) (by rw [List.append_nil]; exact e) rfl (cs_hand H' hc)⟩
  obtain ⟨r1, h1, hr1, H1, e1⟩ := draw_s g H (n := 4) (by omega) (by omega) hc
  obtain ⟨r2, h2, hr2, H2, e2⟩ := draw_s g H1 (n := 30) (by omega) (by omega) hc
  have l4 : (4 : Nat) ≤ 100000 := by decide
  have l2 : (2 : Nat) ≤ 100000 := by decide
  have l1 : (1 : Nat) ≤ 100000 := by decide
  have ng : ∀ S : Store, aNeg S (.dat (.int 1)) = some (.dat (.int (-1))) := fun _ => rfl
  obtain ⟨p0, ep0, dp0, op0⟩ : ∃ p0 : P, (∀ S : Store, aIx S (.dat (.lst [.non, .str "a", .int (-1), .dic []])) (.dat (.int (r1 : Int))) = some (.dat p0)) ∧ Dp p0 ∧ Odd g p0 := by
    rcases r1 with _ | _ | _ | _ | r1
    · exact ⟨_, fun _ => rfl, .non, .non⟩
    · exact ⟨_, fun _ => rfl, .str, .str⟩
    · exact ⟨_, fun _ => rfl, .int, .int⟩
    · exact ⟨_, fun _ => rfl, .dic, .dic⟩
    · omega
  have ad : ∀ S : Store, aAdd S (.dat (.int 1)) (.dat (.int (r2 : Int))) = some (.dat (.int ((1 + r2 : Nat) : Int))) := fun _ => by
    show some (D.dat (.int (1 + (r2 : Int)))) = _
    rw [show (1 : Int) + (r2 : Int) = ((1 + r2 : Nat) : Int) by omega]
  unfold m_L_deep mDnew
  rw [mBody_fin]
  refine fin_ends ?_
  dsimp! [l4, ng, e1, ep0]
  rw [for_items (rng0_ok (n := 1 + r2) (S1 := h2 :: rest) (by dsimp! [e2, ad] <;> rfl) (by omega))]
  refine then_ends (Q1 := fun o' S' => ∃ (p : P) (h' : O) (x2 : Option D), o' = .nx [some (.obj 0), some (.dat p), x2] ∧ Dp p ∧ Wr p ∧ Odd g p ∧ Hd h' ∧ S' = h' :: rest) ?_ ?_
  · refine forL_ends (fun i δ S' => ∃ (p : P) (h' : O) (x2 : Option D), δ = [some (.obj 0), some (.dat p), x2] ∧ Dp p ∧ (1 ≤ i → Wr p) ∧ Odd g p ∧ Hd h' ∧ S' = h' :: rest) (i := 0) ⟨p0, h2, _, rfl, dp0, fun z => absurd z (by omega), op0, H2, rfl⟩ ?_ ?_
    · rintro i d δ S' ed ⟨p, h3, x2, rfl, dp, _, op, H3, rfl⟩
      obtain ⟨r4, h4, hr4, H4, e4⟩ := draw_s g H3 (n := 4) (by omega) (by omega) hc
      have s1 : ∀ S : Store, aSl S (.dat (.tup [p, p])) none (some 1) = some (.dat (.tup [p])) := fun S => tk_t (k := 1)
      have dd : ∀ (x0 x2 : Option D) (S : Store), mDispF [(mC (.int 0), mVar 1)] [x0, some (.dat p), x2] S = .ok (.dat (.dic [(.con (kV (.inl 0)), p)])) S := fun x0 x2 S => dispF_1 p _ S rfl
      obtain ⟨p4, ep4, dp4, wr4, op4⟩ : ∃ p4 : P, (∀ S : Store, aIx S (.dat (.lst [.tup [p], .lst [p], .tup [p], .dic [(.con (kV (.inl 0)), p)]])) (.dat (.int (r4 : Int))) = some (.dat p4)) ∧ Dp p4 ∧ Wr p4 ∧ Odd g p4 := by
        have o1 : ∀ q ∈ [p], Odd g q := fun q m => by rw [List.mem_singleton.mp m]; exact op
        rcases r4 with _ | _ | _ | _ | r4
        · exact ⟨_, fun _ => rfl, .tup dp, .tup, .tup o1⟩
        · exact ⟨_, fun _ => rfl, .lst, .lst, .lst o1⟩
        · exact ⟨_, fun _ => rfl, .tup dp, .tup, .tup o1⟩
        · exact ⟨_, fun _ => rfl, .dic, .dic, .dic⟩
        · omega
      dsimp! [l1, l2, l4, mSl_ap, moN_ap, moS_ap, s1, dd, e4, ep4]
      exact .of (tm ⟨p4, h4, _, rfl, dp4, fun _ => wr4, op4, H4, rfl⟩)
    · rintro δ S' ⟨p, h3, x2, rfl, dp, w, op, H3, rfl⟩
      rw [List.length_map, List.length_range] at w
      exact ⟨p, h3, x2, rfl, dp, w (by omega), op, H3, rfl⟩
  · rintro o' S' ⟨p, h3, x2, rfl, dp, w, op, H3, rfl⟩
    dsimp! []
    exact .of ⟨_, rfl, p, h3, dp, w, op, H3, rfl, rfl⟩
/-- how long a right shape is -/
def LenOk (n : Nat) (p : P) : Prop := ∀ s, RS s → p = shP s → s.length = n
theorem lenok_tup {n : Nat} {l : List P} (h : l.length = n) : LenOk n (.tup l) := fun s R e => by
  cases e
  rw [List.length_map] at h
  exact h
theorem lenok_no {n : Nat} {p : P} (h : ¬ ShR p) : LenOk n p := fun s R e => (h ⟨s, R, e⟩).elim
end W3
namespace W3
open PySem PySem.Spec PyProof.Rows L2 M3
theorem tree1 : W2.Tree [none] := W2.tree_of fun h hh => by
  have : h = 0 := by simpa using hh
  subst this
  exact ⟨[0], .root rfl, by simp⟩
theorem one_frs {g : G} (X : Gx g) (S : Store) : mPure (mkC g.Forest (m_Forest_init g)) [.dat (.tup [.non]), .dat (.tup [.int 7])] S = .ok (.dat (forP g [none] [7])) S :=
  made_t g X (ps := [none]) (ws := [7]) tree1 (by simp) (by simp) rfl S
theorem oddsh_s {g : G} (X : Gx g) {h : O} {rest : Store} (H : Hd h) (hc : Cs rest) {s : Shp} (R : RS s) : ∃ (p : P) (h' : O), Odd g p ∧ LenOk s.length p ∧ Hd h' ∧ mScope (m_L_odd_shape g) [.obj 0, .dat (shP s)] (h :: rest) = .ok (.dat p) (h' :: rest) := by
  have n1 := R.n1
  have n64 := R.n64
  obtain ⟨a, h1, ha, H1, e1⟩ := draw_s g H (n := (s.length : Int)) (by omega) (by omega) hc
  obtain ⟨r2, h2, hr2, H2, e2⟩ := draw_s g H1 (n := 6) (by omega) (by omega) hc
  obtain ⟨pd, h3, dp, wd, od, H3, e3⟩ := deep_s g H2 hc
  have hal : a < s.length := by omega
  obtain ⟨x, ex⟩ := at_of hal
  have ln : ∀ S : Store, aLen S [.dat (shP s)] = some (.dat (.int (s.length : Int))) := fun S => by unfold shP; rw [len_t, List.length_map]
  have ix : ∀ S : Store, aIx S (.dat (shP s)) (.dat (.int (a : Int))) = some (.dat (hsP x)) := fun S => hsP_at ex
  obtain ⟨xl, hxl⟩ : ∃ xl : List P, hsP x = .tup xl ∧ xl.length = 6 := ⟨_, rfl, rfl⟩
  have oxl : ∀ p ∈ xl, Odd g p := by
    have := odd_hs (g := g) x
    rw [hxl.1] at this
    cases this with | tup h => exact h
  obtain ⟨sl, hsl⟩ : ∃ sl : List P, shP s = .tup sl ∧ sl.length = s.length := ⟨_, rfl, by rw [List.length_map]⟩
  have osl : ∀ p ∈ sl, Odd g p := by
    have := odd_shape (g := g) s
    rw [hsl.1] at this
    cases this with | tup h => exact h
  simp only [hsl.1, hxl.1] at ix ln
  have ot : ∀ {l : List P} (n : Nat), (∀ p ∈ l, Odd g p) → ∀ p ∈ l.take n, Odd g p := fun n h p m => h p (List.mem_of_mem_take m)
  have odr : ∀ {l : List P} (n : Nat), (∀ p ∈ l, Odd g p) → ∀ p ∈ l.drop n, Odd g p := fun n h p m => h p (List.mem_of_mem_drop m)
  have oap : ∀ {l k : List P}, (∀ p ∈ l, Odd g p) → (∀ p ∈ k, Odd g p) → ∀ p ∈ l ++ k, Odd g p := fun h1 h2 p m => by
    rcases List.mem_append.mp m with m | m
    · exact h1 p m
    · exact h2 p m
  have on : ∀ {q : P}, Odd g q → ∀ p ∈ [q], Odd g p := fun h p m => by rw [List.mem_singleton.mp m]; exact h
  have t1 : ∀ S : Store, aSl S (.dat (.tup xl)) none (some 1) = some (.dat (.tup (xl.take 1))) := fun S => tk_t (k := 1)
  have t3 : ∀ S : Store, aSl S (.dat (.tup xl)) none (some 3) = some (.dat (.tup (xl.take 3))) := fun S => tk_t (k := 3)
  have t5 : ∀ S : Store, aSl S (.dat (.tup xl)) none (some 5) = some (.dat (.tup (xl.take 5))) := fun S => tk_t (k := 5)
  have d1 : ∀ S : Store, aSl S (.dat (.tup xl)) (some 1) none = some (.dat (.tup (xl.drop 1))) := fun S => dr_t (k := 1)
  have d2 : ∀ S : Store, aSl S (.dat (.tup xl)) (some 2) none = some (.dat (.tup (xl.drop 2))) := fun S => dr_t (k := 2)
  have d4 : ∀ S : Store, aSl S (.dat (.tup xl)) (some 4) none = some (.dat (.tup (xl.drop 4))) := fun S => dr_t (k := 4)
  have a1 : ∀ S : Store, aAdd S (.dat (.tup (xl.take 1))) (.dat (.tup [.int (a : Int)])) = some (.dat (.tup (xl.take 1 ++ [.int (a : Int)]))) := fun S => add_tt (by simp; omega)
  have a2 : ∀ S : Store, aAdd S (.dat (.tup (xl.take 1 ++ [.int (a : Int)]))) (.dat (.tup (xl.drop 2))) = some (.dat (.tup (xl.take 1 ++ [.int (a : Int)] ++ xl.drop 2))) := fun S => add_tt (by simp; omega)
  have a3 : ∀ S : Store, aAdd S (.dat (.tup [.int (a : Int)])) (.dat (.tup (xl.drop 1))) = some (.dat (.tup ([.int (a : Int)] ++ xl.drop 1))) := fun S => add_tt (by simp; omega)
  have a4 : ∀ S : Store, aAdd S (.dat (.tup (xl.take 3))) (.dat (.tup [.int 0])) = some (.dat (.tup (xl.take 3 ++ [.int 0]))) := fun S => add_tt (by simp; omega)
  have a5 : ∀ S : Store, aAdd S (.dat (.tup (xl.take 3 ++ [.int 0]))) (.dat (.tup (xl.drop 4))) = some (.dat (.tup (xl.take 3 ++ [.int 0] ++ xl.drop 4))) := fun S => add_tt (by simp; omega)
  have a6 : ∀ S : Store, aAdd S (.dat (.tup (xl.take 5))) (.dat (.tup [.bl true])) = some (.dat (.tup (xl.take 5 ++ [.bl true]))) := fun S => add_tt (by simp; omega)
  obtain ⟨b0, hb0, ob0⟩ : ∃ b : P, b = .tup ([.int (a : Int)] ++ xl.drop 1) ∧ Odd g b := ⟨_, rfl, .tup (oap (on .int) (odr 1 oxl))⟩
  obtain ⟨b1, hb1, ob1⟩ : ∃ b : P, b = .tup (xl.take 1 ++ [.int (a : Int)] ++ xl.drop 2) ∧ Odd g b := ⟨_, rfl, .tup (oap (oap (ot 1 oxl) (on .int)) (odr 2 oxl))⟩
  obtain ⟨b2, hb2, ob2⟩ : ∃ b : P, b = .tup (xl.take 3 ++ [.int 0] ++ xl.drop 4) ∧ Odd g b := ⟨_, rfl, .tup (oap (oap (ot 3 oxl) (on .int)) (odr 4 oxl))⟩
  obtain ⟨b3, hb3, ob3⟩ : ∃ b : P, b = .tup (xl.take 5 ++ [.bl true]) ∧ Odd g b := ⟨_, rfl, .tup (oap (ot 5 oxl) (on .bl))⟩
  obtain ⟨b5, hb5, ob5⟩ : ∃ b : P, b = .tup (xl.take 5) ∧ Odd g b := ⟨_, rfl, .tup (ot 5 oxl)⟩
  simp only [← hb0, ← hb1, ← hb2, ← hb3] at a2 a3 a5 a6
  obtain ⟨q, eq, oq⟩ : ∃ q : P, (∀ S : Store, aIx S (.dat (.lst [b0, b1, b2, b3, .lst xl, .tup (xl.take 5)])) (.dat (.int (r2 : Int))) = some (.dat q)) ∧ Odd g q := by
    rcases r2 with _ | _ | _ | _ | _ | _ | r2
    · exact ⟨_, fun _ => rfl, ob0⟩
    · exact ⟨_, fun _ => rfl, ob1⟩
    · exact ⟨_, fun _ => rfl, ob2⟩
    · exact ⟨_, fun _ => rfl, ob3⟩
    · exact ⟨_, fun _ => rfl, .lst oxl⟩
    · exact ⟨_, fun _ => rfl, .tup (ot 5 oxl)⟩
    · omega
  have w1 : ∀ S : Store, aAdd S (.dat (.tup (sl.take a))) (.dat (.tup [q])) = some (.dat (.tup (sl.take a ++ [q]))) := fun S => add_tt (by simp; omega)
  obtain ⟨nr, hnr⟩ : ∃ nr : P, nr = .tup (sl.take a ++ [q] ++ sl.drop (a + 1)) := ⟨_, rfl⟩
  have w2 : ∀ S : Store, aAdd S (.dat (.tup (sl.take a ++ [q]))) (.dat (.tup (sl.drop (a + 1)))) = some (.dat nr) := fun S => by rw [hnr]; exact add_tt (by simp; omega)
  have onr : Odd g nr := by rw [hnr]; exact .tup (oap (oap (ot a osl) (on oq)) (odr (a + 1) osl))
  have lnr : LenOk s.length nr := by rw [hnr]; exact lenok_tup (by simp; omega)
  have ap : ∀ S : Store, aAdd S (.dat (.int (a : Int))) (.dat (.int 1)) = some (.dat (.int ((a + 1 : Nat) : Int))) := fun S => rfl
  obtain ⟨big, hbig⟩ : ∃ big : List P, big = repP 65 sl := ⟨_, rfl⟩
  have rl : ∀ (n : Nat) (l : List P), (repP n l).length = n * l.length := fun n l => by
    induction n with
    | zero => unfold repP; simp
    | succ n ih => unfold repP; simp [Nat.succ_mul]; try omega
  have m65 : ∀ S : Store, aMul S (.dat (.tup sl)) (.dat (.int 65)) = some (.dat (.tup big)) := fun S => by
    rw [hbig]
    exact if_pos ⟨fun z => by rw [z] at hsl; simp at hsl; omega, by decide, by decide, by omega⟩
  have obig : Odd g (.tup big) := .tup fun p m => osl p (repP_mem (by rw [hbig] at m; exact m))
  have nbig : ¬ ShR (.tup big) := fun ⟨s2, R2, e⟩ => by
    have : big = s2.map hsP := P.tup.inj e
    have l2 := congrArg List.length this
    rw [hbig, rl, List.length_map] at l2
    have := R2.n64
    omega
  obtain ⟨th, hth⟩ : ∃ th : List P, th = [.tup sl, .tup sl, .tup sl, nr, nr, .lst sl, .non, .tup [], .int 0, .tup big, pd] := ⟨_, rfl⟩
  have thm' : [D.dat (.tup sl), D.dat (.tup sl), D.dat (.tup sl), D.dat nr, D.dat nr, D.dat (.lst sl), D.dat .non, D.dat (.tup []), D.dat (.int 0), D.dat (.tup big), D.dat pd] = th.map .dat := by rw [hth]; rfl
  have lth : th.length = 11 := by rw [hth]; rfl
  have gn : ((h3 :: rest) ++ [O.lst (th.map .dat)])[(h3 :: rest).length]? = some (.lst (th.map .dat)) := by rw [List.getElem?_append_right (Nat.le_refl _), Nat.sub_self]; rfl
  have app : updL fAppend (.obj (h3 :: rest).length) [.dat (forP g [none] [7])] ((h3 :: rest) ++ [O.lst (th.map .dat)]) = .ok (.dat .non) ((h3 :: rest) ++ [O.lst ((th ++ [forP g [none] [7]]).map .dat)]) := by
    rw [app_o gn (by rw [List.length_map]; omega)]
    rw [show th.map D.dat ++ [D.dat (forP g [none] [7])] = (th ++ [forP g [none] [7]]).map .dat by simp]
    congr 1
    rw [List.set_append_right _ _ (Nat.le_refl _), Nat.sub_self]; rfl
  have kk := kind_o gn
  obtain ⟨r4, h4, hr4, H4, e4⟩ := draw_s g H3 (rest := rest ++ [O.lst ((th ++ [forP g [none] [7]]).map .dat)]) (n := 12) (by omega) (by omega) (cs_app8 hc)
  have e4 : mScope (m_L_draw g) [.obj 0, .dat (.int 12)] ((h3 :: rest) ++ [O.lst ((th ++ [forP g [none] [7]]).map .dat)]) = .ok (.dat (.int (r4 : Int))) ((h4 :: rest) ++ [O.lst ((th ++ [forP g [none] [7]]).map .dat)]) := e4
  have g4 : ((h4 :: rest) ++ [O.lst ((th ++ [forP g [none] [7]]).map .dat)])[(h3 :: rest).length]? = some (.lst ((th ++ [forP g [none] [7]]).map .dat)) := by
    rw [List.getElem?_append_right (by simp), List.length_cons, List.length_cons, Nat.sub_self]; rfl
  have l12 : (th ++ [forP g [none] [7]]).length = 12 := by rw [List.length_append, lth]; rfl
  obtain ⟨p, ep⟩ : ∃ p, (th ++ [forP g [none] [7]])[r4]? = some p := ⟨_, List.getElem?_eq_getElem (by omega)⟩
  have ixp : aIx ((h4 :: rest) ++ [O.lst ((th ++ [forP g [none] [7]]).map .dat)]) (.obj (h3 :: rest).length) (.dat (.int (r4 : Int))) = some (.dat p) := ix_o g4 (atN (map_get ep))
  have good : Odd g p ∧ LenOk s.length p := by
    have m := List.mem_of_getElem? ep
    rcases List.mem_append.mp m with m | m
    · rw [hth] at m
      simp only [List.mem_cons, List.not_mem_nil, or_false] at m
      have nt : ∀ {p : P}, (∀ l, p ≠ .tup l) → ¬ ShR p := fun z ⟨s2, _, e⟩ => z _ e
      rcases m with rfl | rfl | rfl | rfl | rfl | rfl | rfl | rfl | rfl | rfl | rfl
      · exact ⟨.tup osl, lenok_tup hsl.2⟩
      · exact ⟨.tup osl, lenok_tup hsl.2⟩
      · exact ⟨.tup osl, lenok_tup hsl.2⟩
      · exact ⟨onr, lnr⟩
      · exact ⟨onr, lnr⟩
      · exact ⟨.lst osl, lenok_no (nt fun l e => nomatch e)⟩
      · exact ⟨.non, lenok_no (nt fun l e => nomatch e)⟩
      · refine ⟨.tup (fun p m => nomatch m), lenok_no fun ⟨s2, R2, e⟩ => ?_⟩
        have : ([] : List P) = s2.map hsP := P.tup.inj e
        have l2 := congrArg List.length this
        rw [List.length_map] at l2
        have := R2.n1
        simp at l2
        omega
      · exact ⟨.int, lenok_no (nt fun l e => nomatch e)⟩
      · exact ⟨obig, lenok_no nbig⟩
      · exact ⟨od, lenok_no dp.no⟩
    · rw [List.mem_singleton.mp m]
      exact ⟨.frs, lenok_no fun ⟨s2, _, e⟩ => nomatch e⟩
  refine ⟨p, h4, good.1, good.2, H4, scope_u (t := [O.lst ((th ++ [forP g [none] [7]]).map .dat)]) ?_ rfl (cs_hand H4 hc)⟩
  have l1 : (1 : Nat) ≤ 100000 := by decide
  have l2 : (2 : Nat) ≤ 100000 := by decide
  have l6 : (6 : Nat) ≤ 100000 := by decide
  have l0 : (0 : Nat) ≤ 100000 := by decide
  have l11 : (th.map D.dat).length ≤ 100000 := by rw [List.length_map, lth]; decide
  have lsx3 : ∀ (S : Store) (x0 x1 x2 x4 x5 x6 x7 : Option D), mList (mCons (mVar 3) mNil) [x0, x1, x2, some (.dat (.tup xl)), x4, x5, x6, x7] S = .ok (xl.map .dat) S := fun S x0 x1 x2 x4 x5 x6 x7 => by
    unfold mList
    dsimp! [seqD_t]
  have lsx1 : ∀ (S : Store) (x0 x2 x3 x4 x5 x6 x7 : Option D), mList (mCons (mVar 1) mNil) [x0, some (.dat (.tup sl)), x2, x3, x4, x5, x6, x7] S = .ok (sl.map .dat) S := fun S x0 x2 x3 x4 x5 x6 x7 => by
    unfold mList
    dsimp! [seqD_t]
  simp only [List.cons_append, List.length_cons] at kk app e4 ixp
  rw [hsl.1]
  unfold m_L_odd_shape mBM
  dsimp! [ln, e1, ix, mSl_ap, moN_ap, moS_ap, t1, t3, t5, d1, d2, d4, l1, l0, a1, a2, a3, a4, a5, a6, lsx3, l6, tk_t, dr_t, e2, eq, w1, ap, w2, lsx1, m65, e3, thm', l11, kk, one_frs X, app, e4, ixp]
end W3
namespace W3
open PySem PySem.Spec PyProof.Rows L2 M3
section
variable {g : G} (X : Gx g)
include X
theorem ne_sh : g.NoShape ≠ g.NoHouse := fun e => by
  have h1 := X.ke_NoShape_NoHouse
  rw [e, X.ke_NoHouse_NoHouse] at h1
  cases h1
theorem ne_st : g.NoShape ≠ g.NoTurn := fun e => by
  have h1 := X.ke_NoShape_NoTurn
  rw [e, X.ke_NoTurn_NoTurn] at h1
  cases h1
theorem ne_sn : g.NoShape ≠ g.NoNumber := fun e => by
  have h1 := X.ke_NoShape_NoNumber
  rw [e, X.ke_NoNumber_NoNumber] at h1
  cases h1
theorem ne_ht : g.NoHouse ≠ g.NoTurn := fun e => by
  have h1 := X.ke_NoHouse_NoTurn
  rw [e, X.ke_NoTurn_NoTurn] at h1
  cases h1
theorem ne_hn : g.NoHouse ≠ g.NoNumber := fun e => by
  have h1 := X.ke_NoHouse_NoNumber
  rw [e, X.ke_NoNumber_NoNumber] at h1
  cases h1
theorem ne_tn : g.NoTurn ≠ g.NoNumber := fun e => by
  have h1 := X.ke_NoTurn_NoNumber
  rw [e, X.ke_NoNumber_NoNumber] at h1
  cases h1
theorem w_shape (S : Store) : mWord (wl_L_word g) (.exc g.NoShape none S) = .ok (.dat (.str "shape")) S := by
  have : wordOf (wl_L_word g) g.NoShape = some ("shape" : Str) := by
    unfold wordOf wl_L_word
    simp
  unfold mWord
  simp only [this]
theorem w_house (S : Store) : mWord (wl_L_word g) (.exc g.NoHouse none S) = .ok (.dat (.str "house")) S := by
  have : wordOf (wl_L_word g) g.NoHouse = some ("house" : Str) := by
    unfold wordOf wl_L_word
    simp [ne_sh X]
  unfold mWord
  simp only [this]
theorem w_turn (S : Store) : mWord (wl_L_word g) (.exc g.NoTurn none S) = .ok (.dat (.str "turn")) S := by
  have : wordOf (wl_L_word g) g.NoTurn = some ("turn" : Str) := by
    unfold wordOf wl_L_word
    simp [ne_st X, ne_ht X]
  unfold mWord
  simp only [this]
theorem w_number (S : Store) : mWord (wl_L_word g) (.exc g.NoNumber none S) = .ok (.dat (.str "number")) S := by
  have : wordOf (wl_L_word g) g.NoNumber = some ("number" : Str) := by
    unfold wordOf wl_L_word
    simp [ne_sn X, ne_hn X, ne_tn X]
  unfold mWord
  simp only [this]
end
theorem bet_nat {n : Nat} {p : P} (h : bet 0 ((n : Int) - 1) p = true) : ∃ k : Nat, p = nv k ∧ k < n := by
  cases p with
  | int i =>
    have h : (decide (0 ≤ i) && decide (i ≤ (n : Int) - 1)) = true := h
    rw [Bool.and_eq_true, decide_eq_true_eq, decide_eq_true_eq] at h
    refine ⟨i.toNat, ?_, by omega⟩
    show P.int i = P.int (i.toNat : Int)
    rw [Int.toNat_of_nonneg h.1]
  | _ => cases h
theorem ne_str (S : Store) (z : Str) : aNe S (.dat (.str z)) (.dat (.str z)) = some (.dat (.bl false)) := by
  show some (D.dat (.bl (!decide (z = z)))) = _
  rw [decide_eq_true rfl]; rfl
theorem lamw_ok {wm : R D → R D} {m : DE} {δ : DEnv} {S S' : Store} {r : R D} {d : D} (h : m δ S = r) (e : wm r = .ok d S') : mLamW wm m δ S = .ok d S' := by
  unfold mLamW
  rw [h, e]
theorem callv_ok {i : Nat} {tb : List (Addr × (List D → Store → R D))} {a : DA} {δ : DEnv} {S : Store} {f : Addr} {m : List D → Store → R D} (hd : δ[i]? = some (some (.dat (.con (.ref f))))) (hf : tb.find? (fun p => p.1 == f) = some (f, m)) : mCallV i tb a δ S = mDef 1 m a δ S := by
  unfold mCallV
  rw [hd]
  simp only [hf]
abbrev tbl (g : G) : List (Addr × (List D → Store → R D)) := [(g.V "rows", (mPure (m_rows g))), (g.V "told_forest", (mPure (m_told_forest g))), (g.V "weights", (mPure (m_weights g))), (g.V "potential", (mPure (m_potential g)))]
/-- the calls of one argument -/
theorem lam4 {g : G} (X : Gx g) {p : P} (op : Odd g p) {b : Bool} (hb : b = true ↔ ShR p) {f : Addr} (hf : f ∈ [g.V "rows", g.V "told_forest", g.V "weights", g.V "potential"]) {δ : DEnv} {S : Store} (h7 : δ[7]? = some (some (.dat (.con (.ref f))))) (h4 : δ[4]? = some (some (.dat p))) :
    mLamW (mWord (wl_L_word g)) (mCallV 7 (tbl g) (mCons (mVar 4) mNil)) δ S = .ok (.dat (.str (if b = true then "let" else "shape"))) S := by
  have n1 := X.nv_potential_rows
  have n2 := X.nv_potential_told_forest
  have n3 := X.nv_potential_weights
  have n4 := X.nv_rows_told_forest
  have n5 := X.nv_rows_weights
  have n6 := X.nv_told_forest_weights
  have c4 : (g.V "rows" == g.V "told_forest") = false := beq_eq_false_iff_ne.mpr n4
  have c5 : (g.V "rows" == g.V "weights") = false := beq_eq_false_iff_ne.mpr n5
  have c6 : (g.V "told_forest" == g.V "weights") = false := beq_eq_false_iff_ne.mpr n6
  have c1 : (g.V "rows" == g.V "potential") = false := beq_eq_false_iff_ne.mpr (Ne.symm n1)
  have c2 : (g.V "told_forest" == g.V "potential") = false := beq_eq_false_iff_ne.mpr (Ne.symm n2)
  have c3 : (g.V "weights" == g.V "potential") = false := beq_eq_false_iff_ne.mpr (Ne.symm n3)
  have f1 : (tbl g).find? (fun p => p.1 == g.V "rows") = some (g.V "rows", mPure (m_rows g)) := by simp only [tbl, List.find?, beq_self_eq_true]
  have f2 : (tbl g).find? (fun p => p.1 == g.V "told_forest") = some (g.V "told_forest", mPure (m_told_forest g)) := by simp only [tbl, List.find?, beq_self_eq_true, c4]
  have f3 : (tbl g).find? (fun p => p.1 == g.V "weights") = some (g.V "weights", mPure (m_weights g)) := by simp only [tbl, List.find?, beq_self_eq_true, c5, c6]
  have f4 : (tbl g).find? (fun p => p.1 == g.V "potential") = some (g.V "potential", mPure (m_potential g)) := by simp only [tbl, List.find?, beq_self_eq_true, c1, c2, c3]
  simp only [List.mem_cons, List.not_mem_nil, or_false] at hf
  obtain ⟨m, em, ew⟩ : ∃ m, (tbl g).find? (fun p => p.1 == f) = some (f, m) ∧ mWord (wl_L_word g) (m [.dat p] S) = .ok (.dat (.str (if b = true then "let" else "shape"))) S := by
    cases b with
    | false =>
      have ns : ¬ ShR p := fun z => nomatch hb.mpr z
      rcases hf with rfl | rfl | rfl | rfl
      · exact ⟨_, f1, by rw [rows_no X op ns]; exact w_shape X S⟩
      · exact ⟨_, f2, by rw [told_no X op ns]; exact w_shape X S⟩
      · exact ⟨_, f3, by rw [weights_no X op ns]; exact w_shape X S⟩
      · exact ⟨_, f4, by rw [pot_no X op ns]; exact w_shape X S⟩
    | true =>
      obtain ⟨s, R, rfl⟩ := hb.mp rfl
      obtain ⟨ps, ws, W⟩ := R.told_ex
      obtain ⟨fs, h1, h2, e3⟩ := weights_t X R S
      rcases hf with rfl | rfl | rfl | rfl
      · exact ⟨_, f1, by rw [rows_t X R S]; rfl⟩
      · exact ⟨_, f2, by rw [told_t X R W S]; rfl⟩
      · exact ⟨_, f3, by rw [e3]; rfl⟩
      · exact ⟨_, f4, by rw [potential_t X R h1 h2 S]; rfl⟩
  refine lamw_ok (r := m [.dat p] S) ?_ ew
  rw [callv_ok h7 em]
  dsimp! [h4]
/-- handing on -/
def w2 (b h : Bool) : Str := if b = true then (if h = true then "let" else "house") else "shape"
theorem lam_handed {g : G} (X : Gx g) {p q : P} (op : Odd g p) (oq : Odd g q) {b : Bool} (hb : b = true ↔ ShR p) {n : Nat} (hn : LenOk n p) (S : Store) :
    mWord (wl_L_word g) (mPure (m_handed_on g) [.dat p, .dat q] S) = .ok (.dat (.str (w2 b (bet 0 ((n : Int) - 1) q)))) S := by
  cases b with
  | false =>
    rw [handed_no X op fun z => nomatch hb.mpr z]
    exact w_shape X S
  | true =>
    obtain ⟨s, R, rfl⟩ := hb.mp rfl
    have := hn s R rfl
    subst this
    cases c : bet 0 ((s.length : Int) - 1) q with
    | false =>
      rw [handed_house X R oq c]
      exact w_house X S
    | true =>
      obtain ⟨k, rfl, hk⟩ := bet_nat c
      rw [handed_on_t X R hk]
      rfl
/-- turning up: the third word -/
theorem lam_turned {g : G} (X : Gx g) {p q : P} (op : Odd g p) (oq : Odd g q) {b : Bool} (hb : b = true ↔ ShR p) {n : Nat} (hn : LenOk n p) (S : Store) :
    ∃ (w3 : Str), mWord (wl_L_word g) (mPure (m_turned_up g) [.dat p, .dat q] S) = .ok (.dat (.str w3)) S ∧ ((b && bet 0 ((n : Int) - 1) q) = false → w3 = w2 b (bet 0 ((n : Int) - 1) q)) ∧
      ((b && bet 0 ((n : Int) - 1) q) = true → ∃ t : Bool, (∀ S : Store, mPure (m_L_is_son g) [.dat p, .dat q] S = .ok (.dat (.bl t)) S) ∧ w3 = if t = true then ("let" : Str) else ("turn" : Str)) := by
  cases b with
  | false =>
    rw [turned_no X op fun z => nomatch hb.mpr z]
    exact ⟨_, w_shape X S, fun _ => rfl, fun z => nomatch z⟩
  | true =>
    obtain ⟨s, R, rfl⟩ := hb.mp rfl
    have := hn s R rfl
    subst this
    cases c : bet 0 ((s.length : Int) - 1) q with
    | false =>
      rw [turned_house X R oq c]
      exact ⟨_, w_house X S, fun _ => rfl, fun z => nomatch z⟩
    | true =>
      obtain ⟨k, rfl, hk⟩ := bet_nat c
      cases cs : sonB s k with
      | false =>
        rw [turned_top X R hk cs]
        exact ⟨_, w_turn X S, (fun z => nomatch z), fun _ => ⟨false, fun S => by rw [Lj_son R hk S, cs], rfl⟩⟩
      | true =>
        obtain ⟨a, so⟩ := R.sonB.mp cs
        rw [turned_up_t X R so]
        exact ⟨_, rfl, (fun z => nomatch z), fun _ => ⟨true, fun S => by rw [Lj_son R hk S, cs], rfl⟩⟩
/-- a number that rank lets -/
theorem lam_rank {g : G} (X : Gx g) {q : P} (oq : Odd g q) (hq : ∀ i, q = .int i → i ≤ 1000000000000000000000) (S : Store) :
    mWord (wl_L_word g) (mPure (m_rank g) [.dat q] S) = .ok (.dat (.str (if bet 1 1000000000000000000000 q = true then "let" else "number"))) S := by
  rcases rank_any X oq S with ⟨k, hk, rfl, e⟩ | ⟨n, e⟩
  · have : bet 1 1000000000000000000000 (.int (k : Int)) = true := by
      have := hq _ rfl
      show (decide (1 ≤ (k : Int)) && decide ((k : Int) ≤ 1000000000000000000000)) = true
      rw [decide_eq_true (by omega), decide_eq_true this]; rfl
    rw [if_pos this, e]
    rfl
  · have : ¬ bet 1 1000000000000000000000 q = true := by
      cases q with
      | int i =>
        show ¬ (decide (1 ≤ i) && decide (i ≤ 1000000000000000000000)) = true
        rw [Bool.and_eq_true, decide_eq_true_eq]
        intro z
        exact n i.toNat (by omega) (by rw [Int.toNat_of_nonneg (by omega)])
      | _ => exact fun z => nomatch z
    rw [if_neg this, e]
    exact w_number X S
theorem eqs (S : Store) (a b : Str) : aEq S (.dat (.str a)) (.dat (.str b)) = some (.dat (.bl (decide (a = b)))) := rfl
theorem s_sl : decide (("shape" : Str) = "let") = false := by decide +kernel
theorem s_hl : decide (("house" : Str) = "let") = false := by decide +kernel
theorem s_ll : decide (("let" : Str) = "let") = true := by decide +kernel
theorem law_true (g : G) (X : Gx g) : ∀ ns : List Int, ns.length ≤ 63 → ∃ S, m_law g [.dat (.scr ns)] [] = .ok (.dat (.bl true)) S := by
  intro ns hn
  obtain ⟨h, H, e0⟩ := hand8 g ns
  suffices z : ∃ d S, m_law g [.dat (.scr ns)] [] = .ok d S ∧ d = .dat (.bl true) from let ⟨d, S, e, z⟩ := z; ⟨S, z ▸ e⟩
  obtain ⟨r1, h1, hr1, H1, e1⟩ := draw_s g H (n := 12) (by omega) (by omega) cs_nil
  have ad : ∀ S : Store, aAdd S (.dat (.int 1)) (.dat (.int (r1 : Int))) = some (.dat (.int ((1 + r1 : Nat) : Int))) := fun _ => by
    show some (D.dat (.int (1 + (r1 : Int)))) = _
    rw [show (1 : Int) + (r1 : Int) = ((1 + r1 : Nat) : Int) by omega]
  obtain ⟨s, h2, R, ls, H2, e2⟩ := shape8 g H1 (n := 1 + r1) (by omega) (by omega)
  have l1 : (1 : Nat) ≤ 100000 := by decide
  have l2 : (2 : Nat) ≤ 100000 := by decide
  have l4 : (4 : Nat) ≤ 100000 := by decide
  have l8 : (8 : Nat) ≤ 100000 := by decide
  have l11 : (11 : Nat) ≤ 100000 := by decide
  have lns : ∀ S : Store, aLen S [.dat (shP s)] = some (.dat (.int (s.length : Int))) := fun S => by unfold shP; rw [len_t, List.length_map]
  have n1 := R.n1
  have n64 := R.n64
  have pw19 : ∀ S : Store, aPow S (.dat (.int 10)) (.dat (.int 19)) = some (.dat (.int 10000000000000000000)) := fun S => pow_ii (by decide) (by decide) (by decide)
  have pw21 : ∀ S : Store, aPow S (.dat (.int 10)) (.dat (.int 21)) = some (.dat (.int 1000000000000000000000)) := fun S => pow_ii (by decide) (by decide) (by decide)
  have pw60 : ∀ S : Store, aPow S (.dat (.int 2)) (.dat (.int 60)) = some (.dat (.int 1152921504606846976)) := fun S => pow_ii (by decide) (by decide) (by decide)
  have ng : ∀ S : Store, aNeg S (.dat (.int 1)) = some (.dat (.int (-1))) := fun _ => rfl
  unfold m_law
  rw [mBody_fin]
  refine fin_ends ?_
  dsimp! [e0, e1, ad, e2]
  rw [for_items (rng0_ok (n := 5) (by dsimp! [] <;> rfl) (by omega))]
  refine then_ends (Q1 := fun o' S' => ∃ δ, o' = .nx δ) ?_ (fun o' S' ⟨δ, e⟩ => by subst e; dsimp! []; exact .of ⟨_, rfl, rfl⟩)
  refine forL_ends (fun i δ S' => ∃ (x3 x4 x5 x6 x7 x8 x9 x10 x11 : Option D) (h' : O), δ = [some (.dat (.scr ns)), some (.obj 0), some (.dat (shP s)), x3, x4, x5, x6, x7, x8, x9, x10, x11] ∧ Hd h' ∧ S' = [h']) (i := 0) ⟨_, _, _, _, _, _, _, _, _, h2, rfl, H2, rfl⟩ ?_ (fun δ S' _ => ⟨δ, rfl⟩)
  clear e0 e1 e2 H H1 H2 h h1 h2
  rintro i d δ S ed ⟨x3, x4, x5, x6, x7, x8, x9, x10, x11, h0, rfl, H0, rfl⟩
  obtain ⟨p, h1, op, lp, H1, e1⟩ := oddsh_s X H0 cs_nil R
  obtain ⟨b, ej, hb⟩ := Lj_shape_any X op [h1]
  obtain ⟨w1, hw1⟩ : ∃ w1 : Str, w1 = if b = true then ("let" : Str) else ("shape" : Str) := ⟨_, rfl⟩
  have ein : ∀ S : Store, aInt S [.dat (.bl b)] = some (.dat (.int (if b then 1 else 0))) := fun _ => rfl
  have eix : ∀ S : Store, aIx S (.dat (.lst [.str "shape", .str "let"])) (.dat (.int (if b then 1 else 0))) = some (.dat (.str w1)) := fun S => by
    rw [hw1]; cases b <;> rfl
  dsimp! [e1, ej, l2, ein, eix, l4]
  rw [for_items (l := [g.V "rows", g.V "told_forest", g.V "weights", g.V "potential"].map fun f => .dat (.con (.ref f))) (S1 := [h1]) (by
    rw [walk_l (l := [.con (.ref (g.V "rows")), .con (.ref (g.V "told_forest")), .con (.ref (g.V "weights")), .con (.ref (g.V "potential"))]) (S1 := [h1]) (by dsimp! [l4])]; rfl)]
  refine then_ends (Q1 := fun o' S' => ∃ x7 : Option D, o' = .nx [some (.dat (.scr ns)), some (.obj 0), some (.dat (shP s)), some d, some (.dat p), some (.dat (.bl b)), some (.dat (.str w1)), x7, x8, x9, x10, x11] ∧ S' = [h1]) ?_ ?_
  · refine forL_ends (fun i δ S' => ∃ x7 : Option D, δ = [some (.dat (.scr ns)), some (.obj 0), some (.dat (shP s)), some d, some (.dat p), some (.dat (.bl b)), some (.dat (.str w1)), x7, x8, x9, x10, x11] ∧ S' = [h1]) (i := 0) ⟨_, rfl, rfl⟩ ?_ (fun δ S' ⟨x7, a, b⟩ => ⟨x7, by rw [a], b⟩)
    rintro j d' δ S' ed' ⟨x7, rfl, rfl⟩
    rw [List.getElem?_map] at ed'
    cases ef : ([g.V "rows", g.V "told_forest", g.V "weights", g.V "potential"] : List Addr)[j]? with
    | none => rw [ef] at ed'; cases ed'
    | some f =>
      rw [ef] at ed'
      cases ed'
      have el := lam4 X op hb (List.mem_of_getElem? ef) (δ := [some (.dat (.scr ns)), some (.obj 0), some (.dat (shP s)), some d, some (.dat p), some (.dat (.bl b)), some (.dat (.str w1)), some (.dat (.con (.ref f))), x8, x9, x10, x11]) (S := [h1]) rfl rfl
      rw [← hw1] at el
      unfold tbl at el
      dsimp! [el, ne_str]
      exact .of (tm ⟨_, rfl, rfl⟩)
  rintro o' S' ⟨x7, rfl, rfl⟩
  -- the house
  obtain ⟨r2, h2, hr2, H2, e2⟩ := draw_s g H1 (n := (s.length : Int)) (by omega) (by omega) cs_nil
  obtain ⟨r3, h3, hr3, H3, e3⟩ := draw_s g H2 (n := 3) (by omega) (by omega) cs_nil
  have eq3 : ∀ S : Store, aEq S (.dat (.int (r3 : Int))) (.dat (.int 0)) = some (.dat (.bl (decide ((r3 : Int) = 0)))) := fun _ => rfl
  dsimp! [lns, e2]
  refine then_ends (Q1 := fun o' S' => ∃ (q : P) (h4 : O), o' = .nx [some (.dat (.scr ns)), some (.obj 0), some (.dat (shP s)), some d, some (.dat p), some (.dat (.bl b)), some (.dat (.str w1)), x7, some (.dat (.int (s.length : Int))), some (.dat q), x10, x11] ∧ Odd g q ∧ Hd h4 ∧ S' = [h4]) ?_ ?_
  · by_cases c : (r3 : Int) = 0
    · obtain ⟨r4, h4, hr4, H4, e4⟩ := draw_s g H3 (n := 8) (by omega) (by omega) cs_nil
      obtain ⟨q, eq, oq⟩ : ∃ q : P, (∀ S : Store, aIx S (.dat (.lst [.int (s.length : Int), .int (-1), .bl true, .non, .str "0", .tup [.int 0], .int 10000000000000000000, forP g [none] [7]])) (.dat (.int (r4 : Int))) = some (.dat q)) ∧ Odd g q := by
        rcases r4 with _ | _ | _ | _ | _ | _ | _ | _ | r4
        · exact ⟨_, fun _ => rfl, .int⟩
        · exact ⟨_, fun _ => rfl, .int⟩
        · exact ⟨_, fun _ => rfl, .bl⟩
        · exact ⟨_, fun _ => rfl, .non⟩
        · exact ⟨_, fun _ => rfl, .str⟩
        · exact ⟨_, fun _ => rfl, .tup fun p m => by rw [List.mem_singleton.mp m]; exact .int⟩
        · exact ⟨_, fun _ => rfl, .int⟩
        · exact ⟨_, fun _ => rfl, .frs⟩
        · omega
      dsimp! [e3, eq3, decide_eq_true c, ng, l1, pw19, one_frs X, l8, e4, eq]
      exact .of ⟨q, h4, rfl, oq, H4, rfl⟩
    · dsimp! [e3, eq3, decide_eq_false c]
      exact .of ⟨_, h3, rfl, .int, H3, rfl⟩
  clear e2 e3 eq3 H3 H2 hr3 hr2 r3 r2 h2 h3
  rintro o' S' ⟨q, h4, rfl, oq, H4, rfl⟩
  have sb : ∀ S : Store, aSub S (.dat (.int (s.length : Int))) (.dat (.int 1)) = some (.dat (.int ((s.length : Int) - 1))) := fun _ => rfl
  have nm := fun S => Lj_number X (lo := 0) (hi := (s.length : Int) - 1) oq S
  have lh := lam_handed X op oq hb lp [h4]
  obtain ⟨w3, lt, lt0, lt1⟩ := lam_turned X op oq hb lp [h4]
  -- the number
  obtain ⟨p5, h5, dp5, wr5, op5, H5, e5⟩ := deep_s g H4 cs_nil
  obtain ⟨r6, h6, hr6, H6, e6⟩ := draw_s g H5 (n := 11) (by omega) (by omega) cs_nil
  obtain ⟨z, ez, oz, hz⟩ : ∃ z : P, (∀ S : Store, aIx S (.dat (.lst [.int 1, .int 1152921504606846976, .int 0, .int (-1), .bl true, .non, .str "1", .tup [.int 1], .lst [.int 1], p5, forP g [none] [7]])) (.dat (.int (r6 : Int))) = some (.dat z)) ∧ Odd g z ∧ ∀ i, z = .int i → i ≤ 1000000000000000000000 := by
    have o1 : ∀ p ∈ [P.int 1], Odd g p := fun p m => by rw [List.mem_singleton.mp m]; exact .int
    rcases r6 with _ | _ | _ | _ | _ | _ | _ | _ | _ | _ | _ | r6
    · exact ⟨_, fun _ => rfl, .int, fun i e => by cases e; omega⟩
    · exact ⟨_, fun _ => rfl, .int, fun i e => by cases e; omega⟩
    · exact ⟨_, fun _ => rfl, .int, fun i e => by cases e; omega⟩
    · exact ⟨_, fun _ => rfl, .int, fun i e => by cases e; omega⟩
    · exact ⟨_, fun _ => rfl, .bl, fun i e => nomatch e⟩
    · exact ⟨_, fun _ => rfl, .non, fun i e => nomatch e⟩
    · exact ⟨_, fun _ => rfl, .str, fun i e => nomatch e⟩
    · exact ⟨_, fun _ => rfl, .tup o1, fun i e => nomatch e⟩
    · exact ⟨_, fun _ => rfl, .lst o1, fun i e => nomatch e⟩
    · exact ⟨_, fun _ => rfl, op5, fun i e => absurd e (wr5.no i)⟩
    · exact ⟨_, fun _ => rfl, .frs, fun i e => nomatch e⟩
    · omega
  have lr := lam_rank X oz hz [h6]
  have nz := Lj_number X (lo := 1) (hi := 1000000000000000000000) oz [h6]
  obtain ⟨bz, hbz⟩ : ∃ bz : Bool, bz = bet 1 1000000000000000000000 z := ⟨_, rfl⟩
  rw [← hbz] at lr nz
  obtain ⟨wz, hwz⟩ : ∃ wz : Str, wz = if bz = true then ("let" : Str) else ("number" : Str) := ⟨_, rfl⟩
  rw [← hwz] at lr
  have einz : ∀ S : Store, aInt S [.dat (.bl bz)] = some (.dat (.int (if bz then 1 else 0))) := fun _ => rfl
  have eixz : ∀ S : Store, aIx S (.dat (.lst [.str "number", .str "let"])) (.dat (.int (if bz then 1 else 0))) = some (.dat (.str wz)) := fun S => by
    rw [hwz]; cases bz <;> rfl
  have Lh : ∀ (x6 x10 x11 : Option D), mLamW (mWord (wl_L_word g)) (mDef 2 (mPure (m_handed_on g)) (mCons (mVar 4) (mCons (mVar 9) mNil))) [some (.dat (.scr ns)), some (.obj 0), some (.dat (shP s)), some d, some (.dat p), some (.dat (.bl b)), x6, x7, some (.dat (.int (s.length : Int))), some (.dat q), x10, x11] [h4] = .ok (.dat (.str (w2 b (bet 0 ((s.length : Int) - 1) q)))) [h4] := fun x6 x10 x11 =>
    lamw_ok (r := mPure (m_handed_on g) [.dat p, .dat q] [h4]) (by dsimp! []) lh
  have Lt : ∀ (x6 x10 x11 : Option D), mLamW (mWord (wl_L_word g)) (mDef 2 (mPure (m_turned_up g)) (mCons (mVar 4) (mCons (mVar 9) mNil))) [some (.dat (.scr ns)), some (.obj 0), some (.dat (shP s)), some d, some (.dat p), some (.dat (.bl b)), x6, x7, some (.dat (.int (s.length : Int))), some (.dat q), x10, x11] [h4] = .ok (.dat (.str w3)) [h4] := fun x6 x10 x11 =>
    lamw_ok (r := mPure (m_turned_up g) [.dat p, .dat q] [h4]) (by dsimp! []) lt
  have Lr : ∀ (x6 x10 : Option D), mLamW (mWord (wl_L_word g)) (mDef 1 (mPure (m_rank g)) (mCons (mVar 11) mNil)) [some (.dat (.scr ns)), some (.obj 0), some (.dat (shP s)), some d, some (.dat p), some (.dat (.bl b)), x6, x7, some (.dat (.int (s.length : Int))), some (.dat q), x10, some (.dat z)] [h6] = .ok (.dat (.str wz)) [h6] := fun x6 x10 =>
    lamw_ok (r := mPure (m_rank g) [.dat z] [h6]) (by dsimp! []) lr
  have fin : ∀ x6 x9 x10 x11 : Option D, TurnP (fun δ S' => ∃ (x3 x4 x5 x6 x7 x8 x9 x10 x11 : Option D) (h' : O), δ = [some (.dat (.scr ns)), some (.obj 0), some (.dat (shP s)), x3, x4, x5, x6, x7, x8, x9, x10, x11] ∧ Hd h' ∧ S' = [h']) (fun o' S' => ∃ δ, o' = .nx δ) (.nx [some (.dat (.scr ns)), some (.obj 0), some (.dat (shP s)), some d, some (.dat p), some (.dat (.bl b)), x6, x7, some (.dat (.int (s.length : Int))), x9, x10, x11]) [h6] := fun _ _ _ _ => ⟨_, _, _, _, _, _, _, _, _, h6, rfl, H6, rfl⟩
  cases b with
  | false =>
    have e3' : w3 = w2 false (bet 0 ((s.length : Int) - 1) q) := lt0 rfl
    have hw : w1 = "shape" := hw1
    subst hw
    rw [e3'] at Lt
    have ew : ∀ x, w2 false x = "shape" := fun _ => rfl
    simp only [ew] at Lh Lt
    dsimp! [eqs, s_sl, Lh, Lt, ne_str, pw60, ng, l1, e5, one_frs X, l11, e6, ez, Lr, pw21, nz, einz, l2, eixz]
    exact .of (fin _ _ _ _)
  | true =>
    have hw : w1 = "let" := hw1
    subst hw
    cases c : bet 0 ((s.length : Int) - 1) q with
    | false =>
      rw [c] at lt0 nm Lh
      have e3' : w3 = w2 true false := lt0 rfl
      rw [e3'] at Lt
      have ew : w2 true false = "house" := rfl
      simp only [ew] at Lh Lt
      dsimp! [eqs, s_ll, s_hl, sb, nm, Lh, Lt, ne_str, pw60, ng, l1, e5, one_frs X, l11, e6, ez, Lr, pw21, nz, einz, l2, eixz]
      exact .of (fin _ _ _ _)
    | true =>
      rw [c] at lt1 nm Lh
      have ew : w2 true true = "let" := rfl
      simp only [ew] at Lh
      obtain ⟨t, et, ewt⟩ := lt1 rfl
      cases t with
      | true =>
        have ewt : w3 = "let" := ewt
        subst ewt
        dsimp! [eqs, s_ll, s_hl, sb, nm, Lh, Lt, et, ne_str, pw60, ng, l1, e5, one_frs X, l11, e6, ez, Lr, pw21, nz, einz, l2, eixz]
        exact .of (fin _ _ _ _)
      | false =>
        have ewt : w3 = "turn" := ewt
        subst ewt
        dsimp! [eqs, s_ll, s_hl, sb, nm, Lh, Lt, et, ne_str, pw60, ng, l1, e5, one_frs X, l11, e6, ez, Lr, pw21, nz, einz, l2, eixz]
        exact .of (fin _ _ _ _)
end W3
namespace W3
open PySem PySem.Spec PyProof.Rows L2 M3
section
variable [TabsP]
variable {P : Program} {w : World} {g : G} {mg : Str → Option Value} {base : Heap} {f_eBadForest f_eNoHouse f_eNoNumber f_eNoShape f_eNoTurn f_iForest f_iStand : Addr}
theorem ok_all (T : Txt mg) (Z : Fx g w mg f_eBadForest f_eNoHouse f_eNoNumber f_eNoShape f_eNoTurn f_iForest f_iStand) (GX : Gx g) {fd_Stand_init : FuncData} (FN_Stand_init : Fun g.K "__init__" "Stand.__init__" s_Stand_init f_iStand fd_Stand_init) (B_Stand_init : Binds g.K fd_Stand_init ["self", "part"] []) {fd_Forest_init : FuncData} (FN_Forest_init : Fun g.K "__init__" "Forest.__init__" s_Forest_init f_iForest fd_Forest_init) (B_Forest_init : Binds g.K fd_Forest_init ["self", "parents", "worths"] []) {f0 : Addr} {fd0 : FuncData} (FL : Fun g.K "law" "law" s_law f0 fd0) (D_L_word : M3.Def g.K mg "_law_word" s_L_word ["call"]) (D_is_integer : M3.Def g.K mg "is_integer" s_is_integer ["thing"]) (D_come_to_roots : M3.Def g.K mg "come_to_roots" s_come_to_roots ["parents"]) (D_has_its_sons : M3.Def g.K mg "_has_its_sons" s_has_its_sons ["parts", "house"]) (D_shape_of : M3.Def g.K mg "shape_of" s_shape_of ["stands"]) (D_is_top : M3.Def g.K mg "is_top" s_is_top ["stands", "house"]) (D_line_up : M3.Def g.K mg "line_up" s_line_up ["stands", "house"]) (D_hand_on : M3.Def g.K mg "hand_on" s_hand_on ["stands", "house"]) (D_take_place : M3.Def g.K mg "_take_place" s_take_place ["stands", "house", "ahead"]) (D_L_hand : M3.Def g.K mg "_law_hand" s_L_hand ["script"]) (D_L_draw : M3.Def g.K mg "_law_draw" s_L_draw ["hand", "many"]) (D_L_number : M3.Def g.K mg "_law_number" s_L_number ["thing", "least", "most"]) (D_L_is_integer : M3.Def g.K mg "_law_is_integer" s_L_is_integer ["thing"]) (D_L_house : M3.Def g.K mg "_law_house" s_L_house ["up", "value"]) (D_L_is_son : M3.Def g.K mg "_law_is_son" s_L_is_son ["shape", "house"]) (D_is_between : M3.Def g.K mg "is_between" s_is_between ["least", "most", "thing"]) (D_are_worths : M3.Def g.K mg "_are_worths" s_are_worths ["thing", "houses"]) (D_rank : M3.Def g.K mg "rank" s_rank ["number"]) (D_told_worth : M3.Def g.K mg "_told_worth" s_told_worth ["stands", "house"]) (D_weights_of : M3.Def g.K mg "_weights_of" s_weights_of ["stands"]) (D_turn_up : M3.Def g.K mg "turn_up" s_turn_up ["stands", "house"]) (D_L_deep : M3.Def g.K mg "_law_deep" s_L_deep ["hand"]) (D_L_value : M3.Def g.K mg "_law_value" s_L_value ["hand"]) (D_L_shuffled : M3.Def g.K mg "_law_shuffled" s_L_shuffled ["hand", "many"]) (D_L_is_shape : M3.Def g.K mg "_law_is_shape" s_L_is_shape ["thing"]) (D_is_house : M3.Def g.K mg "is_house" s_is_house ["many", "thing"]) (D_is_many : M3.Def g.K mg "is_many" s_is_many ["thing"]) (D_told_worths : M3.Def g.K mg "told_worths" s_told_worths ["stands"]) (D_potential_of : M3.Def g.K mg "potential_of" s_potential_of ["stands"]) (D_L_shape : M3.Def g.K mg "_law_shape" s_L_shape ["hand", "many"]) (D_are_parents : M3.Def g.K mg "_are_parents" s_are_parents ["thing"]) (D_is_part : M3.Def g.K mg "_is_part" s_is_part ["many", "thing"]) (D_need_house : M3.Def g.K mg "need_house" s_need_house ["stands", "thing"]) (D_is_shape : M3.Def g.K mg "is_shape" s_is_shape ["thing"]) (D_stands_of : M3.Def g.K mg "stands_of" s_stands_of ["shape"]) (D_weights : M3.Def g.K mg "weights" s_weights ["shape"]) (D_potential : M3.Def g.K mg "potential" s_potential ["shape"]) (D_handed_on : M3.Def g.K mg "handed_on" s_handed_on ["shape", "house"]) (D_turned_up : M3.Def g.K mg "turned_up" s_turned_up ["shape", "house"]) (D_L_odd_shape : M3.Def g.K mg "_law_odd_shape" s_L_odd_shape ["hand", "shape"]) (D_part_in_order : M3.Def g.K mg "_part_in_order" s_part_in_order ["stands", "house", "backwards"]) (D_row_in_order : M3.Def g.K mg "row_in_order" s_row_in_order ["stands", "top"]) (D_rows : M3.Def g.K mg "rows" s_rows ["shape"]) (D_forest_of : M3.Def g.K mg "forest_of" s_forest_of ["stands"]) (D_told_forest : M3.Def g.K mg "told_forest" s_told_forest ["shape"]) {c_law P_law : Addr} (TB_law : LamX.TabB base mg c_law P_law) (HC_law : fd0.code = .ref c_law) (IN_law : (P_law, ("law.<locals>.<lambda>" : Str)) ∈ TabsP.T) (UN_law : ∀ p ∈ TabsP.T, p.1 = P_law → p.2 = ("law.<locals>.<lambda>" : Str)) : FnOk P w g.K mg base (L2.CX P w) 77 f0 fd0 ["script"] (spLaw g.K) := by
  have C_is_integer := ok_is_integer (P := P) (w := w) (base := base) D_is_integer T Z
  have C_come_to_roots := ok_come_to_roots (P := P) (w := w) (base := base) D_come_to_roots T Z
  have F_Stand_init := (ok_Stand_init (P := P) (w := w) (base := base) FN_Stand_init T Z)
  have C_has_its_sons := ok_has_its_sons (P := P) (w := w) (base := base) D_has_its_sons T Z
  have C_shape_of := ok_shape_of (P := P) (w := w) (base := base) D_shape_of T Z
  have C_is_top := ok_is_top (P := P) (w := w) (base := base) D_is_top T Z
  have C_line_up := ok_line_up (P := P) (w := w) (base := base) D_line_up T Z
  have C_hand_on := ok_hand_on (P := P) (w := w) (base := base) D_hand_on T Z
  have C_take_place := ok_take_place (P := P) (w := w) (base := base) D_take_place T Z
  have C_L_hand := ok_L_hand (P := P) (w := w) (base := base) D_L_hand T Z
  have C_L_draw := ok_L_draw (P := P) (w := w) (base := base) D_L_draw T Z
  have C_L_number := ok_L_number (P := P) (w := w) (base := base) D_L_number T Z
  have C_L_is_integer := ok_L_is_integer (P := P) (w := w) (base := base) D_L_is_integer T Z
  have C_L_house := ok_L_house (P := P) (w := w) (base := base) D_L_house T Z
  have C_L_is_son := ok_L_is_son (P := P) (w := w) (base := base) D_L_is_son T Z
  have C_is_between := ok_is_between (P := P) (w := w) (base := base) D_is_between T Z C_is_integer
  have C_are_worths := ok_are_worths (P := P) (w := w) (base := base) D_are_worths T Z C_is_integer
  have C_rank := ok_rank (P := P) (w := w) (base := base) D_rank T Z C_is_integer
  have C_told_worth := ok_told_worth (P := P) (w := w) (base := base) D_told_worth T Z C_is_top
  have C_weights_of := ok_weights_of (P := P) (w := w) (base := base) D_weights_of T Z C_line_up
  have C_turn_up := ok_turn_up (P := P) (w := w) (base := base) D_turn_up T Z C_take_place C_hand_on
  have C_L_deep := ok_L_deep (P := P) (w := w) (base := base) D_L_deep T Z C_L_draw
  have C_L_value := ok_L_value (P := P) (w := w) (base := base) D_L_value T Z C_L_draw
  have C_L_shuffled := ok_L_shuffled (P := P) (w := w) (base := base) D_L_shuffled T Z C_L_draw
  have C_L_is_shape := ok_L_is_shape (P := P) (w := w) (base := base) D_L_is_shape T Z C_L_is_integer C_L_number
  have C_is_house := ok_is_house (P := P) (w := w) (base := base) D_is_house T Z C_is_between
  have C_is_many := ok_is_many (P := P) (w := w) (base := base) D_is_many T Z C_is_between
  have C_told_worths := ok_told_worths (P := P) (w := w) (base := base) D_told_worths T Z C_told_worth
  have C_potential_of := ok_potential_of (P := P) (w := w) (base := base) D_potential_of T Z C_weights_of C_rank
  have C_L_shape := ok_L_shape (P := P) (w := w) (base := base) D_L_shape T Z C_L_draw C_L_house C_L_value C_L_shuffled
  have C_are_parents := ok_are_parents (P := P) (w := w) (base := base) D_are_parents T Z C_come_to_roots C_is_house C_is_many
  have C_is_part := ok_is_part (P := P) (w := w) (base := base) D_is_part T Z C_is_integer C_is_house
  have C_need_house := ok_need_house (P := P) (w := w) (base := base) D_need_house T Z C_is_house
  have F_Forest_init := (ok_Forest_init (P := P) (w := w) (base := base) FN_Forest_init T Z C_are_worths C_are_parents)
  have C_is_shape := ok_is_shape (P := P) (w := w) (base := base) D_is_shape T Z C_come_to_roots C_has_its_sons C_is_part C_is_many
  have C_stands_of := ok_stands_of (P := P) (w := w) (base := base) D_stands_of T Z F_Stand_init B_Stand_init C_is_shape
  have C_weights := ok_weights (P := P) (w := w) (base := base) D_weights T Z C_weights_of C_stands_of
  have C_potential := ok_potential (P := P) (w := w) (base := base) D_potential T Z C_potential_of C_stands_of
  have C_handed_on := ok_handed_on (P := P) (w := w) (base := base) D_handed_on T Z C_shape_of C_hand_on C_need_house C_stands_of
  have C_turned_up := ok_turned_up (P := P) (w := w) (base := base) D_turned_up T Z C_shape_of C_turn_up C_is_top C_need_house C_stands_of
  have C_L_odd_shape := ok_L_odd_shape (P := P) (w := w) (base := base) D_L_odd_shape T Z C_L_draw F_Forest_init B_Forest_init C_L_deep
  have C_part_in_order := ok_part_in_order (P := P) (w := w) (base := base) D_part_in_order T Z 70
  have C_row_in_order := ok_row_in_order (P := P) (w := w) (base := base) D_row_in_order T Z C_part_in_order
  have C_rows := ok_rows (P := P) (w := w) (base := base) D_rows T Z C_row_in_order C_is_top C_stands_of
  have C_forest_of := ok_forest_of (P := P) (w := w) (base := base) D_forest_of T Z F_Forest_init B_Forest_init C_told_worths C_is_top C_row_in_order
  have C_told_forest := ok_told_forest (P := P) (w := w) (base := base) D_told_forest T Z C_forest_of C_stands_of
  exact (ok_law FL T Z GX D_L_word C_rank C_L_number C_L_draw F_Forest_init B_Forest_init C_L_deep C_turned_up C_L_is_son C_handed_on C_rows C_told_forest C_weights C_potential C_L_is_shape C_L_odd_shape C_L_shape C_L_hand TB_law HC_law IN_law UN_law).imp fun vs H Q E h => law_sp (law_true g GX) vs H Q E h
end
def mkG (K : PySem.W.Frag) : G := { K := K, CS := [(He.ga K "Forest"), (He.ga K "Stand")], FL := [((He.ga K "Forest"), ("parents" : Str)), ((He.ga K "Forest"), ("worths" : Str)), ((He.ga K "Stand"), ("up" : Str)), ((He.ga K "Stand"), ("left" : Str)), ((He.ga K "Stand"), ("right" : Str)), ((He.ga K "Stand"), ("turned" : Str)), ((He.ga K "Stand"), ("added" : Str)), ((He.ga K "Stand"), ("value" : Str))], ForestError := (He.ga K "ForestError"), BadForest := (He.ga K "BadForest"), NoHouse := (He.ga K "NoHouse"), NoDeed := 0, BadDeeds := 0, NoNumber := (He.ga K "NoNumber"), NoAsk := 0, NoShape := (He.ga K "NoShape"), NoTurn := (He.ga K "NoTurn"), BadAccount := 0, NoMoment := 0, NoWeight := 0, Full := 0, BadHistory := 0, NoParcel := 0, NoRow := 0, BadRow := 0, NoCut := 0, NoBlocks := 0, NoDisk := 0, OtherForest := 0, NoThing := 0, BadThing := 0, BadText := 0, NothingDone := 0, NoLine := 0, NoName := 0, Forest := (He.ga K "Forest"), Stand := (He.ga K "Stand"), Kept := 0, Account := 0, Roads := 0, History := 0, Disk := 0, SavedKept := 0, Reel := 0, Work := 0, Desk := 0, FORMS := 0, FORMS_asks := 0, FORMS_deeds := 0, FORMS_histories := 0, CONSTANTS := 0, FLAGS := 0, OF_FORESTS := 0, OF_ACCOUNTS := 0, V := fun x => He.ga K x }
def tabsL (K : PySem.W.Frag) : List (Addr × Str) := [((He.cT K ("law", none)).2, "law.<locals>.<lambda>")]
abbrev tabsK (K : PySem.W.Frag) : TabsP := ⟨tabsL K⟩
theorem facts {P : Program} {w : World} {K : PySem.W.Frag} {h : Heap} {mg : Str → Option Value} {fa : Addr} (X : K.In h) (G : h.Ns mainGlobals mg) (hfa : mg "law" = some (.ref fa)) (c : He.SaysX hFa hFn hTs hTf hEx w h K) :
    ∃ fd : FuncData, (∀ (s : Shared) (v : Value), BindsTo s fd ⟨[v], []⟩ [("script", v)]) ∧ ∀ base : Heap, K.In base → base.Ns mainGlobals mg → (∀ p ∈ hTf.map (He.cT K), LamX.TabB base mg p.1 p.2) → FnOk P w K mg base (L2.CX P w) 77 fa fd ["script"] (@spLaw (tabsK K) K) := by
  have cd := c.t.d
  have ck : ∀ (i : Nat) {b : Bool}, (hCk K)[i]? = some b → b = true := fun i b e => all_at c.more i e
  obtain ⟨fd_Stand_init, FD_Stand_init⟩ : ∃ fd, FunD K "__init__" "Stand.__init__" (defArgs s_Stand_init) (defBody s_Stand_init) (defScope s_Stand_init) [] [] (He.ma K (He.ga K "Stand") "__init__") fd := cd.def_ 46 (d := ⟨("Stand", some "__init__"), "__init__", "Stand.__init__", defArgs s_Stand_init, defBody s_Stand_init, defScope s_Stand_init, [], []⟩) rfl
  have FN_Stand_init := fun_ofD FD_Stand_init
  have B_Stand_init := FN_Stand_init.binds (ps := ["self", "part"]) fun _ _ _ _ _ _ us hl => match us, hl with | [_, _], _ => rfl
  obtain ⟨fd_Forest_init, FD_Forest_init⟩ : ∃ fd, FunD K "__init__" "Forest.__init__" (defArgs s_Forest_init) (defBody s_Forest_init) (defScope s_Forest_init) [] [] (He.ma K (He.ga K "Forest") "__init__") fd := cd.def_ 47 (d := ⟨("Forest", some "__init__"), "__init__", "Forest.__init__", defArgs s_Forest_init, defBody s_Forest_init, defScope s_Forest_init, [], []⟩) rfl
  have FN_Forest_init := fun_ofD FD_Forest_init
  have B_Forest_init := FN_Forest_init.binds (ps := ["self", "parents", "worths"]) fun _ _ _ _ _ _ us hl => match us, hl with | [_, _, _], _ => rfl
  have D_L_word : M3.Def K mg "_law_word" s_L_word ["call"] := by
    obtain ⟨fd, FD⟩ : ∃ fd, FunD K "_law_word" "_law_word" (defArgs s_L_word) (defBody s_L_word) (defScope s_L_word) [] [] (He.ga K "_law_word") fd := cd.def_ 0 (d := ⟨("_law_word", none), "_law_word", "_law_word", defArgs s_L_word, defBody s_L_word, defScope s_L_word, [], []⟩) rfl
    exact def_ofD (h := h) FD (He.glo_ok X G (cd.fact 8 (f := .glo "_law_word") rfl)) fun _ _ _ _ _ _ us hl => match us, hl with | [_], _ => rfl
  have D_is_integer : M3.Def K mg "is_integer" s_is_integer ["thing"] := by
    obtain ⟨fd, FD⟩ : ∃ fd, FunD K "is_integer" "is_integer" (defArgs s_is_integer) (defBody s_is_integer) (defScope s_is_integer) [] [] (He.ga K "is_integer") fd := cd.def_ 1 (d := ⟨("is_integer", none), "is_integer", "is_integer", defArgs s_is_integer, defBody s_is_integer, defScope s_is_integer, [], []⟩) rfl
    exact def_ofD (h := h) FD (He.glo_ok X G (cd.fact 9 (f := .glo "is_integer") rfl)) fun _ _ _ _ _ _ us hl => match us, hl with | [_], _ => rfl
  have D_come_to_roots : M3.Def K mg "come_to_roots" s_come_to_roots ["parents"] := by
    obtain ⟨fd, FD⟩ : ∃ fd, FunD K "come_to_roots" "come_to_roots" (defArgs s_come_to_roots) (defBody s_come_to_roots) (defScope s_come_to_roots) [] [] (He.ga K "come_to_roots") fd := cd.def_ 2 (d := ⟨("come_to_roots", none), "come_to_roots", "come_to_roots", defArgs s_come_to_roots, defBody s_come_to_roots, defScope s_come_to_roots, [], []⟩) rfl
    exact def_ofD (h := h) FD (He.glo_ok X G (cd.fact 10 (f := .glo "come_to_roots") rfl)) fun _ _ _ _ _ _ us hl => match us, hl with | [_], _ => rfl
  have D_has_its_sons : M3.Def K mg "_has_its_sons" s_has_its_sons ["parts", "house"] := by
    obtain ⟨fd, FD⟩ : ∃ fd, FunD K "_has_its_sons" "_has_its_sons" (defArgs s_has_its_sons) (defBody s_has_its_sons) (defScope s_has_its_sons) [] [] (He.ga K "_has_its_sons") fd := cd.def_ 3 (d := ⟨("_has_its_sons", none), "_has_its_sons", "_has_its_sons", defArgs s_has_its_sons, defBody s_has_its_sons, defScope s_has_its_sons, [], []⟩) rfl
    exact def_ofD (h := h) FD (He.glo_ok X G (cd.fact 11 (f := .glo "_has_its_sons") rfl)) fun _ _ _ _ _ _ us hl => match us, hl with | [_, _], _ => rfl
  have D_shape_of : M3.Def K mg "shape_of" s_shape_of ["stands"] := by
    obtain ⟨fd, FD⟩ : ∃ fd, FunD K "shape_of" "shape_of" (defArgs s_shape_of) (defBody s_shape_of) (defScope s_shape_of) [] [] (He.ga K "shape_of") fd := cd.def_ 4 (d := ⟨("shape_of", none), "shape_of", "shape_of", defArgs s_shape_of, defBody s_shape_of, defScope s_shape_of, [], []⟩) rfl
    exact def_ofD (h := h) FD (He.glo_ok X G (cd.fact 12 (f := .glo "shape_of") rfl)) fun _ _ _ _ _ _ us hl => match us, hl with | [_], _ => rfl
  have D_is_top : M3.Def K mg "is_top" s_is_top ["stands", "house"] := by
    obtain ⟨fd, FD⟩ : ∃ fd, FunD K "is_top" "is_top" (defArgs s_is_top) (defBody s_is_top) (defScope s_is_top) [] [] (He.ga K "is_top") fd := cd.def_ 5 (d := ⟨("is_top", none), "is_top", "is_top", defArgs s_is_top, defBody s_is_top, defScope s_is_top, [], []⟩) rfl
    exact def_ofD (h := h) FD (He.glo_ok X G (cd.fact 13 (f := .glo "is_top") rfl)) fun _ _ _ _ _ _ us hl => match us, hl with | [_, _], _ => rfl
  have D_line_up : M3.Def K mg "line_up" s_line_up ["stands", "house"] := by
    obtain ⟨fd, FD⟩ : ∃ fd, FunD K "line_up" "line_up" (defArgs s_line_up) (defBody s_line_up) (defScope s_line_up) [] [] (He.ga K "line_up") fd := cd.def_ 6 (d := ⟨("line_up", none), "line_up", "line_up", defArgs s_line_up, defBody s_line_up, defScope s_line_up, [], []⟩) rfl
    exact def_ofD (h := h) FD (He.glo_ok X G (cd.fact 14 (f := .glo "line_up") rfl)) fun _ _ _ _ _ _ us hl => match us, hl with | [_, _], _ => rfl
  have D_hand_on : M3.Def K mg "hand_on" s_hand_on ["stands", "house"] := by
    obtain ⟨fd, FD⟩ : ∃ fd, FunD K "hand_on" "hand_on" (defArgs s_hand_on) (defBody s_hand_on) (defScope s_hand_on) [] [] (He.ga K "hand_on") fd := cd.def_ 7 (d := ⟨("hand_on", none), "hand_on", "hand_on", defArgs s_hand_on, defBody s_hand_on, defScope s_hand_on, [], []⟩) rfl
    exact def_ofD (h := h) FD (He.glo_ok X G (cd.fact 15 (f := .glo "hand_on") rfl)) fun _ _ _ _ _ _ us hl => match us, hl with | [_, _], _ => rfl
  have D_take_place : M3.Def K mg "_take_place" s_take_place ["stands", "house", "ahead"] := by
    obtain ⟨fd, FD⟩ : ∃ fd, FunD K "_take_place" "_take_place" (defArgs s_take_place) (defBody s_take_place) (defScope s_take_place) [] [] (He.ga K "_take_place") fd := cd.def_ 8 (d := ⟨("_take_place", none), "_take_place", "_take_place", defArgs s_take_place, defBody s_take_place, defScope s_take_place, [], []⟩) rfl
    exact def_ofD (h := h) FD (He.glo_ok X G (cd.fact 16 (f := .glo "_take_place") rfl)) fun _ _ _ _ _ _ us hl => match us, hl with | [_, _, _], _ => rfl
  have D_L_hand : M3.Def K mg "_law_hand" s_L_hand ["script"] := by
    obtain ⟨fd, FD⟩ : ∃ fd, FunD K "_law_hand" "_law_hand" (defArgs s_L_hand) (defBody s_L_hand) (defScope s_L_hand) [] [] (He.ga K "_law_hand") fd := cd.def_ 9 (d := ⟨("_law_hand", none), "_law_hand", "_law_hand", defArgs s_L_hand, defBody s_L_hand, defScope s_L_hand, [], []⟩) rfl
    exact def_ofD (h := h) FD (He.glo_ok X G (cd.fact 17 (f := .glo "_law_hand") rfl)) fun _ _ _ _ _ _ us hl => match us, hl with | [_], _ => rfl
  have D_L_draw : M3.Def K mg "_law_draw" s_L_draw ["hand", "many"] := by
    obtain ⟨fd, FD⟩ : ∃ fd, FunD K "_law_draw" "_law_draw" (defArgs s_L_draw) (defBody s_L_draw) (defScope s_L_draw) [] [] (He.ga K "_law_draw") fd := cd.def_ 10 (d := ⟨("_law_draw", none), "_law_draw", "_law_draw", defArgs s_L_draw, defBody s_L_draw, defScope s_L_draw, [], []⟩) rfl
    exact def_ofD (h := h) FD (He.glo_ok X G (cd.fact 18 (f := .glo "_law_draw") rfl)) fun _ _ _ _ _ _ us hl => match us, hl with | [_, _], _ => rfl
  have D_L_number : M3.Def K mg "_law_number" s_L_number ["thing", "least", "most"] := by
    obtain ⟨fd, FD⟩ : ∃ fd, FunD K "_law_number" "_law_number" (defArgs s_L_number) (defBody s_L_number) (defScope s_L_number) [] [] (He.ga K "_law_number") fd := cd.def_ 11 (d := ⟨("_law_number", none), "_law_number", "_law_number", defArgs s_L_number, defBody s_L_number, defScope s_L_number, [], []⟩) rfl
    exact def_ofD (h := h) FD (He.glo_ok X G (cd.fact 19 (f := .glo "_law_number") rfl)) fun _ _ _ _ _ _ us hl => match us, hl with | [_, _, _], _ => rfl
  have D_L_is_integer : M3.Def K mg "_law_is_integer" s_L_is_integer ["thing"] := by
    obtain ⟨fd, FD⟩ : ∃ fd, FunD K "_law_is_integer" "_law_is_integer" (defArgs s_L_is_integer) (defBody s_L_is_integer) (defScope s_L_is_integer) [] [] (He.ga K "_law_is_integer") fd := cd.def_ 12 (d := ⟨("_law_is_integer", none), "_law_is_integer", "_law_is_integer", defArgs s_L_is_integer, defBody s_L_is_integer, defScope s_L_is_integer, [], []⟩) rfl
    exact def_ofD (h := h) FD (He.glo_ok X G (cd.fact 20 (f := .glo "_law_is_integer") rfl)) fun _ _ _ _ _ _ us hl => match us, hl with | [_], _ => rfl
  have D_L_house : M3.Def K mg "_law_house" s_L_house ["up", "value"] := by
    obtain ⟨fd, FD⟩ : ∃ fd, FunD K "_law_house" "_law_house" (defArgs s_L_house) (defBody s_L_house) (defScope s_L_house) [] [] (He.ga K "_law_house") fd := cd.def_ 13 (d := ⟨("_law_house", none), "_law_house", "_law_house", defArgs s_L_house, defBody s_L_house, defScope s_L_house, [], []⟩) rfl
    exact def_ofD (h := h) FD (He.glo_ok X G (cd.fact 21 (f := .glo "_law_house") rfl)) fun _ _ _ _ _ _ us hl => match us, hl with | [_, _], _ => rfl
  have D_L_is_son : M3.Def K mg "_law_is_son" s_L_is_son ["shape", "house"] := by
    obtain ⟨fd, FD⟩ : ∃ fd, FunD K "_law_is_son" "_law_is_son" (defArgs s_L_is_son) (defBody s_L_is_son) (defScope s_L_is_son) [] [] (He.ga K "_law_is_son") fd := cd.def_ 14 (d := ⟨("_law_is_son", none), "_law_is_son", "_law_is_son", defArgs s_L_is_son, defBody s_L_is_son, defScope s_L_is_son, [], []⟩) rfl
    exact def_ofD (h := h) FD (He.glo_ok X G (cd.fact 22 (f := .glo "_law_is_son") rfl)) fun _ _ _ _ _ _ us hl => match us, hl with | [_, _], _ => rfl
  have D_is_between : M3.Def K mg "is_between" s_is_between ["least", "most", "thing"] := by
    obtain ⟨fd, FD⟩ : ∃ fd, FunD K "is_between" "is_between" (defArgs s_is_between) (defBody s_is_between) (defScope s_is_between) [] [] (He.ga K "is_between") fd := cd.def_ 15 (d := ⟨("is_between", none), "is_between", "is_between", defArgs s_is_between, defBody s_is_between, defScope s_is_between, [], []⟩) rfl
    exact def_ofD (h := h) FD (He.glo_ok X G (cd.fact 23 (f := .glo "is_between") rfl)) fun _ _ _ _ _ _ us hl => match us, hl with | [_, _, _], _ => rfl
  have D_are_worths : M3.Def K mg "_are_worths" s_are_worths ["thing", "houses"] := by
    obtain ⟨fd, FD⟩ : ∃ fd, FunD K "_are_worths" "_are_worths" (defArgs s_are_worths) (defBody s_are_worths) (defScope s_are_worths) [] [] (He.ga K "_are_worths") fd := cd.def_ 16 (d := ⟨("_are_worths", none), "_are_worths", "_are_worths", defArgs s_are_worths, defBody s_are_worths, defScope s_are_worths, [], []⟩) rfl
    exact def_ofD (h := h) FD (He.glo_ok X G (cd.fact 24 (f := .glo "_are_worths") rfl)) fun _ _ _ _ _ _ us hl => match us, hl with | [_, _], _ => rfl
  have D_rank : M3.Def K mg "rank" s_rank ["number"] := by
    obtain ⟨fd, FD⟩ : ∃ fd, FunD K "rank" "rank" (defArgs s_rank) (defBody s_rank) (defScope s_rank) [] [] (He.ga K "rank") fd := cd.def_ 17 (d := ⟨("rank", none), "rank", "rank", defArgs s_rank, defBody s_rank, defScope s_rank, [], []⟩) rfl
    exact def_ofD (h := h) FD (He.glo_ok X G (cd.fact 25 (f := .glo "rank") rfl)) fun _ _ _ _ _ _ us hl => match us, hl with | [_], _ => rfl
  have D_told_worth : M3.Def K mg "_told_worth" s_told_worth ["stands", "house"] := by
    obtain ⟨fd, FD⟩ : ∃ fd, FunD K "_told_worth" "_told_worth" (defArgs s_told_worth) (defBody s_told_worth) (defScope s_told_worth) [] [] (He.ga K "_told_worth") fd := cd.def_ 18 (d := ⟨("_told_worth", none), "_told_worth", "_told_worth", defArgs s_told_worth, defBody s_told_worth, defScope s_told_worth, [], []⟩) rfl
    exact def_ofD (h := h) FD (He.glo_ok X G (cd.fact 26 (f := .glo "_told_worth") rfl)) fun _ _ _ _ _ _ us hl => match us, hl with | [_, _], _ => rfl
  have D_weights_of : M3.Def K mg "_weights_of" s_weights_of ["stands"] := by
    obtain ⟨fd, FD⟩ : ∃ fd, FunD K "_weights_of" "_weights_of" (defArgs s_weights_of) (defBody s_weights_of) (defScope s_weights_of) [] [] (He.ga K "_weights_of") fd := cd.def_ 19 (d := ⟨("_weights_of", none), "_weights_of", "_weights_of", defArgs s_weights_of, defBody s_weights_of, defScope s_weights_of, [], []⟩) rfl
    exact def_ofD (h := h) FD (He.glo_ok X G (cd.fact 27 (f := .glo "_weights_of") rfl)) fun _ _ _ _ _ _ us hl => match us, hl with | [_], _ => rfl
  have D_turn_up : M3.Def K mg "turn_up" s_turn_up ["stands", "house"] := by
    obtain ⟨fd, FD⟩ : ∃ fd, FunD K "turn_up" "turn_up" (defArgs s_turn_up) (defBody s_turn_up) (defScope s_turn_up) [] [] (He.ga K "turn_up") fd := cd.def_ 20 (d := ⟨("turn_up", none), "turn_up", "turn_up", defArgs s_turn_up, defBody s_turn_up, defScope s_turn_up, [], []⟩) rfl
    exact def_ofD (h := h) FD (He.glo_ok X G (cd.fact 28 (f := .glo "turn_up") rfl)) fun _ _ _ _ _ _ us hl => match us, hl with | [_, _], _ => rfl
  have D_L_deep : M3.Def K mg "_law_deep" s_L_deep ["hand"] := by
    obtain ⟨fd, FD⟩ : ∃ fd, FunD K "_law_deep" "_law_deep" (defArgs s_L_deep) (defBody s_L_deep) (defScope s_L_deep) [] [] (He.ga K "_law_deep") fd := cd.def_ 21 (d := ⟨("_law_deep", none), "_law_deep", "_law_deep", defArgs s_L_deep, defBody s_L_deep, defScope s_L_deep, [], []⟩) rfl
    exact def_ofD (h := h) FD (He.glo_ok X G (cd.fact 29 (f := .glo "_law_deep") rfl)) fun _ _ _ _ _ _ us hl => match us, hl with | [_], _ => rfl
  have D_L_value : M3.Def K mg "_law_value" s_L_value ["hand"] := by
    obtain ⟨fd, FD⟩ : ∃ fd, FunD K "_law_value" "_law_value" (defArgs s_L_value) (defBody s_L_value) (defScope s_L_value) [] [] (He.ga K "_law_value") fd := cd.def_ 22 (d := ⟨("_law_value", none), "_law_value", "_law_value", defArgs s_L_value, defBody s_L_value, defScope s_L_value, [], []⟩) rfl
    exact def_ofD (h := h) FD (He.glo_ok X G (cd.fact 30 (f := .glo "_law_value") rfl)) fun _ _ _ _ _ _ us hl => match us, hl with | [_], _ => rfl
  have D_L_shuffled : M3.Def K mg "_law_shuffled" s_L_shuffled ["hand", "many"] := by
    obtain ⟨fd, FD⟩ : ∃ fd, FunD K "_law_shuffled" "_law_shuffled" (defArgs s_L_shuffled) (defBody s_L_shuffled) (defScope s_L_shuffled) [] [] (He.ga K "_law_shuffled") fd := cd.def_ 23 (d := ⟨("_law_shuffled", none), "_law_shuffled", "_law_shuffled", defArgs s_L_shuffled, defBody s_L_shuffled, defScope s_L_shuffled, [], []⟩) rfl
    exact def_ofD (h := h) FD (He.glo_ok X G (cd.fact 31 (f := .glo "_law_shuffled") rfl)) fun _ _ _ _ _ _ us hl => match us, hl with | [_, _], _ => rfl
  have D_L_is_shape : M3.Def K mg "_law_is_shape" s_L_is_shape ["thing"] := by
    obtain ⟨fd, FD⟩ : ∃ fd, FunD K "_law_is_shape" "_law_is_shape" (defArgs s_L_is_shape) (defBody s_L_is_shape) (defScope s_L_is_shape) [] [] (He.ga K "_law_is_shape") fd := cd.def_ 24 (d := ⟨("_law_is_shape", none), "_law_is_shape", "_law_is_shape", defArgs s_L_is_shape, defBody s_L_is_shape, defScope s_L_is_shape, [], []⟩) rfl
    exact def_ofD (h := h) FD (He.glo_ok X G (cd.fact 32 (f := .glo "_law_is_shape") rfl)) fun _ _ _ _ _ _ us hl => match us, hl with | [_], _ => rfl
  have D_is_house : M3.Def K mg "is_house" s_is_house ["many", "thing"] := by
    obtain ⟨fd, FD⟩ : ∃ fd, FunD K "is_house" "is_house" (defArgs s_is_house) (defBody s_is_house) (defScope s_is_house) [] [] (He.ga K "is_house") fd := cd.def_ 25 (d := ⟨("is_house", none), "is_house", "is_house", defArgs s_is_house, defBody s_is_house, defScope s_is_house, [], []⟩) rfl
    exact def_ofD (h := h) FD (He.glo_ok X G (cd.fact 33 (f := .glo "is_house") rfl)) fun _ _ _ _ _ _ us hl => match us, hl with | [_, _], _ => rfl
  have D_is_many : M3.Def K mg "is_many" s_is_many ["thing"] := by
    obtain ⟨fd, FD⟩ : ∃ fd, FunD K "is_many" "is_many" (defArgs s_is_many) (defBody s_is_many) (defScope s_is_many) [] [] (He.ga K "is_many") fd := cd.def_ 26 (d := ⟨("is_many", none), "is_many", "is_many", defArgs s_is_many, defBody s_is_many, defScope s_is_many, [], []⟩) rfl
    exact def_ofD (h := h) FD (He.glo_ok X G (cd.fact 34 (f := .glo "is_many") rfl)) fun _ _ _ _ _ _ us hl => match us, hl with | [_], _ => rfl
  have D_told_worths : M3.Def K mg "told_worths" s_told_worths ["stands"] := by
    obtain ⟨fd, FD⟩ : ∃ fd, FunD K "told_worths" "told_worths" (defArgs s_told_worths) (defBody s_told_worths) (defScope s_told_worths) [] [] (He.ga K "told_worths") fd := cd.def_ 27 (d := ⟨("told_worths", none), "told_worths", "told_worths", defArgs s_told_worths, defBody s_told_worths, defScope s_told_worths, [], []⟩) rfl
    exact def_ofD (h := h) FD (He.glo_ok X G (cd.fact 35 (f := .glo "told_worths") rfl)) fun _ _ _ _ _ _ us hl => match us, hl with | [_], _ => rfl
  have D_potential_of : M3.Def K mg "potential_of" s_potential_of ["stands"] := by
    obtain ⟨fd, FD⟩ : ∃ fd, FunD K "potential_of" "potential_of" (defArgs s_potential_of) (defBody s_potential_of) (defScope s_potential_of) [] [] (He.ga K "potential_of") fd := cd.def_ 28 (d := ⟨("potential_of", none), "potential_of", "potential_of", defArgs s_potential_of, defBody s_potential_of, defScope s_potential_of, [], []⟩) rfl
    exact def_ofD (h := h) FD (He.glo_ok X G (cd.fact 36 (f := .glo "potential_of") rfl)) fun _ _ _ _ _ _ us hl => match us, hl with | [_], _ => rfl
  have D_L_shape : M3.Def K mg "_law_shape" s_L_shape ["hand", "many"] := by
    obtain ⟨fd, FD⟩ : ∃ fd, FunD K "_law_shape" "_law_shape" (defArgs s_L_shape) (defBody s_L_shape) (defScope s_L_shape) [] [] (He.ga K "_law_shape") fd := cd.def_ 29 (d := ⟨("_law_shape", none), "_law_shape", "_law_shape", defArgs s_L_shape, defBody s_L_shape, defScope s_L_shape, [], []⟩) rfl
    exact def_ofD (h := h) FD (He.glo_ok X G (cd.fact 37 (f := .glo "_law_shape") rfl)) fun _ _ _ _ _ _ us hl => match us, hl with | [_, _], _ => rfl
  have D_are_parents : M3.Def K mg "_are_parents" s_are_parents ["thing"] := by
    obtain ⟨fd, FD⟩ : ∃ fd, FunD K "_are_parents" "_are_parents" (defArgs s_are_parents) (defBody s_are_parents) (defScope s_are_parents) [] [] (He.ga K "_are_parents") fd := cd.def_ 30 (d := ⟨("_are_parents", none), "_are_parents", "_are_parents", defArgs s_are_parents, defBody s_are_parents, defScope s_are_parents, [], []⟩) rfl
    exact def_ofD (h := h) FD (He.glo_ok X G (cd.fact 38 (f := .glo "_are_parents") rfl)) fun _ _ _ _ _ _ us hl => match us, hl with | [_], _ => rfl
  have D_is_part : M3.Def K mg "_is_part" s_is_part ["many", "thing"] := by
    obtain ⟨fd, FD⟩ : ∃ fd, FunD K "_is_part" "_is_part" (defArgs s_is_part) (defBody s_is_part) (defScope s_is_part) [] [] (He.ga K "_is_part") fd := cd.def_ 31 (d := ⟨("_is_part", none), "_is_part", "_is_part", defArgs s_is_part, defBody s_is_part, defScope s_is_part, [], []⟩) rfl
    exact def_ofD (h := h) FD (He.glo_ok X G (cd.fact 39 (f := .glo "_is_part") rfl)) fun _ _ _ _ _ _ us hl => match us, hl with | [_, _], _ => rfl
  have D_need_house : M3.Def K mg "need_house" s_need_house ["stands", "thing"] := by
    obtain ⟨fd, FD⟩ : ∃ fd, FunD K "need_house" "need_house" (defArgs s_need_house) (defBody s_need_house) (defScope s_need_house) [] [] (He.ga K "need_house") fd := cd.def_ 32 (d := ⟨("need_house", none), "need_house", "need_house", defArgs s_need_house, defBody s_need_house, defScope s_need_house, [], []⟩) rfl
    exact def_ofD (h := h) FD (He.glo_ok X G (cd.fact 40 (f := .glo "need_house") rfl)) fun _ _ _ _ _ _ us hl => match us, hl with | [_, _], _ => rfl
  have D_is_shape : M3.Def K mg "is_shape" s_is_shape ["thing"] := by
    obtain ⟨fd, FD⟩ : ∃ fd, FunD K "is_shape" "is_shape" (defArgs s_is_shape) (defBody s_is_shape) (defScope s_is_shape) [] [] (He.ga K "is_shape") fd := cd.def_ 33 (d := ⟨("is_shape", none), "is_shape", "is_shape", defArgs s_is_shape, defBody s_is_shape, defScope s_is_shape, [], []⟩) rfl
    exact def_ofD (h := h) FD (He.glo_ok X G (cd.fact 41 (f := .glo "is_shape") rfl)) fun _ _ _ _ _ _ us hl => match us, hl with | [_], _ => rfl
  have D_stands_of : M3.Def K mg "stands_of" s_stands_of ["shape"] := by
    obtain ⟨fd, FD⟩ : ∃ fd, FunD K "stands_of" "stands_of" (defArgs s_stands_of) (defBody s_stands_of) (defScope s_stands_of) [] [] (He.ga K "stands_of") fd := cd.def_ 34 (d := ⟨("stands_of", none), "stands_of", "stands_of", defArgs s_stands_of, defBody s_stands_of, defScope s_stands_of, [], []⟩) rfl
    exact def_ofD (h := h) FD (He.glo_ok X G (cd.fact 42 (f := .glo "stands_of") rfl)) fun _ _ _ _ _ _ us hl => match us, hl with | [_], _ => rfl
  have D_weights : M3.Def K mg "weights" s_weights ["shape"] := by
    obtain ⟨fd, FD⟩ : ∃ fd, FunD K "weights" "weights" (defArgs s_weights) (defBody s_weights) (defScope s_weights) [] [] (He.ga K "weights") fd := cd.def_ 35 (d := ⟨("weights", none), "weights", "weights", defArgs s_weights, defBody s_weights, defScope s_weights, [], []⟩) rfl
    exact def_ofD (h := h) FD (He.glo_ok X G (cd.fact 43 (f := .glo "weights") rfl)) fun _ _ _ _ _ _ us hl => match us, hl with | [_], _ => rfl
  have D_potential : M3.Def K mg "potential" s_potential ["shape"] := by
    obtain ⟨fd, FD⟩ : ∃ fd, FunD K "potential" "potential" (defArgs s_potential) (defBody s_potential) (defScope s_potential) [] [] (He.ga K "potential") fd := cd.def_ 36 (d := ⟨("potential", none), "potential", "potential", defArgs s_potential, defBody s_potential, defScope s_potential, [], []⟩) rfl
    exact def_ofD (h := h) FD (He.glo_ok X G (cd.fact 44 (f := .glo "potential") rfl)) fun _ _ _ _ _ _ us hl => match us, hl with | [_], _ => rfl
  have D_handed_on : M3.Def K mg "handed_on" s_handed_on ["shape", "house"] := by
    obtain ⟨fd, FD⟩ : ∃ fd, FunD K "handed_on" "handed_on" (defArgs s_handed_on) (defBody s_handed_on) (defScope s_handed_on) [] [] (He.ga K "handed_on") fd := cd.def_ 37 (d := ⟨("handed_on", none), "handed_on", "handed_on", defArgs s_handed_on, defBody s_handed_on, defScope s_handed_on, [], []⟩) rfl
    exact def_ofD (h := h) FD (He.glo_ok X G (cd.fact 45 (f := .glo "handed_on") rfl)) fun _ _ _ _ _ _ us hl => match us, hl with | [_, _], _ => rfl
  have D_turned_up : M3.Def K mg "turned_up" s_turned_up ["shape", "house"] := by
    obtain ⟨fd, FD⟩ : ∃ fd, FunD K "turned_up" "turned_up" (defArgs s_turned_up) (defBody s_turned_up) (defScope s_turned_up) [] [] (He.ga K "turned_up") fd := cd.def_ 38 (d := ⟨("turned_up", none), "turned_up", "turned_up", defArgs s_turned_up, defBody s_turned_up, defScope s_turned_up, [], []⟩) rfl
    exact def_ofD (h := h) FD (He.glo_ok X G (cd.fact 46 (f := .glo "turned_up") rfl)) fun _ _ _ _ _ _ us hl => match us, hl with | [_, _], _ => rfl
  have D_L_odd_shape : M3.Def K mg "_law_odd_shape" s_L_odd_shape ["hand", "shape"] := by
    obtain ⟨fd, FD⟩ : ∃ fd, FunD K "_law_odd_shape" "_law_odd_shape" (defArgs s_L_odd_shape) (defBody s_L_odd_shape) (defScope s_L_odd_shape) [] [] (He.ga K "_law_odd_shape") fd := cd.def_ 39 (d := ⟨("_law_odd_shape", none), "_law_odd_shape", "_law_odd_shape", defArgs s_L_odd_shape, defBody s_L_odd_shape, defScope s_L_odd_shape, [], []⟩) rfl
    exact def_ofD (h := h) FD (He.glo_ok X G (cd.fact 47 (f := .glo "_law_odd_shape") rfl)) fun _ _ _ _ _ _ us hl => match us, hl with | [_, _], _ => rfl
  have D_part_in_order : M3.Def K mg "_part_in_order" s_part_in_order ["stands", "house", "backwards"] := by
    obtain ⟨fd, FD⟩ : ∃ fd, FunD K "_part_in_order" "_part_in_order" (defArgs s_part_in_order) (defBody s_part_in_order) (defScope s_part_in_order) [] [] (He.ga K "_part_in_order") fd := cd.def_ 40 (d := ⟨("_part_in_order", none), "_part_in_order", "_part_in_order", defArgs s_part_in_order, defBody s_part_in_order, defScope s_part_in_order, [], []⟩) rfl
    exact def_ofD (h := h) FD (He.glo_ok X G (cd.fact 48 (f := .glo "_part_in_order") rfl)) fun _ _ _ _ _ _ us hl => match us, hl with | [_, _, _], _ => rfl
  have D_row_in_order : M3.Def K mg "row_in_order" s_row_in_order ["stands", "top"] := by
    obtain ⟨fd, FD⟩ : ∃ fd, FunD K "row_in_order" "row_in_order" (defArgs s_row_in_order) (defBody s_row_in_order) (defScope s_row_in_order) [] [] (He.ga K "row_in_order") fd := cd.def_ 41 (d := ⟨("row_in_order", none), "row_in_order", "row_in_order", defArgs s_row_in_order, defBody s_row_in_order, defScope s_row_in_order, [], []⟩) rfl
    exact def_ofD (h := h) FD (He.glo_ok X G (cd.fact 49 (f := .glo "row_in_order") rfl)) fun _ _ _ _ _ _ us hl => match us, hl with | [_, _], _ => rfl
  have D_rows : M3.Def K mg "rows" s_rows ["shape"] := by
    obtain ⟨fd, FD⟩ : ∃ fd, FunD K "rows" "rows" (defArgs s_rows) (defBody s_rows) (defScope s_rows) [] [] (He.ga K "rows") fd := cd.def_ 42 (d := ⟨("rows", none), "rows", "rows", defArgs s_rows, defBody s_rows, defScope s_rows, [], []⟩) rfl
    exact def_ofD (h := h) FD (He.glo_ok X G (cd.fact 50 (f := .glo "rows") rfl)) fun _ _ _ _ _ _ us hl => match us, hl with | [_], _ => rfl
  have D_forest_of : M3.Def K mg "forest_of" s_forest_of ["stands"] := by
    obtain ⟨fd, FD⟩ : ∃ fd, FunD K "forest_of" "forest_of" (defArgs s_forest_of) (defBody s_forest_of) (defScope s_forest_of) [] [] (He.ga K "forest_of") fd := cd.def_ 43 (d := ⟨("forest_of", none), "forest_of", "forest_of", defArgs s_forest_of, defBody s_forest_of, defScope s_forest_of, [], []⟩) rfl
    exact def_ofD (h := h) FD (He.glo_ok X G (cd.fact 51 (f := .glo "forest_of") rfl)) fun _ _ _ _ _ _ us hl => match us, hl with | [_], _ => rfl
  have D_told_forest : M3.Def K mg "told_forest" s_told_forest ["shape"] := by
    obtain ⟨fd, FD⟩ : ∃ fd, FunD K "told_forest" "told_forest" (defArgs s_told_forest) (defBody s_told_forest) (defScope s_told_forest) [] [] (He.ga K "told_forest") fd := cd.def_ 44 (d := ⟨("told_forest", none), "told_forest", "told_forest", defArgs s_told_forest, defBody s_told_forest, defScope s_told_forest, [], []⟩) rfl
    exact def_ofD (h := h) FD (He.glo_ok X G (cd.fact 52 (f := .glo "told_forest") rfl)) fun _ _ _ _ _ _ us hl => match us, hl with | [_], _ => rfl
  have CL_Forest : Cls K (He.ga K "Forest") := He.cls_ok (cd.fact 66 (f := .cls "Forest") rfl)
  have CL_Stand : Cls K (He.ga K "Stand") := He.cls_ok (cd.fact 70 (f := .cls "Stand") rfl)
  obtain ⟨fdX_BadForest, FDX_BadForest⟩ : ∃ fd, FunD K "__init__" "BadForest.__init__" (defArgs s_XBadForest) (defBody s_XBadForest) (defScope s_XBadForest) [] [] (He.ma K (He.ga K "BadForest") "__init__") fd := cd.def_ 48 (d := ⟨("BadForest", some "__init__"), "__init__", "BadForest.__init__", defArgs s_XBadForest, defBody s_XBadForest, defScope s_XBadForest, [], []⟩) rfl
  obtain ⟨oc_BadForest, od_BadForest, dc_BadForest, pm_BadForest, an_BadForest, cdv_BadForest, ct_BadForest, osl_BadForest, xf_BadForest, xcd_BadForest⟩ := kd_ok FDX_BadForest (ck 14 rfl)
  have X_BadForest : PySem.XBadForest.TxtBadForest K mg (He.ga K "BadForest") (He.ma K (He.ga K "BadForest") "__init__") := { gC := He.glo_ok X G (cd.fact 3 (f := .glo "BadForest") rfl), cls := xc_ok (ck 6 rfl), iC := (of_decide_eq_true (ck 7 rfl)), tC := (of_decide_eq_true (ck 8 rfl)), kC := (ck 9 rfl), exC := (of_decide_eq_true (ck 10 rfl)), tyC := (of_decide_eq_true (ck 11 rfl)), te := exm_ab true (of_decide_eq_true (ck 10 rfl)) (ck 12 rfl) (of_decide_eq_true (ck 11 rfl)) (of_decide_eq_true (ck 13 rfl)), sa := (of_decide_eq_true (ck 15 rfl)), ga := (of_decide_eq_true (ck 16 rfl)), gg := (of_decide_eq_true (ck 17 rfl)), noN := (of_decide_eq_true (ck 18 rfl)), hdC := (ck 19 rfl), fn := ⟨oc_BadForest, od_BadForest, dc_BadForest, pm_BadForest, an_BadForest, cdv_BadForest, ct_BadForest, osl_BadForest, _, _, _, _, _, _, xf_BadForest, xcd_BadForest⟩ }
  obtain ⟨fdX_NoHouse, FDX_NoHouse⟩ : ∃ fd, FunD K "__init__" "NoHouse.__init__" (defArgs s_XNoHouse) (defBody s_XNoHouse) (defScope s_XNoHouse) [] [] (He.ma K (He.ga K "NoHouse") "__init__") fd := cd.def_ 49 (d := ⟨("NoHouse", some "__init__"), "__init__", "NoHouse.__init__", defArgs s_XNoHouse, defBody s_XNoHouse, defScope s_XNoHouse, [], []⟩) rfl
  obtain ⟨oc_NoHouse, od_NoHouse, dc_NoHouse, pm_NoHouse, an_NoHouse, cdv_NoHouse, ct_NoHouse, osl_NoHouse, xf_NoHouse, xcd_NoHouse⟩ := kd_ok FDX_NoHouse (ck 28 rfl)
  have X_NoHouse : PySem.XNoHouse.TxtNoHouse K mg (He.ga K "NoHouse") (He.ma K (He.ga K "NoHouse") "__init__") := { gC := He.glo_ok X G (cd.fact 4 (f := .glo "NoHouse") rfl), cls := xc_ok (ck 20 rfl), iC := (of_decide_eq_true (ck 21 rfl)), tC := (of_decide_eq_true (ck 22 rfl)), kC := (ck 23 rfl), exC := (of_decide_eq_true (ck 24 rfl)), tyC := (of_decide_eq_true (ck 25 rfl)), te := exm_ab true (of_decide_eq_true (ck 24 rfl)) (ck 26 rfl) (of_decide_eq_true (ck 25 rfl)) (of_decide_eq_true (ck 27 rfl)), fn := ⟨oc_NoHouse, od_NoHouse, dc_NoHouse, pm_NoHouse, an_NoHouse, cdv_NoHouse, ct_NoHouse, osl_NoHouse, _, _, xf_NoHouse, xcd_NoHouse⟩ }
  obtain ⟨fdX_NoNumber, FDX_NoNumber⟩ : ∃ fd, FunD K "__init__" "NoNumber.__init__" (defArgs s_XNoNumber) (defBody s_XNoNumber) (defScope s_XNoNumber) [] [] (He.ma K (He.ga K "NoNumber") "__init__") fd := cd.def_ 50 (d := ⟨("NoNumber", some "__init__"), "__init__", "NoNumber.__init__", defArgs s_XNoNumber, defBody s_XNoNumber, defScope s_XNoNumber, [], []⟩) rfl
  obtain ⟨oc_NoNumber, od_NoNumber, dc_NoNumber, pm_NoNumber, an_NoNumber, cdv_NoNumber, ct_NoNumber, osl_NoNumber, xf_NoNumber, xcd_NoNumber⟩ := kd_ok FDX_NoNumber (ck 37 rfl)
  have X_NoNumber : PySem.XNoNumber.TxtNoNumber K mg (He.ga K "NoNumber") (He.ma K (He.ga K "NoNumber") "__init__") := { gC := He.glo_ok X G (cd.fact 5 (f := .glo "NoNumber") rfl), cls := xc_ok (ck 29 rfl), iC := (of_decide_eq_true (ck 30 rfl)), tC := (of_decide_eq_true (ck 31 rfl)), kC := (ck 32 rfl), exC := (of_decide_eq_true (ck 33 rfl)), tyC := (of_decide_eq_true (ck 34 rfl)), te := exm_ab true (of_decide_eq_true (ck 33 rfl)) (ck 35 rfl) (of_decide_eq_true (ck 34 rfl)) (of_decide_eq_true (ck 36 rfl)), fn := ⟨oc_NoNumber, od_NoNumber, dc_NoNumber, pm_NoNumber, an_NoNumber, cdv_NoNumber, ct_NoNumber, osl_NoNumber, _, _, xf_NoNumber, xcd_NoNumber⟩ }
  obtain ⟨fdX_NoShape, FDX_NoShape⟩ : ∃ fd, FunD K "__init__" "NoShape.__init__" (defArgs s_XNoShape) (defBody s_XNoShape) (defScope s_XNoShape) [] [] (He.ma K (He.ga K "NoShape") "__init__") fd := cd.def_ 51 (d := ⟨("NoShape", some "__init__"), "__init__", "NoShape.__init__", defArgs s_XNoShape, defBody s_XNoShape, defScope s_XNoShape, [], []⟩) rfl
  obtain ⟨oc_NoShape, od_NoShape, dc_NoShape, pm_NoShape, an_NoShape, cdv_NoShape, ct_NoShape, osl_NoShape, xf_NoShape, xcd_NoShape⟩ := kd_ok FDX_NoShape (ck 46 rfl)
  have X_NoShape : PySem.XNoShape.TxtNoShape K mg (He.ga K "NoShape") (He.ma K (He.ga K "NoShape") "__init__") := { gC := He.glo_ok X G (cd.fact 6 (f := .glo "NoShape") rfl), cls := xc_ok (ck 38 rfl), iC := (of_decide_eq_true (ck 39 rfl)), tC := (of_decide_eq_true (ck 40 rfl)), kC := (ck 41 rfl), exC := (of_decide_eq_true (ck 42 rfl)), tyC := (of_decide_eq_true (ck 43 rfl)), te := exm_ab true (of_decide_eq_true (ck 42 rfl)) (ck 44 rfl) (of_decide_eq_true (ck 43 rfl)) (of_decide_eq_true (ck 45 rfl)), fn := ⟨oc_NoShape, od_NoShape, dc_NoShape, pm_NoShape, an_NoShape, cdv_NoShape, ct_NoShape, osl_NoShape, _, _, xf_NoShape, xcd_NoShape⟩ }
  obtain ⟨fdX_NoTurn, FDX_NoTurn⟩ : ∃ fd, FunD K "__init__" "NoTurn.__init__" (defArgs s_XNoTurn) (defBody s_XNoTurn) (defScope s_XNoTurn) [] [] (He.ma K (He.ga K "NoTurn") "__init__") fd := cd.def_ 52 (d := ⟨("NoTurn", some "__init__"), "__init__", "NoTurn.__init__", defArgs s_XNoTurn, defBody s_XNoTurn, defScope s_XNoTurn, [], []⟩) rfl
  obtain ⟨oc_NoTurn, od_NoTurn, dc_NoTurn, pm_NoTurn, an_NoTurn, cdv_NoTurn, ct_NoTurn, osl_NoTurn, xf_NoTurn, xcd_NoTurn⟩ := kd_ok FDX_NoTurn (ck 55 rfl)
  have X_NoTurn : PySem.XNoTurn.TxtNoTurn K mg (He.ga K "NoTurn") (He.ma K (He.ga K "NoTurn") "__init__") := { gC := He.glo_ok X G (cd.fact 7 (f := .glo "NoTurn") rfl), cls := xc_ok (ck 47 rfl), iC := (of_decide_eq_true (ck 48 rfl)), tC := (of_decide_eq_true (ck 49 rfl)), kC := (ck 50 rfl), exC := (of_decide_eq_true (ck 51 rfl)), tyC := (of_decide_eq_true (ck 52 rfl)), te := exm_ab true (of_decide_eq_true (ck 51 rfl)) (ck 53 rfl) (of_decide_eq_true (ck 52 rfl)) (of_decide_eq_true (ck 54 rfl)), fn := ⟨oc_NoTurn, od_NoTurn, dc_NoTurn, pm_NoTurn, an_NoTurn, cdv_NoTurn, ct_NoTurn, osl_NoTurn, _, _, xf_NoTurn, xcd_NoTurn⟩ }
  have T : Txt mg := ⟨He.free_ok X G (cd.fact 54 (f := .free "ValueError") rfl), He.free_ok X G (cd.fact 55 (f := .free "range") rfl), He.free_ok X G (cd.fact 56 (f := .free "all") rfl), He.free_ok X G (cd.fact 57 (f := .free "tuple") rfl), He.free_ok X G (cd.fact 58 (f := .free "sum") rfl), He.free_ok X G (cd.fact 59 (f := .free "list") rfl), He.free_ok X G (cd.fact 60 (f := .free "len") rfl), He.free_ok X G (cd.fact 61 (f := .free "isinstance") rfl), He.free_ok X G (cd.fact 62 (f := .free "int") rfl), He.free_ok X G (cd.fact 63 (f := .free "bool") rfl), He.free_ok X G (cd.fact 64 (f := .free "min") rfl), He.int_ok X G (cd.fact 65 (f := .int "MOST_HOUSES" (64)) rfl)⟩
  have GX : Gx (mkG K) := { CS := rfl, FL := rfl, k_Forest_int := (of_decide_eq_true (ck 79 rfl)), k_Forest_bool := (of_decide_eq_true (ck 80 rfl)), k_Forest_tuple := (of_decide_eq_true (ck 81 rfl)), kk_Forest_Forest := (of_decide_eq_true (ck 82 rfl)), k_Stand_int := (of_decide_eq_true (ck 83 rfl)), k_Stand_bool := (of_decide_eq_true (ck 84 rfl)), k_Stand_tuple := (of_decide_eq_true (ck 85 rfl)), kk_Stand_Forest := (of_decide_eq_true (ck 86 rfl)), t_NoneType_Forest := (of_decide_eq_true (ck 87 rfl)), t_int_Forest := (of_decide_eq_true (ck 88 rfl)), t_bool_Forest := (of_decide_eq_true (ck 89 rfl)), t_tuple_Forest := (of_decide_eq_true (ck 90 rfl)), t_list_Forest := (of_decide_eq_true (ck 91 rfl)), t_str_Forest := (of_decide_eq_true (ck 92 rfl)), t_dict_Forest := (of_decide_eq_true (ck 93 rfl)), ke_NoShape_NoShape := (of_decide_eq_true (ck 94 rfl)), ke_NoShape_NoHouse := (of_decide_eq_true (ck 95 rfl)), ke_NoShape_NoTurn := (of_decide_eq_true (ck 96 rfl)), ke_NoShape_NoNumber := (of_decide_eq_true (ck 97 rfl)), ke_NoShape_ValueError := (of_decide_eq_true (ck 98 rfl)), ke_NoHouse_NoShape := (of_decide_eq_true (ck 99 rfl)), ke_NoHouse_NoHouse := (of_decide_eq_true (ck 100 rfl)), ke_NoHouse_NoTurn := (of_decide_eq_true (ck 101 rfl)), ke_NoHouse_NoNumber := (of_decide_eq_true (ck 102 rfl)), ke_NoHouse_ValueError := (of_decide_eq_true (ck 103 rfl)), ke_NoTurn_NoShape := (of_decide_eq_true (ck 104 rfl)), ke_NoTurn_NoHouse := (of_decide_eq_true (ck 105 rfl)), ke_NoTurn_NoTurn := (of_decide_eq_true (ck 106 rfl)), ke_NoTurn_NoNumber := (of_decide_eq_true (ck 107 rfl)), ke_NoTurn_ValueError := (of_decide_eq_true (ck 108 rfl)), ke_NoNumber_NoShape := (of_decide_eq_true (ck 109 rfl)), ke_NoNumber_NoHouse := (of_decide_eq_true (ck 110 rfl)), ke_NoNumber_NoTurn := (of_decide_eq_true (ck 111 rfl)), ke_NoNumber_NoNumber := (of_decide_eq_true (ck 112 rfl)), ke_NoNumber_ValueError := (of_decide_eq_true (ck 113 rfl)), nv_potential_rows := (of_decide_eq_true (ck 114 rfl)), nv_potential_told_forest := (of_decide_eq_true (ck 115 rfl)), nv_potential_weights := (of_decide_eq_true (ck 116 rfl)), nv_rows_told_forest := (of_decide_eq_true (ck 117 rfl)), nv_rows_weights := (of_decide_eq_true (ck 118 rfl)), nv_told_forest_weights := (of_decide_eq_true (ck 119 rfl)), x_BadForest_ForestError := exm_ab true (of_decide_eq_true (ck 78 rfl)) (ck 76 rfl) (of_decide_eq_true (ck 77 rfl)) (of_decide_eq_true (ck 120 rfl)), x_NoHouse_ForestError := exm_ab true (of_decide_eq_true (ck 78 rfl)) (ck 76 rfl) (of_decide_eq_true (ck 77 rfl)) (of_decide_eq_true (ck 121 rfl)), x_NoNumber_ForestError := exm_ab true (of_decide_eq_true (ck 78 rfl)) (ck 76 rfl) (of_decide_eq_true (ck 77 rfl)) (of_decide_eq_true (ck 122 rfl)), x_NoShape_ForestError := exm_ab true (of_decide_eq_true (ck 78 rfl)) (ck 76 rfl) (of_decide_eq_true (ck 77 rfl)) (of_decide_eq_true (ck 123 rfl)), x_NoTurn_ForestError := exm_ab true (of_decide_eq_true (ck 78 rfl)) (ck 76 rfl) (of_decide_eq_true (ck 77 rfl)) (of_decide_eq_true (ck 124 rfl)) }
  have Z : Fx (mkG K) w mg (He.ma K (He.ga K "BadForest") "__init__") (He.ma K (He.ga K "NoHouse") "__init__") (He.ma K (He.ga K "NoNumber") "__init__") (He.ma K (He.ga K "NoShape") "__init__") (He.ma K (He.ga K "NoTurn") "__init__") (He.ma K (He.ga K "Forest") "__init__") (He.ma K (He.ga K "Stand") "__init__") := { CSO := (ownCs_mk (.cons ⟨CL_Forest, (of_decide_eq_true (ck 0 rfl)), (of_decide_eq_true (ck 4 rfl)), (of_decide_eq_true (ck 5 rfl)), (of_decide_eq_true (ck 1 rfl))⟩ (.cons ⟨CL_Stand, (of_decide_eq_true (ck 2 rfl)), (of_decide_eq_true (ck 4 rfl)), (of_decide_eq_true (ck 5 rfl)), (of_decide_eq_true (ck 3 rfl))⟩ (.nil)))), FO := (flOk_mk (.cons ⟨CL_Forest, He.noat_ok (cd.fact 68 (f := .noat "Forest" "parents") rfl)⟩ (.cons ⟨CL_Forest, He.noat_ok (cd.fact 69 (f := .noat "Forest" "worths") rfl)⟩ (.cons ⟨CL_Stand, He.noat_ok (cd.fact 72 (f := .noat "Stand" "up") rfl)⟩ (.cons ⟨CL_Stand, He.noat_ok (cd.fact 73 (f := .noat "Stand" "left") rfl)⟩ (.cons ⟨CL_Stand, He.noat_ok (cd.fact 74 (f := .noat "Stand" "right") rfl)⟩ (.cons ⟨CL_Stand, He.noat_ok (cd.fact 75 (f := .noat "Stand" "turned") rfl)⟩ (.cons ⟨CL_Stand, He.noat_ok (cd.fact 76 (f := .noat "Stand" "added") rfl)⟩ (.cons ⟨CL_Stand, He.noat_ok (cd.fact 77 (f := .noat "Stand" "value") rfl)⟩ (.nil)))))))))), Forest := He.glo_ok X G (cd.fact 0 (f := .glo "Forest") rfl), mk_Forest := He.mkr_ok (cd.fact 67 (f := .mkr "Forest") rfl), Stand := He.glo_ok X G (cd.fact 1 (f := .glo "Stand") rfl), mk_Stand := He.mkr_ok (cd.fact 71 (f := .mkr "Stand") rfl), BadForest := X_BadForest, NoHouse := X_NoHouse, NoNumber := X_NoNumber, NoShape := X_NoShape, NoTurn := X_NoTurn, v_potential := He.glo_ok X G (cd.fact 44 (f := .glo "potential") rfl), v_rows := He.glo_ok X G (cd.fact 50 (f := .glo "rows") rfl), v_told_forest := He.glo_ok X G (cd.fact 52 (f := .glo "told_forest") rfl), v_weights := He.glo_ok X G (cd.fact 43 (f := .glo "weights") rfl), xc_NoShape := ⟨(of_decide_eq_true (ck 56 rfl)), (of_decide_eq_true (ck 57 rfl)), (of_decide_eq_true (ck 42 rfl)), (ck 58 rfl), (of_decide_eq_true (ck 59 rfl)), (of_decide_eq_true (ck 4 rfl)), (of_decide_eq_true (ck 5 rfl)), (of_decide_eq_true (ck 60 rfl))⟩, xc_NoHouse := ⟨(of_decide_eq_true (ck 61 rfl)), (of_decide_eq_true (ck 62 rfl)), (of_decide_eq_true (ck 24 rfl)), (ck 63 rfl), (of_decide_eq_true (ck 64 rfl)), (of_decide_eq_true (ck 4 rfl)), (of_decide_eq_true (ck 5 rfl)), (of_decide_eq_true (ck 65 rfl))⟩, xc_NoTurn := ⟨(of_decide_eq_true (ck 66 rfl)), (of_decide_eq_true (ck 67 rfl)), (of_decide_eq_true (ck 51 rfl)), (ck 68 rfl), (of_decide_eq_true (ck 69 rfl)), (of_decide_eq_true (ck 4 rfl)), (of_decide_eq_true (ck 5 rfl)), (of_decide_eq_true (ck 70 rfl))⟩, xc_NoNumber := ⟨(of_decide_eq_true (ck 71 rfl)), (of_decide_eq_true (ck 72 rfl)), (of_decide_eq_true (ck 33 rfl)), (ck 73 rfl), (of_decide_eq_true (ck 74 rfl)), (of_decide_eq_true (ck 4 rfl)), (of_decide_eq_true (ck 5 rfl)), (of_decide_eq_true (ck 75 rfl))⟩, ForestError := He.glo_ok X G (cd.fact 2 (f := .glo "ForestError") rfl) }
  obtain ⟨fdl, FDL⟩ : ∃ fd, FunD K "law" "law" (defArgs s_law) (defBody s_law) (defScope s_law) [] [] (He.ga K "law") fd := cd.def_ 45 (d := ⟨("law", none), "law", "law", defArgs s_law, defBody s_law, defScope s_law, [], []⟩) rfl
  have e := hfa.symm.trans (He.glo_ok X G (cd.fact 53 (f := .glo "law") rfl))
  cases e
  refine ⟨fdl, FunD.bindsA (ps := ["script"]) FDL (fun _ _ _ _ _ _ us hl => match us, hl with | [_], _ => rfl) |> fun b s v => b s [v] rfl, fun base _ _ hTB => ?_⟩
  letI : TabsP := tabsK K
  exact ok_all (P := P) (w := w) (base := base) T Z GX FN_Stand_init B_Stand_init FN_Forest_init B_Forest_init (fun_ofD FDL) D_L_word D_is_integer D_come_to_roots D_has_its_sons D_shape_of D_is_top D_line_up D_hand_on D_take_place D_L_hand D_L_draw D_L_number D_L_is_integer D_L_house D_L_is_son D_is_between D_are_worths D_rank D_told_worth D_weights_of D_turn_up D_L_deep D_L_value D_L_shuffled D_L_is_shape D_is_house D_is_many D_told_worths D_potential_of D_L_shape D_are_parents D_is_part D_need_house D_is_shape D_stands_of D_weights D_potential D_handed_on D_turned_up D_L_odd_shape D_part_in_order D_row_in_order D_rows D_forest_of D_told_forest (hTB (He.cT K ("law", none)) (List.mem_map.mpr ⟨("law", none), by decide, rfl⟩)) (code_ofD (d := ("law", none)) FDL rfl) (show _ ∈ tabsL K by simp [tabsL]) (fun p (hp : p ∈ tabsL K) _ => by simp only [tabsL, List.mem_cons, List.not_mem_nil, or_false] at hp; rw [hp])
theorem walkH {l : PySem.W.OpenLaw} {q : Program} {loose : List Str} {XP : (Str → Option Value) → Heap → Prop} {d : DefRec} (hn : l.most = some 63) (hdf : d.params.defaults = []) (hd : d.name = "law") :
    PySem.W.WalkO q loose XP hk.says l.row.toRowW d [] (fun f vs => PySem.call f vs) :=
  LamX.walk_ofTsE (l := l) (n := 63) (k := 77) (x := "script") (CX := fun w => L2.CX l.prog w) hn (by decide) hdf ⟨rfl, by decide, by decide⟩ (fun w mg fa h hy G hmg => by
    obtain ⟨K, KX, c⟩ := hy
    rw [hd] at hmg
    obtain ⟨fd, b, F⟩ := facts (P := l.prog) (w := w) KX G hmg c
    refine ⟨K, KX, fd, hTf.map (He.cT K), @spLaw (tabsK K) K, fun p m => ?_, fun p m => ?_, fun p m => ?_, b, fun H a ns hl _ hT hS => ⟨a, ns, rfl, hS, hl, fun p hp => ?_, fun _ => rfl⟩, F⟩
    · obtain ⟨z, hz, rfl⟩ := List.mem_map.mp m
      exact c.empty z hz
    · obtain ⟨z, hz, rfl⟩ := List.mem_map.mp m
      exact c.out z hz
    · obtain ⟨z, hz, rfl⟩ := List.mem_map.mp m
      exact PySem.W.codeHd_of_K KX (c.hd z hz)
    · have hp : p ∈ tabsL K := hp
      simp only [tabsL, List.mem_cons, List.not_mem_nil, or_false] at hp
      rcases hp with rfl <;> exact LamX.TabS.nil (hT _ (List.mem_map.mpr ⟨_, by simp [hTf], rfl⟩))) fun _ _ _ _ _ ⟨_, _, _, _, _, _, _, _, _, _, _, _, z⟩ => z.elim
end W3
open PySem PySem.W PySem.Calls PyProof.Rows in
set_option maxRecDepth 100000 in
set_option maxHeartbeats 0 in
theorem PySem.Challenge.cw_cutlinked_k10_shapes_refused_holds : PySem.Challenge.rw_cutlinked_k10_shapes_refused.Holds := by
  w_on; o_law
  refine HandSHeadRun.head_any (r := OpenLaw.row PySem.Challenge.rw_cutlinked_k10_shapes_refused) (q := view (OpenLaw.row PySem.Challenge.rw_cutlinked_k10_shapes_refused).prog [59]) (H := W3.hk) (ob := W3.hob) (M := 200000) (loose := W3.hNames) (d := HandSHeadRun.topDef (OpenLaw.row PySem.Challenge.rw_cutlinked_k10_shapes_refused).prog 59) (kwd := []) W3.hob_eq
    (by kernel_rfl) (fun s => by kernel_rfl) W3.hrun (by kernel_rfl) (by kernel_rfl) (by kernel_rfl) (by rfl) (by first | assumption | decide +kernel) (by decide +kernel) ⟨rfl, rfl, rfl, rfl, rfl, by decide +kernel⟩ ?hw ?hc
  case hw => w_witness2
  case hc => exact W3.walkH rfl rfl rfl
