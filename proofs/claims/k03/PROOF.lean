import PyProof.Rows.All
import Wide.All
import OpenK.AllK
import Wide.FinOn
import HandS.HeadHook4
import HandS.ForMost
import HandS.TupAny
import HandS.TupMul
import HandS.IsInst
import HandS.Zip
import HandS.Rev
import HandS.RevTup
import HandS.Walk
import HandS.Lambda
import KE.KeyNested
import KE.KDictKeyed
import KE.KDictDisplayH
import KE.GoesNew
import HandS.NoneIn
import HandS.Small
import HandS.ForExc
import HandS.Defaults
import HandS.HeadHook2
import PyProof.DictUpdate
import Wide.Once
import KE.KStateDown
import HandS.Head0
import HandS.Head1
import HandS.Head2
import HandS.HeadEnd
import HandS.HeadWalk
import HandS.FStr
import HandS.RaiseMore
import PyProof.ExcBaseAll.ValueError
import HandS.SetFor
import HandS.Codes
import HandS.ExcIs
import HandS.TupLen
import HandS.Star
import HandS.Style
import HandS.SortInts
import HandS.Strs
import HandS.TupSets
import KE.KSetDisp
import HandS.Conv
import KE.SortData
import KE.KDictWalk
import KE.KDictList
import KE.KDictSum
import KE.GoesDict
import PySem.Challenge.RW_callpact_k03_whole_the_told_way_breaks
set_option Elab.async false
set_option linter.all false
set_option maxRecDepth 100000
set_option maxHeartbeats 2000000
namespace LW
section
open PySem PySem.Spec PyProof.Rows L2
inductive PV where
  | non | bl (b : Bool) | int (i : Int) | str (s : Str)
  | tup (xs : List PV) | ls (xs : List PV) | fz (xs : List PV) | dc (ks : List Str) (vs : List PV) | loc (l : Nat)

def relP (K : PySem.W.Frag) : Nat → PV → Value → Bool
  | _, .int i, .int j _ => decide (i = j)
  | _, .str x, .str y _ => decide (x = y)
  | n + 1, .tup xs, .ref a => (match K.lookup a with
    | some ⟨.type c, _, .seq its _, _⟩ => decide (c = "tuple") && (decide (its.size ≤ sizeLine) && (decide (xs.length = its.toList.length) && (xs.zip its.toList).all fun p => relP K n p.1 p.2))
    | _ => false)
  | _, _, _ => false
def keyStr (e : DictEntry) : Option Str := match e.key with
  | .str x _ => some x
  | _ => none
def dictP (K : PySem.W.Frag) (a : Addr) (ks : List Str) (xs : List PV) : Bool := match K.lookup a with
  | some ⟨_, _, .dict es _, _⟩ => decide (es.toList.map keyStr = ks.map some) && (decide (xs.length = es.toList.length) && (xs.zip es.toList).all fun p => relP K 4 p.1 p.2.val)
  | _ => false
end
/-! Gk03_1 -/
/-! .. and that the text does it; written by gen.py -/
section
open PySem PySem.Spec PyProof.Rows L2
def topS (i : Nat) : Stmt := PySem.Challenge.pw_callpact_k03_whole_the_told_way_breaks.main.body.getD i (.Pass ⟨0, 0, 0, 0⟩)
abbrev s_is_tuple_of : Stmt := topS 13
abbrev s_is_below : Stmt := topS 12
abbrev s_are_rising_boxes : Stmt := topS 14
abbrev s_is_house : Stmt := topS 15
abbrev s_check_houses : Stmt := topS 17
abbrev s_is_row : Stmt := topS 16
abbrev s_check_rows : Stmt := topS 18
abbrev s_check_routines : Stmt := topS 19
abbrev s_check_program : Stmt := topS 20
abbrev s_check_number : Stmt := topS 21
abbrev s_house_of : Stmt := topS 22
abbrev s_first_state : Stmt := topS 28
abbrev s_rows_of : Stmt := topS 23
abbrev s_looked_at : Stmt := topS 29
abbrev s_first_unfit : Stmt := topS 30
abbrev s_break_of_back : Stmt := topS 31
abbrev s_break_of : Stmt := topS 32
abbrev s_first_break : Stmt := topS 38
abbrev s_boxes_behind_call : Stmt := topS 33
abbrev s_next_rows : Stmt := topS 34
abbrev s_come_of : Stmt := topS 35
abbrev s_next_level : Stmt := topS 39
abbrev s_survey : Stmt := topS 40
abbrev s_way_to : Stmt := topS 41
abbrev s_look_at : Stmt := topS 42
abbrev s_look : Stmt := topS 43
abbrev s_mix : Stmt := topS 45
abbrev s_next : Stmt := topS 46
abbrev s_house : Stmt := topS 48
abbrev s_number : Stmt := topS 49
abbrev s_simple : Stmt := topS 50
abbrev s_calling : Stmt := topS 51
abbrev s_zeroed : Stmt := topS 52
abbrev s_kept : Stmt := topS 53
abbrev s_program : Stmt := topS 55
abbrev s_wild_row : Stmt := topS 54
abbrev s_odd : Stmt := topS 56
abbrev s_wild : Stmt := topS 57
abbrev s_any : Stmt := topS 58
abbrev s_first : Stmt := topS 59
abbrev s_not_good : Stmt := topS 60
abbrev s_breaks : Stmt := topS 61
abbrev s_nexts : Stmt := topS 62
abbrev s_look_ : Stmt := topS 63
abbrev s_walked : Stmt := topS 64
abbrev s_shorter : Stmt := topS 65
abbrev s_law : Stmt := topS 66
def d_is_tuple_of : He.DefD := ⟨("is_tuple_of", none), "is_tuple_of", "is_tuple_of", defArgs s_is_tuple_of, defBody s_is_tuple_of, defScope s_is_tuple_of, [], []⟩
def d_is_below : He.DefD := ⟨("is_below", none), "is_below", "is_below", defArgs s_is_below, defBody s_is_below, defScope s_is_below, [], []⟩
def d_are_rising_boxes : He.DefD := ⟨("are_rising_boxes", none), "are_rising_boxes", "are_rising_boxes", defArgs s_are_rising_boxes, defBody s_are_rising_boxes, defScope s_are_rising_boxes, [], []⟩
def d_is_house : He.DefD := ⟨("is_house", none), "is_house", "is_house", defArgs s_is_house, defBody s_is_house, defScope s_is_house, [], []⟩
def d_check_houses : He.DefD := ⟨("check_houses", none), "check_houses", "check_houses", defArgs s_check_houses, defBody s_check_houses, defScope s_check_houses, [], []⟩
def d_is_row : He.DefD := ⟨("is_row", none), "is_row", "is_row", defArgs s_is_row, defBody s_is_row, defScope s_is_row, [], []⟩
def d_check_rows : He.DefD := ⟨("check_rows", none), "check_rows", "check_rows", defArgs s_check_rows, defBody s_check_rows, defScope s_check_rows, [], []⟩
def d_check_routines : He.DefD := ⟨("check_routines", none), "check_routines", "check_routines", defArgs s_check_routines, defBody s_check_routines, defScope s_check_routines, [], []⟩
def d_check_program : He.DefD := ⟨("check_program", none), "check_program", "check_program", defArgs s_check_program, defBody s_check_program, defScope s_check_program, [], []⟩
def d_check_number : He.DefD := ⟨("check_number", none), "check_number", "check_number", defArgs s_check_number, defBody s_check_number, defScope s_check_number, [], []⟩
def d_house_of : He.DefD := ⟨("house_of", none), "house_of", "house_of", defArgs s_house_of, defBody s_house_of, defScope s_house_of, [], []⟩
def d_first_state : He.DefD := ⟨("first_state", none), "first_state", "first_state", defArgs s_first_state, defBody s_first_state, defScope s_first_state, [], []⟩
def d_rows_of : He.DefD := ⟨("rows_of", none), "rows_of", "rows_of", defArgs s_rows_of, defBody s_rows_of, defScope s_rows_of, [], []⟩
def d_looked_at : He.DefD := ⟨("looked_at", none), "looked_at", "looked_at", defArgs s_looked_at, defBody s_looked_at, defScope s_looked_at, [], []⟩
def d_first_unfit : He.DefD := ⟨("first_unfit", none), "first_unfit", "first_unfit", defArgs s_first_unfit, defBody s_first_unfit, defScope s_first_unfit, [], []⟩
def d_break_of_back : He.DefD := ⟨("break_of_back", none), "break_of_back", "break_of_back", defArgs s_break_of_back, defBody s_break_of_back, defScope s_break_of_back, [], []⟩
def d_break_of : He.DefD := ⟨("break_of", none), "break_of", "break_of", defArgs s_break_of, defBody s_break_of, defScope s_break_of, [], []⟩
def d_first_break : He.DefD := ⟨("first_break", none), "first_break", "first_break", defArgs s_first_break, defBody s_first_break, defScope s_first_break, [], []⟩
def d_boxes_behind_call : He.DefD := ⟨("boxes_behind_call", none), "boxes_behind_call", "boxes_behind_call", defArgs s_boxes_behind_call, defBody s_boxes_behind_call, defScope s_boxes_behind_call, [], []⟩
def d_next_rows : He.DefD := ⟨("next_rows", none), "next_rows", "next_rows", defArgs s_next_rows, defBody s_next_rows, defScope s_next_rows, [], []⟩
def d_come_of : He.DefD := ⟨("come_of", none), "come_of", "come_of", defArgs s_come_of, defBody s_come_of, defScope s_come_of, [], []⟩
def d_next_level : He.DefD := ⟨("next_level", none), "next_level", "next_level", defArgs s_next_level, defBody s_next_level, defScope s_next_level, [], []⟩
def d_survey : He.DefD := ⟨("survey", none), "survey", "survey", defArgs s_survey, defBody s_survey, defScope s_survey, [], []⟩
def d_way_to : He.DefD := ⟨("way_to", none), "way_to", "way_to", defArgs s_way_to, defBody s_way_to, defScope s_way_to, [], []⟩
def d_look_at : He.DefD := ⟨("look_at", none), "look_at", "look_at", defArgs s_look_at, defBody s_look_at, defScope s_look_at, [], []⟩
def d_look : He.DefD := ⟨("look", none), "look", "look", defArgs s_look, defBody s_look, defScope s_look, [], []⟩
def d_mix : He.DefD := ⟨("_law_mix", none), "_law_mix", "_law_mix", defArgs s_mix, defBody s_mix, defScope s_mix, [], []⟩
def d_next : He.DefD := ⟨("_law_next", none), "_law_next", "_law_next", defArgs s_next, defBody s_next, defScope s_next, [], []⟩
def d_house : He.DefD := ⟨("_law_house", none), "_law_house", "_law_house", defArgs s_house, defBody s_house, defScope s_house, [], []⟩
def d_number : He.DefD := ⟨("_law_number", none), "_law_number", "_law_number", defArgs s_number, defBody s_number, defScope s_number, [], []⟩
def d_simple : He.DefD := ⟨("_law_simple", none), "_law_simple", "_law_simple", defArgs s_simple, defBody s_simple, defScope s_simple, [], []⟩
def d_calling : He.DefD := ⟨("_law_calling", none), "_law_calling", "_law_calling", defArgs s_calling, defBody s_calling, defScope s_calling, [], []⟩
def d_zeroed : He.DefD := ⟨("_law_zeroed", none), "_law_zeroed", "_law_zeroed", defArgs s_zeroed, defBody s_zeroed, defScope s_zeroed, [], []⟩
def d_kept : He.DefD := ⟨("_law_kept", none), "_law_kept", "_law_kept", defArgs s_kept, defBody s_kept, defScope s_kept, [], []⟩
def d_program : He.DefD := ⟨("_law_program", none), "_law_program", "_law_program", defArgs s_program, defBody s_program, defScope s_program, [], []⟩
def d_wild_row : He.DefD := ⟨("_law_wild_row", none), "_law_wild_row", "_law_wild_row", defArgs s_wild_row, defBody s_wild_row, defScope s_wild_row, [], []⟩
def d_odd : He.DefD := ⟨("_law_odd", none), "_law_odd", "_law_odd", defArgs s_odd, defBody s_odd, defScope s_odd, [], []⟩
def d_wild : He.DefD := ⟨("_law_wild", none), "_law_wild", "_law_wild", defArgs s_wild, defBody s_wild, defScope s_wild, [], []⟩
def d_any : He.DefD := ⟨("_law_any", none), "_law_any", "_law_any", defArgs s_any, defBody s_any, defScope s_any, [], []⟩
def d_first : He.DefD := ⟨("_law_first", none), "_law_first", "_law_first", defArgs s_first, defBody s_first, defScope s_first, [], []⟩
def d_not_good : He.DefD := ⟨("_law_not_good", none), "_law_not_good", "_law_not_good", defArgs s_not_good, defBody s_not_good, defScope s_not_good, [], []⟩
def d_breaks : He.DefD := ⟨("_law_breaks", none), "_law_breaks", "_law_breaks", defArgs s_breaks, defBody s_breaks, defScope s_breaks, [], []⟩
def d_nexts : He.DefD := ⟨("_law_nexts", none), "_law_nexts", "_law_nexts", defArgs s_nexts, defBody s_nexts, defScope s_nexts, [], []⟩
def d_look_ : He.DefD := ⟨("_law_look", none), "_law_look", "_law_look", defArgs s_look_, defBody s_look_, defScope s_look_, [], []⟩
def d_walked : He.DefD := ⟨("_law_walked", none), "_law_walked", "_law_walked", defArgs s_walked, defBody s_walked, defScope s_walked, [], []⟩
def d_shorter : He.DefD := ⟨("_law_shorter", none), "_law_shorter", "_law_shorter", defArgs s_shorter, defBody s_shorter, defScope s_shorter, [], []⟩
def d_law : He.DefD := ⟨("law", none), "law", "law", defArgs s_law, defBody s_law, defScope s_law, [], []⟩
def fnl : List He.DefD := [d_is_tuple_of, d_is_below, d_are_rising_boxes, d_is_house, d_check_houses, d_is_row, d_check_rows, d_check_routines, d_check_program, d_check_number, d_house_of, d_first_state, d_rows_of, d_looked_at, d_first_unfit, d_break_of_back, d_break_of, d_first_break, d_boxes_behind_call, d_next_rows, d_come_of, d_next_level, d_survey, d_way_to, d_look_at, d_look, d_mix, d_next, d_house, d_number, d_simple, d_calling, d_zeroed, d_kept, d_program, d_wild_row, d_odd, d_wild, d_any, d_first, d_not_good, d_breaks, d_nexts, d_look_, d_walked, d_shorter, d_law]
def fal : List He.Fa := [.free "all", .free "any", .free "bool", .free "enumerate", .free "int", .free "isinstance", .free "len", .free "list", .free "max", .free "min", .free "range", .free "reversed", .free "set", .free "sorted", .free "str", .free "tuple", .free "zip", .glo "PLACES", .str "GOOD" "good", .str "LOOSE" "loose", .int "BOXES" 6, .int "DEEPEST" 8, .int "MOST_HOUSES" 3, .int "MOST_ROUTINES" 6, .int "MOST_ROWS" 32, .int "MOST_STATES" 250, .int "NUMBERS" 1000, .glo "TooMany", .exc "TooMany", .glo "is_tuple_of", .glo "is_below", .glo "are_rising_boxes", .glo "is_house", .glo "check_houses", .glo "is_row", .glo "check_rows", .glo "check_routines", .glo "check_program", .glo "check_number", .glo "house_of", .glo "first_state", .glo "rows_of", .glo "looked_at", .glo "first_unfit", .glo "break_of_back", .glo "break_of", .glo "first_break", .glo "boxes_behind_call", .glo "next_rows", .glo "come_of", .glo "next_level", .glo "survey", .glo "way_to", .glo "look_at", .glo "look", .glo "_law_mix", .glo "_law_next", .glo "_law_house", .glo "_law_number", .glo "_law_simple", .glo "_law_calling", .glo "_law_zeroed", .glo "_law_kept", .glo "_law_program", .glo "_law_wild_row", .glo "_law_odd", .glo "_law_wild", .glo "_law_any", .glo "_law_first", .glo "_law_not_good", .glo "_law_breaks", .glo "_law_nexts", .glo "_law_look", .glo "_law_walked", .glo "_law_shorter", .glo "law"]
def K_PLACES : List Str := ["put", "move", "add", "take", "push", "pop", "say", "zero", "go", "call", "back"]
def V_PLACES : List PV := [PV.tup [PV.str "box", PV.str "number"], PV.tup [PV.str "box", PV.str "box"], PV.tup [PV.str "box", PV.str "box", PV.str "box"], PV.tup [PV.str "box", PV.str "box", PV.str "box"], PV.tup [PV.str "box"], PV.tup [PV.str "box"], PV.tup [PV.str "box"], PV.tup [PV.str "box", PV.str "row"], PV.tup [PV.str "row"], PV.tup [PV.str "routine"], PV.tup []]
def tbl : List He.Tab := [(fun K => He.ga K "PLACES", K_PLACES)]
def exB (K : PySem.W.Frag) : Bool := dictP K (He.ga K "PLACES") K_PLACES V_PLACES
end

/-! Gk03_r -/
section
open PySem PySem.Spec PyProof.Rows L2
abbrev hk : PySem.W.Hook := He.hookX 5 fal fnl tbl [] exB
def ob (s : PySem.W.SharedT) : He.AlX := He.obsX 5 fal fnl tbl [] exB (HandSHeadRun.getT s)
theorem ob_eq (s : PySem.W.SharedT) : ob s = hk.obs s.abs := He.obsX_eq (HandSHeadRun.getT_eq s)
abbrev Rw : PySem.W.OpenRow := PySem.W.OpenLaw.row PySem.Challenge.rw_callpact_k03_whole_the_told_way_breaks
def ln0 : List PySem.Str := ["PactError", "BadProgram", "BadNumber", "TooMany", "BOXES", "NUMBERS", "MOST_HOUSES", "MOST_ROUTINES", "MOST_ROWS", "PLACES", "is_below", "is_tuple_of", "are_rising_boxes", "is_house", "is_row", "check_houses", "check_rows", "check_routines", "check_program", "check_number", "house_of", "rows_of", "GOOD", "LOOSE"]
def ln1 : List PySem.Str := ["DEEPEST", "first_state", "looked_at", "first_unfit", "break_of_back", "break_of", "boxes_behind_call", "next_rows", "come_of", "MOST_STATES", "first_break", "next_level", "survey", "way_to", "look_at", "look", "_law_mix", "_law_next", "_law_alike", "_law_house", "_law_number", "_law_simple", "_law_calling", "_law_zeroed"]
def ln2 : List PySem.Str := ["_law_kept", "_law_wild_row", "_law_program", "_law_odd", "_law_wild", "_law_any", "_law_first", "_law_not_good", "_law_breaks", "_law_nexts", "_law_look", "_law_walked", "_law_shorter"]
def loose : List PySem.Str := ln0 ++ ln1 ++ ln2
set_option maxHeartbeats 0 in
theorem runF (w : World) : HandSHeadRun.RunEq Rw (PySem.W.view Rw.prog [66]) hk ob 6000 loose (w.withFollow "special-get-raises" false) := by
  intro os
  kernel_rfl
theorem runT (w : World) : HandSHeadRun.RunEq Rw (PySem.W.view Rw.prog [66]) hk ob 6000 loose (w.withFollow "special-get-raises" true) := by
  intro os
  kernel_rfl
theorem run (w : World) : HandSHeadRun.RunEq Rw (PySem.W.view Rw.prog [66]) hk ob 6000 loose w :=
  PySem.W.byRow2 "special-get-raises" (P := fun w => HandSHeadRun.RunEq Rw (PySem.W.view Rw.prog [66]) hk ob 6000 loose w) runF runT w
end

/-! MiniK -/
/-! MiniK: the defs of this law that make lambdas (by name). -/
section
open PySem
def KD : List He.Defn := []
/-- their tables of code objects -/
def KT (K : PySem.W.Frag) : List (Addr × Str) := KD.map fun p => ((He.cT K p).2, p.1 ++ ".<locals>.<lambda>")
end

/-! Mini0 -/
/-! Mini0: a small machine of plain data: values, a store of what changes, what a piece of program does. -/
section
open PySem L2


mutual
def PV.beq : PV → PV → Bool
  | .non, .non => true
  | .bl a, .bl b => a == b
  | .int a, .int b => a == b
  | .str a, .str b => decide (a = b)
  | .tup a, .tup b => PV.beqs a b
  | .ls a, .ls b => PV.beqs a b
  | .fz a, .fz b => PV.beqs a b
  | .dc k a, .dc l b => decide (k = l) && PV.beqs a b
  | .loc a, .loc b => a == b
  | _, _ => false
def PV.beqs : List PV → List PV → Bool
  | [], [] => true
  | a :: r, b :: s => PV.beq a b && PV.beqs r s
  | _, _ => false
end
mutual
theorem PV.beq_eq : ∀ a b : PV, PV.beq a b = true → a = b
  | .non, b, h => by cases b <;> simp_all [PV.beq]
  | .bl x, b, h => by cases b <;> simp_all [PV.beq]
  | .int x, b, h => by cases b <;> simp_all [PV.beq]
  | .str x, b, h => by cases b <;> simp_all [PV.beq]
  | .tup xs, b, h => by
    cases b <;> simp [PV.beq] at h
    rw [PV.beqs_eq _ _ h]
  | .ls xs, b, h => by
    cases b <;> simp [PV.beq] at h
    rw [PV.beqs_eq _ _ h]
  | .fz xs, b, h => by
    cases b <;> simp [PV.beq] at h
    rw [PV.beqs_eq _ _ h]
  | .dc k xs, b, h => by
    cases b <;> simp [PV.beq] at h
    rw [h.1, PV.beqs_eq _ _ h.2]
  | .loc l, b, h => by cases b <;> simp_all [PV.beq]
theorem PV.beqs_eq : ∀ a b : List PV, PV.beqs a b = true → a = b
  | [], b, h => by cases b <;> simp_all [PV.beqs]
  | x :: r, b, h => by
    cases b with
    | nil => simp [PV.beqs] at h
    | cons y s =>
      simp [PV.beqs] at h
      rw [PV.beq_eq _ _ h.1, PV.beqs_eq _ _ h.2]
end
mutual
theorem PV.beq_refl : ∀ a : PV, PV.beq a a = true
  | .non => rfl
  | .bl x => by simp [PV.beq]
  | .int x => by simp [PV.beq]
  | .str x => by simp [PV.beq]
  | .tup xs => by simp [PV.beq, PV.beqs_refl xs]
  | .ls xs => by simp [PV.beq, PV.beqs_refl xs]
  | .fz xs => by simp [PV.beq, PV.beqs_refl xs]
  | .dc k xs => by simp [PV.beq, PV.beqs_refl xs]
  | .loc l => by simp [PV.beq]
theorem PV.beqs_refl : ∀ a : List PV, PV.beqs a a = true
  | [] => rfl
  | x :: r => by simp [PV.beqs, PV.beq_refl x, PV.beqs_refl r]
end
instance : DecidableEq PV := fun a b =>
  if h : PV.beq a b = true then .isTrue (PV.beq_eq a b h) else .isFalse fun e => h (e ▸ PV.beq_refl a)
instance : Inhabited PV := ⟨.non⟩

/-- what changes: a list, a dict by texts, a dict by data, by ints, such that are walked just now, an instance of the class at C -/
inductive Cell where
  | lst (xs : List PV)
  | dks (ks : List Str) (vs : List PV)
  | dkn (ks vs : List PV)
  | dki (ks : List Int) (vs : List PV)
  | fki (ks : List Int) (vs : List PV)
  | fkn (ks vs : List PV)
  | ins (C : Nat) (fs : List (Str × PV))
  deriving DecidableEq
abbrev Store := List Cell
structure PExc where
  cls : Str
  fs : List (Str × PV)
  deriving DecidableEq
inductive R (α : Type) where
  | ok (a : α) (S : Store)
  | exc (e : PExc) (S : Store)
  | bad
def R.bind {α β : Type} (r : R α) (f : α → Store → R β) : R β :=
  match r with
  | .ok a S => f a S
  | .exc e S => .exc e S
  | .bad => .bad
@[simp] theorem R.bind_ok {α β : Type} (a : α) (S : Store) (f : α → Store → R β) : (R.ok a S).bind f = f a S := rfl
/-- where no error may come out -/
def R.nox {α : Type} : R α → R α
  | .exc _ _ => .bad
  | r => r
@[simp] theorem R.nox_ok {α : Type} (a : α) (S : Store) : (R.ok a S).nox = .ok a S := rfl
abbrev Env := List (Option PV)
abbrev XE := Env → Store → R PV
abbrev XB := Env → Store → R Bool
abbrev XA := Env → Store → R (List PV)
inductive Fl where
  | nx | rt (v : PV) | bk | ct
abbrev XS := Env → Store → R (Fl × Env)

/-! ### values -/
def eVar (i : Nat) : XE := fun env S => match env[i]? with
  | some (some x) => .ok x S
  | _ => .bad
def eC (x : PV) : XE := fun _ S => .ok x S
abbrev Op1 := PV → Store → R PV
abbrev Op2 := PV → PV → Store → R PV
def eUn (op : Op1) (a : XE) : XE := fun env S => (a env S).bind fun x S => op x S
def eOp (op : Op2) (a b : XE) : XE := fun env S => (a env S).bind fun x S => (b env S).bind fun y S => op x y S
def eAnd (a b : XE) : XE := fun env S => (a env S).bind fun x S => match x with
  | .bl true => b env S
  | .bl false => .ok (.bl false) S
  | _ => .bad
def eOr (a b : XE) : XE := fun env S => (a env S).bind fun x S => match x with
  | .bl true => .ok (.bl true) S
  | .bl false => b env S
  | _ => .bad
def eNot (a : XE) : XE := fun env S => (a env S).bind fun x S => match x with
  | .bl k => .ok (.bl (!k)) S
  | _ => .bad
def eIf (c : XB) (a b : XE) : XE := fun env S => (c env S).bind fun k S => if k = true then a env S else b env S
/-- a op1 b op2 c -/
def eChain (o1 o2 : Op2) (a b c : XE) : XE := fun env S => (a env S).bind fun x S => (b env S).bind fun y S => (o1 x y S).bind fun k S => match k with
  | .bl true => (c env S).bind fun z S => o2 y z S
  | .bl false => .ok (.bl false) S
  | _ => .bad
/-! tests -/
def bVal (a : XE) : XB := fun env S => (a env S).bind fun x S => match x with
  | .bl k => .ok k S
  | _ => .bad
def bAnd (a b : XB) : XB := fun env S => (a env S).bind fun k S => if k = true then b env S else .ok false S
def bOr (a b : XB) : XB := fun env S => (a env S).bind fun k S => if k = true then .ok true S else b env S
def bNot (a : XB) : XB := fun env S => (a env S).bind fun k S => .ok (!k) S
/-! argument lists -/
def aNil : XA := fun _ S => .ok [] S
def aCons (a : XE) (r : XA) : XA := fun env S => (a env S).bind fun x S => (r env S).bind fun xs S => .ok (x :: xs) S

/-! ### operations -/
def lim : Nat := 1000000
/-- the items of a list or tuple -/
def seqOf (S : Store) : PV → Option (List PV)
  | .tup xs => some xs
  | .ls xs => some xs
  | .fz xs => some xs
  | .loc l => match S[l]? with
    | some (.lst xs) => some xs
    | _ => none
  | _ => none
def lstOf (S : Store) : PV → Option (List PV)
  | .ls xs => some xs
  | .loc l => match S[l]? with
    | some (.lst xs) => some xs
    | _ => none
  | _ => none
def oAdd : Op2 := fun x y S => match x, y with
  | .int i, .int j => .ok (.int (i + j)) S
  | .tup a, .tup b => if a.length + b.length ≤ lim then .ok (.tup (a ++ b)) S else .bad
  | x, y => match lstOf S x, lstOf S y with
    | some a, some b => if a.length + b.length ≤ lim then .ok (.ls (a ++ b)) S else .bad
    | _, _ => .bad
def oSub : Op2 := fun x y S => match x, y with
  | .int i, .int j => .ok (.int (i - j)) S
  | _, _ => .bad
def mulOk (i j : Int) : Bool := (decide (-(2 ^ 64) < i) && decide (i < 2 ^ 64)) || (decide (-(2 ^ 64) < j) && decide (j < 2 ^ 64))
def rep (xs : List PV) (n : Nat) : List PV := (List.replicate n xs).flatten
def oMul : Op2 := fun x y S => match x, y with
  | .int i, .int j => if mulOk i j = true then .ok (.int (i * j)) S else .bad
  | .tup a, .int j => if j = 1 then .ok (.tup a) S else if 2 ≤ j ∧ j ≤ 1000 ∧ a.length ≤ 1000 ∧ a ≠ [] then .ok (.tup (rep a j.toNat)) S else .bad
  | x, .int j => match lstOf S x with
    | some a => if 0 ≤ j ∧ j ≤ 1000 ∧ a.length ≤ 1000 then .ok (.ls (rep a j.toNat)) S else .bad
    | none => .bad
  | _, _ => .bad
/-- a list of the store, repeated into a new one of the store; two made into a new one -/
def oMulN : Op2 := fun x y S => match y with
  | .int j => match lstOf S x with
    | some a => if 0 ≤ j ∧ j ≤ 1000 ∧ a.length ≤ 1000 then .ok (.loc S.length) (S ++ [.lst (rep a j.toNat)]) else .bad
    | none => .bad
  | _ => .bad
def oDiv : Op2 := fun x y S => match x, y with
  | .int i, .int j => if 0 < j ∧ j < 1073741824 then .ok (.int (i / j)) S else .bad
  | _, _ => .bad
def oMod : Op2 := fun x y S => match x, y with
  | .int i, .int j => if 0 < j then .ok (.int (i % j)) S else .bad
  | _, _ => .bad
def oPow : Op2 := fun x y S => match x, y with
  | .int i, .int j => if 0 ≤ j ∧ j ≤ 1000 ∧ i.natAbs < 2 ^ 64 then .ok (.int (i ^ j.toNat)) S else .bad
  | _, _ => .bad
def oNeg : Op1 := fun x S => match x with
  | .int i => .ok (.int (-i)) S
  | _ => .bad
def oLt : Op2 := fun x y S => match x, y with
  | .int i, .int j => .ok (.bl (decide (i < j))) S
  | _, _ => .bad
def oLe : Op2 := fun x y S => match x, y with
  | .int i, .int j => .ok (.bl (decide (i ≤ j))) S
  | _, _ => .bad
def oGt : Op2 := fun x y S => match x, y with
  | .int i, .int j => .ok (.bl (decide (j < i))) S
  | _, _ => .bad
def oGe : Op2 := fun x y S => match x, y with
  | .int i, .int j => .ok (.bl (decide (j ≤ i))) S
  | _, _ => .bad
def PV.isNon : PV → Bool
  | .non => true
  | _ => false
def oIsN : Op2 := fun x y S => match y with
  | .non => .ok (.bl x.isNon) S
  | _ => .bad
def oNotN : Op2 := fun x y S => match y with
  | .non => .ok (.bl (!x.isNon)) S
  | _ => .bad

/-! plain data, as == looks at it; lists of the store at any depth -/
def res : Nat → Store → PV → PV
  | 0, _, x => x
  | n + 1, S, .loc l => match S[l]? with
    | some (.lst xs) => .ls (xs.map (res n S))
    | _ => .loc l
  | n + 1, S, .tup xs => .tup (xs.map (res n S))
  | n + 1, S, .ls xs => .ls (xs.map (res n S))
  | n + 1, S, .fz xs => .ls (xs.map (res n S))
  | _ + 1, _, x => x
def plain : Nat → PV → Bool
  | _, .non => true
  | _, .bl _ => true
  | _, .int _ => true
  | _, .str s => PyData.strOk s
  | n + 1, .tup xs => xs.all (plain n)
  | n + 1, .ls xs => xs.all (plain n)
  | _, _ => false
/-! == by its own clauses -/
mutual
def eqv : PV → PV → Bool
  | .non, y => match y with | .non => true | _ => false
  | .bl a, y => match y with | .bl b => a == b | .int j => (if a then 1 else 0) == j | _ => false
  | .int i, y => match y with | .bl b => i == (if b then 1 else 0) | .int j => i == j | _ => false
  | .str a, y => match y with | .str b => decide (a = b) | _ => false
  | .tup a, y => match y with | .tup b => eqvs a b | _ => false
  | .ls a, y => match y with | .ls b => eqvs a b | _ => false
  | _, _ => false
def eqvs : List PV → List PV → Bool
  | [], y => match y with | [] => true | _ :: _ => false
  | a :: r, y => match y with | [] => false | b :: s => eqv a b && eqvs r s
end
mutual
def datOf : PV → PyData
  | .bl b => .bool b
  | .int i => .int i
  | .str s => .str s
  | .tup xs => .tuple (datsOf xs)
  | .ls xs => .list (datsOf xs)
  | _ => .none
def datsOf : List PV → List PyData
  | [] => []
  | x :: r => datOf x :: datsOf r
end
def oEq : Op2 := fun x y S => if plain 20 (res 20 S x) = true ∧ plain 20 (res 20 S y) = true then .ok (.bl (eqv (res 20 S x) (res 20 S y))) S else .bad
def oNe : Op2 := fun x y S => if plain 20 (res 20 S x) = true ∧ plain 20 (res 20 S y) = true then .ok (.bl (!eqv (res 20 S x) (res 20 S y))) S else .bad
def flat : PV → Bool
  | .non => true
  | .bl _ => true
  | .int _ => true
  | .str _ => true
  | _ => false
def inSeq (x : PV) (xs : List PV) : Bool := xs.any fun y => eqv y x
/-- x in a list or tuple of flat things -/
def oIn : Op2 := fun x y S => match seqOf S y with
  | some xs => if flat x = true ∧ xs.all flat = true then .ok (.bl (inSeq x xs)) S else .bad
  | none => .bad
def oNotIn : Op2 := fun x y S => match seqOf S y with
  | some xs => if flat x = true ∧ xs.all flat = true then .ok (.bl (!inSeq x xs)) S else .bad
  | none => .bad
def lookS : List Str → List PV → Str → Option PV
  | k :: ks, v :: vs, x => if k = x then some v else lookS ks vs x
  | _, _, _ => none
def dksOf (S : Store) : PV → Option (List Str × List PV)
  | .dc ks vs => some (ks, vs)
  | .loc l => match S[l]? with
    | some (.dks ks vs) => some (ks, vs)
    | _ => none
  | _ => none
/-- o[i] -/
def oIx : Op2 := fun o i S => match i with
  | .int j => match seqOf S o with
    | some xs => match atI xs j with
      | some x => .ok x S
      | none => .bad
    | none => .bad
  | .str k => match dksOf S o with
    | some (ks, vs) => match lookS ks vs k with
      | some x => .ok x S
      | none => .bad
    | none => .bad
  | _ => .bad
def cut (xs : List PV) (lo hi : Option Int) : List PV := (xs.drop (HT.sIx xs.length 0 lo)).take (HT.sIx xs.length xs.length hi - HT.sIx xs.length 0 lo)
def oCut (o : PV) (lo hi : Option Int) (S : Store) : R PV := match o with
  | .tup xs => .ok (.tup (cut xs lo hi)) S
  | o => match lstOf S o with
    | some xs => .ok (.ls (cut xs lo hi)) S
    | none => .bad
def ePart (a : Option XE) : Env → Store → R (Option Int) := fun env S => match a with
  | none => .ok none S
  | some f => (f env S).bind fun x S => match x with
    | .int i => .ok (some i) S
    | _ => .bad
def eCut (o : XE) (lo hi : Option XE) : XE := fun env S => (o env S).bind fun x S => (ePart lo env S).bind fun i S => (ePart hi env S).bind fun j S => oCut x i j S
def eTup (a : XA) : XE := fun env S => (a env S).bind fun xs S => if xs.length ≤ lim then .ok (.tup xs) S else .bad
/-- a list that nobody changes, a list of the store -/
def eLs (a : XA) : XE := fun env S => (a env S).bind fun xs S => if xs.length ≤ lim then .ok (.ls xs) S else .bad
def eNew (a : XA) : XE := fun env S => (a env S).bind fun xs S => if xs.length ≤ lim then .ok (.loc S.length) (S ++ [.lst xs]) else .bad
/-! ### calls of what is built in -/
abbrev Bf := List PV → Store → R PV
def eBf (f : Bf) (a : XA) : XE := fun env S => (a env S).bind fun xs S => f xs S
def bLen : Bf := fun xs S => match xs with
  | [x] => match seqOf S x with
    | some ys => .ok (.int ys.length) S
    | none => .bad
  | _ => .bad
def bList : Bf := fun xs S => match xs with
  | [x] => match seqOf S x with
    | some ys => .ok (.ls ys) S
    | none => .bad
  | _ => .bad
def bListN : Bf := fun xs S => match xs with
  | [x] => match seqOf S x with
    | some ys => .ok (.loc S.length) (S ++ [.lst ys])
    | none => .bad
  | _ => .bad
def bTuple : Bf := fun xs S => match xs with
  | [x] => match seqOf S x with
    | some ys => .ok (.tup ys) S
    | none => .bad
  | _ => .bad
def bStr : Bf := fun xs S => match xs with
  | [.int i] => if i.natAbs.log2 < 1920 then .ok (.str (toString i : String)) S else .bad
  | _ => .bad
def bInt : Bf := fun xs S => match xs with
  | [.int i] => .ok (.int i) S
  | [.bl k] => .ok (.int (if k = true then 1 else 0)) S
  | _ => .bad
def bMax : Bf := fun xs S => match xs with
  | [.int i, .int j] => .ok (.int (if j > i then j else i)) S
  | _ => .bad
def bMin : Bf := fun xs S => match xs with
  | [.int i, .int j] => .ok (.int (if j < i then j else i)) S
  | _ => .bad
def bools : List PV → Option (List Bool)
  | [] => some []
  | .bl k :: r => (bools r).map (k :: ·)
  | _ => none
def bAll : Bf := fun xs S => match xs with
  | [x] => match (lstOf S x).bind bools with
    | some ks => .ok (.bl (ks.all id)) S
    | none => .bad
  | _ => .bad
def bAny : Bf := fun xs S => match xs with
  | [x] => match (lstOf S x).bind bools with
    | some ks => .ok (.bl (ks.any id)) S
    | none => .bad
  | _ => .bad
/-- isinstance: the kinds -/
inductive Ty where
  | int | bool | str | tuple | list
def isTy (S : Store) (x : PV) : Ty → Option Bool := fun t => match x with
  | .non => some false
  | .bl _ => some (match t with | .int => true | .bool => true | _ => false)
  | .int _ => some (match t with | .int => true | _ => false)
  | .str _ => some (match t with | .str => true | _ => false)
  | .tup _ => some (match t with | .tuple => true | _ => false)
  | .ls _ => some (match t with | .list => true | _ => false)
  | .fz _ => some (match t with | .list => true | _ => false)
  | .loc l => match S[l]? with
    | some (.lst _) => some (match t with | .list => true | _ => false)
    | _ => none
  | _ => none
def eIsa (t : Ty) (a : XE) : XE := fun env S => (a env S).bind fun x S => match isTy S x t with
  | some k => .ok (.bl k) S
  | none => .bad
def eIsa2 (t u : Ty) (a : XE) : XE := fun env S => (a env S).bind fun x S => match isTy S x t, isTy S x u with
  | some k, some j => .ok (.bl (k || j)) S
  | _, _ => .bad
def eGet2 (o k d : XE) : XE := fun env S => (o env S).bind fun ov S => match dksOf S ov with
  | none => .bad
  | some _ => (k env S).bind fun kv S => (d env S).bind fun dv S => match kv, dksOf S ov with
    | .str k, some (ks, vs) => .ok ((lookS ks vs k).getD dv) S
    | _, _ => .bad
/-- .. of a dict of the module's top -/
def eGetS (ks : List Str) (vs : List PV) (k : XE) : XE := fun env S => (k env S).bind fun kv S => match kv with
  | .str k => .ok ((lookS ks vs k).getD .non) S
  | _ => .bad
/-- a dict written out, texts the keys -/
def eDc (ks : List Str) (a : XA) : XE := fun env S => (a env S).bind fun vs S => if ks.length = vs.length ∧ ks.length ≤ 15 ∧ ks.Nodup then .ok (.dc ks vs) S else .bad
def eDks (ks : List Str) (a : XA) : XE := fun env S => (a env S).bind fun vs S => if ks.length = vs.length ∧ ks.length ≤ 15 ∧ ks.Nodup then .ok (.loc S.length) (S ++ [.dks ks vs]) else .bad
def lsOf : PV → Option (List PV)
  | .ls xs => some xs
  | _ => none
/-! ### what is walked -/
inductive It where
  | seq (v : PV) | rng (lo : Int) (n : Nat) | enum (v : PV) | zip (v u : PV) | rev (v : PV) | keys (v : PV)
def pairs (xs ys : List PV) : List PV := (xs.zip ys).map fun p => .tup [p.1, p.2]
def upto (lo : Int) (n : Nat) : List PV := (List.range n).map fun (i : Nat) => PV.int (lo + (i : Int))
/-- the keys of a dict that is walked -/
def keyOf (S : Store) : PV → Option (List PV)
  | .loc l => match S[l]? with
    | some (.fki ks _) => some (ks.map .int)
    | some (.fkn ks _) => some ks
    | _ => none
  | _ => none
def It.items (S : Store) : It → Option (List PV)
  | .seq v => seqOf S v
  | .rng lo n => some (upto lo n)
  | .enum v => (seqOf S v).map fun xs => pairs (upto 0 xs.length) xs
  | .zip v u => match seqOf S v, seqOf S u with
    | some xs, some ys => some (pairs xs ys)
    | _, _ => none
  | .rev v => (lsOf v).map List.reverse
  | .keys v => keyOf S v
abbrev XI := Env → Store → R It
def iSeq (a : XE) : XI := fun env S => (a env S).bind fun x S => .ok (.seq x) S
def iEnum (a : XE) : XI := fun env S => (a env S).bind fun x S => .ok (.enum x) S
def iRev (a : XE) : XI := fun env S => (a env S).bind fun x S => .ok (.rev x) S
def iZip (a b : XE) : XI := fun env S => (a env S).bind fun x S => (b env S).bind fun y S => .ok (.zip x y) S
def iRng (a : XE) : XI := fun env S => (a env S).bind fun x S => match x with
  | .int j => if -(lim : Int) ≤ j ∧ j ≤ lim then .ok (.rng 0 j.toNat) S else .bad
  | _ => .bad
/-! ### targets -/
abbrev XG := PV → Env → Store → R Env
def gNm (i : Nat) : XG := fun x env S => .ok (env.set i (some x)) S
def gTp (gs : List XG) : XG := fun x env S => match seqOf S x with
  | some xs => if xs.length = gs.length then go gs xs env S else .bad
  | none => .bad
where go : List XG → List PV → Env → Store → R Env
  | [], _, env, S => .ok env S
  | g :: gs, x :: xs, env, S => (g x env S).bind fun env S => go gs xs env S
  | _ :: _, [], _, _ => .bad
/-! ### comprehensions -/
def wipeE (env : Env) : List Nat → Env
  | [] => env
  | v :: vs => (wipeE env vs).set v none
def lcGo (it : It) (all : List PV) (g : XG) (t : XB) (e : XE) (env : Env) : List PV → List PV → Store → R (List PV)
  | [], acc, S => if it.items S = some all then .ok acc S else .bad
  | x :: r, acc, S => if it.items S = some all then
      (g x env S).nox.bind fun env' S => (t env' S).nox.bind fun k S =>
        if k = true then (e env' S).nox.bind fun y S => if acc.length < lim then lcGo it all g t e env r (acc ++ [y]) S else .bad
        else lcGo it all g t e env r acc S
    else .bad
def xLc (i : XI) (g : XG) (t : XB) (e : XE) (own : List Nat) : XA := fun env S => (i env S).bind fun it S => match it.items S with
  | some all => lcGo it all g t e (wipeE env own) all [] S
  | none => .bad
def bYes : XB := fun _ S => .ok true S
def eLc (i : XI) (g : XG) (t : XB) (e : XE) (own : List Nat) : XE := fun env S => (xLc i g t e own env S).bind fun xs S => .ok (.ls xs) S
def eLcN (i : XI) (g : XG) (t : XB) (e : XE) (own : List Nat) : XE := fun env S => (xLc i g t e own env S).bind fun xs S => .ok (.loc S.length) (S ++ [.lst xs])
/-! ### statements -/
def sNil : XS := fun env S => .ok (.nx, env) S
def sSeq (a b : XS) : XS := fun env S => (a env S).bind fun p S => match p.1 with
  | .nx => b p.2 S
  | f => .ok (f, p.2) S
def sAsg (e : XE) (g : XG) : XS := fun env S => (e env S).bind fun x S => (g x env S).bind fun env S => .ok (.nx, env) S
/-- a, b = x, y -/
def sPar (i j : Nat) (a : XA) : XS := fun env S => (a env S).bind fun xs S => match xs with
  | [x, y] => .ok (.nx, (env.set i (some x)).set j (some y)) S
  | _ => .bad
def sDrop (e : XE) : XS := fun env S => (e env S).bind fun _ S => .ok (.nx, env) S
def sRet (e : XE) : XS := fun env S => (e env S).bind fun x S => .ok (.rt x, env) S
def sRetN : XS := fun env S => .ok (.rt .non, env) S
def sIf (c : XB) (a b : XS) : XS := fun env S => (c env S).bind fun k S => if k = true then a env S else b env S
def sBad : XS := fun _ _ => .bad
def sCont : XS := fun env S => .ok (.ct, env) S
def forGo (it : It) (all : List PV) (g : XG) (b : XS) : List PV → XS
  | [], env, S => if it.items S = some all then .ok (.nx, env) S else .bad
  | x :: r, env, S => if it.items S = some all then
      (g x env S).bind fun env S => (b env S).bind fun p S => match p.1 with
        | .nx => forGo it all g b r p.2 S
        | .ct => forGo it all g b r p.2 S
        | .bk => .ok (.nx, p.2) S
        | .rt v => .ok (.rt v, p.2) S
    else .bad
def sFor (i : XI) (g : XG) (b : XS) : XS := fun env S => (i env S).bind fun it S => match it.items S with
  | some all => forGo it all g b all env S
  | none => .bad
def whGo (c : XB) (b : XS) : Nat → XS
  | 0, _, _ => .bad
  | n + 1, env, S => (c env S).bind fun k S => if k = true then (b env S).bind fun p S => match p.1 with
        | .nx => whGo c b n p.2 S
        | .ct => whGo c b n p.2 S
        | .bk => .ok (.nx, p.2) S
        | .rt v => .ok (.rt v, p.2) S
      else .ok (.nx, env) S
def sWhile (c : XB) (b : XS) : XS := whGo c b lim
/-! stores to what stands in the store -/
def ixOf (n : Nat) (i : Int) : Option Nat := if 0 ≤ i then (if i < n then some i.toNat else none) else if 0 ≤ i + n then some (i + n).toNat else none
def putS : List Str → List PV → Str → PV → List Str × List PV
  | k :: ks, v :: vs, x, y => if k = x then (k :: ks, y :: vs) else ((k :: (putS ks vs x y).1, v :: (putS ks vs x y).2))
  | _, _, x, y => ([x], [y])
def oSet (o i v : PV) (S : Store) : R Unit := match o, i with
  | .loc l, .int j => match S[l]? with
    | some (.lst xs) => match ixOf xs.length j with
      | some k => .ok () (S.set l (.lst (xs.set k v)))
      | none => .bad
    | _ => .bad
  | .loc l, .str k => match S[l]? with
    | some (.dks ks vs) => if ks.length < lim then .ok () (S.set l (.dks (putS ks vs k v).1 (putS ks vs k v).2)) else .bad
    | _ => .bad
  | _, _ => .bad
def gSb (o i : XE) : XG := fun x env S => (o env S).bind fun ov S => (i env S).bind fun iv S => (oSet ov iv x S).bind fun _ S => .ok env S
/-! methods of lists of the store -/
def mAppend (l : Nat) (y : PV) (S : Store) : R PV := match S[l]? with
  | some (.lst xs) => if xs.length < lim then .ok .non (S.set l (.lst (xs ++ [y]))) else .bad
  | _ => .bad
def mExtend (l : Nat) (y : PV) (S : Store) : R PV := match S[l]?, lstOf S y with
  | some (.lst xs), some ys => if xs.length + ys.length ≤ lim then .ok .non (S.set l (.lst (xs ++ ys))) else .bad
  | _, _ => .bad
def eMeth1 (f : Nat → PV → Store → R PV) (o a : XE) : XE := fun env S => (o env S).bind fun x S => match x with
  | .loc l => match S[l]? with
    | some (.lst _) => (a env S).bind fun y S => f l y S
    | _ => .bad
  | _ => .bad
/-! ### defs -/
abbrev XF := List PV → Store → R PV
mutual
def low (n : Nat) : PV → Bool
  | .tup xs => lows n xs
  | .ls xs => lows n xs
  | .fz xs => lows n xs
  | .dc _ xs => lows n xs
  | .loc l => decide (l < n)
  | _ => true
def lows (n : Nat) : List PV → Bool
  | [] => true
  | x :: r => low n x && lows n r
end
def Cell.low (n : Nat) : Cell → Bool
  | .lst xs => lows n xs
  | .dks _ xs => lows n xs
  | .dkn _ xs => lows n xs
  | .dki _ xs => lows n xs
  | .fki _ xs => lows n xs
  | .fkn _ xs => lows n xs
  | .ins _ fs => lows n (fs.map Prod.snd)
/-- a list that was made here goes out as one that nobody changes -/
def out1 (n : Nat) (S : Store) (v : PV) : Option PV := match v with
  | .loc l => if l < n then some v else match S[l]? with
    | some (.lst xs) => if lows n xs = true then some (.ls xs) else none
    | _ => none
  | v => if low n v = true then some v else none
def leave (n : Nat) (v : PV) (S : Store) : R PV :=
  if S.length = n then .ok v S
  else if (S.take n).all (Cell.low n) = true then match out1 n S v with
    | some w => .ok w (S.take n)
    | none => .bad
  else .bad
/-- a def whose own lists end with it -/
def fnP (np many : Nat) (b : XS) : XF := fun args S => if args.length = np then (b (args.map some ++ List.replicate (many - args.length) none) S).bind fun p S' => match p.1 with
    | .rt v => leave S.length v S'
    | .nx => leave S.length .non S'
    | _ => .bad
  else .bad
/-- a def whose lists stay -/
def fnK (np many : Nat) (b : XS) : XF := fun args S => if args.length = np then (b (args.map some ++ List.replicate (many - args.length) none) S).bind fun p S' => match p.1 with
    | .rt v => .ok v S'
    | .nx => .ok .non S'
    | _ => .bad
  else .bad
def eCall (f : XF) (a : XA) : XE := fun env S => (a env S).bind fun xs S => f xs S
end

/-! Mini1 -/
/-! Mini1: how the plain data lies in the abstract heap. -/
section
open PySem L2

/-- where the store's cells lie, and what is hidden from everybody for a time -/
structure Rho where
  lb : List Addr
  hid : List Addr
/-- what is neither a table of code nor a thing told by its heap alone -/
def Plain (o : HO) : Prop := (∀ ps, o ≠ .tbl ps) ∧ ∀ f, o = .ext f → ∀ c q, HO.ext f ≠ LamX.CodeO c q
/-- a dict whose keys are tuples of any depth: its own object (the keys' tuples stand elsewhere) -/
def DnO (w : World) (a : Addr) (kvs : List (NestedKey × Addr × V)) : HO := .ext fun h => ∃ xs : List (NestedKey × Addr × Value), Paired (fun p q => p.1 = q.1 ∧ p.2.1 = q.2.1 ∧ RelV p.2.2 q.2.2) kvs xs ∧ (a == sysModules) = false ∧
  ∃ o es ep, h.get? a = some o ∧ o.ExactDict ∧ o.data = .dict es ep ∧ es.toList = xs.map (fun x => (⟨x.1.hash w, .ref x.2.1, x.2.2⟩ : DictEntry)) ∧ (xs.map (·.1)).Nodup
theorem DnO.plain {w : World} {a : Addr} {kvs : List (NestedKey × Addr × V)} : Plain (DnO w a kvs) := by
  refine ⟨fun _ z => (by unfold DnO at z; cases z), fun f hf c q z => ?_⟩
  rw [← hf] at z
  unfold DnO LamX.CodeO at z
  have z := HO.ext.inj z
  have z := congrFun z ⟨Array.replicate (c + 1) { cls := .none, data := .fields #[.none, .str q 0] }, {}⟩
  have hg : ∀ b o, Heap.get? ⟨Array.replicate (c + 1) { cls := .none, data := .fields #[.none, .str q 0] }, {}⟩ b = some o → o = { cls := .none, data := .fields #[.none, .str q 0] } := fun b o e => by
    unfold Heap.get? at e
    simp only [Array.getElem?_replicate] at e
    split at e
    · cases e
    · split at e
      · exact (Option.some.inj e).symm
      · cases e
  have hc : Heap.get? ⟨Array.replicate (c + 1) { cls := .none, data := .fields #[.none, .str q 0] }, {}⟩ c = some { cls := .none, data := .fields #[.none, .str q 0] } := by
    unfold Heap.get?
    simp only [Array.getElem?_replicate]
    rw [if_pos (Nat.lt_succ_self c)]
  obtain ⟨_, _, _, o, es, ep, h1, _, h2, _⟩ := z.mpr ⟨_, _, 0, hc, rfl, rfl⟩
  rw [hg _ _ h1] at h2
  cases h2
theorem Plain.lst {vs : List V} : Plain (.lst vs) := ⟨fun _ z => (by cases z), fun _ z => by cases z⟩
theorem Plain.tup {vs : List V} : Plain (.tup vs) := ⟨fun _ z => (by cases z), fun _ z => by cases z⟩
theorem Plain.dK {vs : List (Key × V)} : Plain (.dK vs) := ⟨fun _ z => (by cases z), fun _ z => by cases z⟩
theorem Plain.own {a : Addr} : Plain (.own a) := ⟨fun _ z => (by cases z), fun _ z => by cases z⟩
theorem Plain.ins {C dx : Addr} {gs : List (Str × V)} : Plain (.ins C dx gs) := ⟨fun _ z => (by cases z), fun _ z => by cases z⟩
theorem Plain.xd {gs : List (Str × V)} : Plain (.xd gs) := ⟨fun _ z => (by cases z), fun _ z => by cases z⟩
theorem Plain.frz {o : Obj} {u : HO} : Plain (.frz o u) := ⟨fun _ z => (by cases z), fun _ z => by cases z⟩
/-- the tables stay where something plain is written -/
theorem tabs_upd {T : List (Addr × Str)} {H : Hp} {a : Addr} {o u : HO} (t : LamX.Tabs T H) (h : H a = some o) (n : Plain o) : LamX.Tabs T (upd H a u) := fun p hp => by
  obtain ⟨ps, h1, h2, h3⟩ := t p hp
  have ne : ∀ b v, H b = some v → (∀ o', v = o' → ¬ Plain o') → b ≠ a := fun b v e k z => by
    rw [z, h] at e
    cases e
    exact k _ rfl n
  refine ⟨ps, by rw [upd_ne (ne _ _ h1 fun o' e q => by subst e; exact q.1 ps rfl)]; exact h1, h2, fun pos cv hc => ?_⟩
  obtain ⟨c, e1, e2⟩ := h3 pos cv hc
  exact ⟨c, e1, by rw [upd_ne (ne _ _ e2 fun o' e q => by subst e; exact q.2 _ rfl c p.2 rfl)]; exact e2⟩
theorem tabs_new {T : List (Addr × Str)} {H : Hp} {a : Addr} {u : HO} (t : LamX.Tabs T H) (h : H a = none) : LamX.Tabs T (upd H a u) := t.ext fun b o e => by rw [upd_ne (ne_of_none e h)]; exact e
/-- apart from both -/
def Rho.Out (ρ : Rho) (a : Addr) : Prop := a ∉ ρ.lb ∧ a ∉ ρ.hid
/-- a tuple of the module's own top -/
def SqK (K : PySem.W.Frag) (a : Addr) (xs : List V) : Prop := ∃ (o : Obj) (its : Array Value) (n : Nat), K.lookup a = some o ∧ o.cls = .type "tuple" ∧ o.data = .seq its n ∧ its.size ≤ sizeLine ∧ Vals xs its.toList
/-- a tuple that may be read, not one of the store -/
def TupAt (K : PySem.W.Frag) (ρ : Rho) (H : Hp) (a : Addr) (vs : List V) : Prop := (Rd H a (.tup vs) ∧ ρ.Out a) ∨ SqK K a vs
theorem TupAt.sq {K : PySem.W.Frag} {ρ : Rho} {H : Hp} {a : Addr} {vs : List V} (h : TupAt K ρ H a vs) : SqT K H a vs := by
  rcases h with h | h
  · exact .inl h.1
  · exact .inr h
/-- a list of the module's own top; a list that is only read -/
def SqLK (K : PySem.W.Frag) (a : Addr) (xs : List V) : Prop := ∃ (o : Obj) (its : Array Value) (n : Nat), K.lookup a = some o ∧ o.cls = .type "list" ∧ o.dict = none ∧ o.data = .seq its n ∧ its.size ≤ sizeLine ∧ Vals xs its.toList
def LstAt (K : PySem.W.Frag) (ρ : Rho) (H : Hp) (a : Addr) (vs : List V) : Prop := (Rd H a (.lst vs) ∧ ρ.Out a) ∨ SqLK K a vs
theorem LstAt.sq {K : PySem.W.Frag} {ρ : Rho} {H : Hp} {a : Addr} {vs : List V} (h : LstAt K ρ H a vs) : SqL K H a vs := by
  rcases h with h | h
  · exact .inl h.1
  · exact .inr h
def keysV (ks : List Str) (vs : List V) : List (Key × V) := (ks.zip vs).map fun p => (.inr p.1, p.2)
def keysI (ks : List Int) (vs : List V) : List (Key × V) := (ks.zip vs).map fun p => (.inl p.1, p.2)
mutual
def Rep (K : PySem.W.Frag) (ρ : Rho) (H : Hp) : PV → V → Prop
  | .non, v => v = .non
  | .bl b, v => v = .bl b
  | .int i, v => v = .int i
  | .str s, v => v = .str s
  | .tup xs, v => ∃ a vs, v = .ref a ∧ TupAt K ρ H a vs ∧ Reps K ρ H xs vs
  | .ls xs, v => ∃ a vs, v = .ref a ∧ (H a = some (.lst vs) ∧ ρ.Out a) ∧ Reps K ρ H xs vs
  | .fz xs, v => ∃ a vs, v = .ref a ∧ LstAt K ρ H a vs ∧ Reps K ρ H xs vs
  | .dc ks xs, v => ∃ a vs, v = .ref a ∧ (Rd H a (.dK (keysV ks vs)) ∧ ρ.Out a) ∧ ks.length = xs.length ∧ ks.Nodup ∧ Reps K ρ H xs vs
  | .loc l, v => ∃ a, ρ.lb[l]? = some a ∧ v = .ref a
def Reps (K : PySem.W.Frag) (ρ : Rho) (H : Hp) : List PV → List V → Prop
  | [], vs => vs = []
  | x :: r, vs => ∃ v s, vs = v :: s ∧ Rep K ρ H x v ∧ Reps K ρ H r s
end
/-- free, or a table of code -/
def FrA (H : Hp) (a : Addr) : Prop := ∀ o, H a = some o → ∃ ps, o = .tbl ps
theorem FrA.of {H : Hp} {a : Addr} (h : H a = none) : FrA H a := fun o e => by rw [h] at e; cases e
theorem FrA.no {H : Hp} {a : Addr} {o : HO} (f : FrA H a) (h : H a = some o) (nt : ∀ ps, o ≠ .tbl ps) : False := let ⟨ps, e⟩ := f o h; nt ps e
/-- the heap behind: what stands apart from the store stays; the store may have grown -/
structure Ext (ρ : Rho) (H : Hp) (ρ' : Rho) (H' : Hp) : Prop where
  more : ∃ m, ρ'.lb = ρ.lb ++ m ∧ ∀ a ∈ m, FrA H a
  hid : ρ'.hid = ρ.hid
  keep : ∀ a o, H a = some o → (∀ ps, o ≠ .tbl ps) → a ∉ ρ.lb → H' a = some o
  dom : ∀ a, FrA H' a → FrA H a
  fz : ∀ a od u, H a = some (.frz od u) → H' a = some (.frz od u)
theorem Ext.refl (ρ : Rho) (H : Hp) : Ext ρ H ρ H := ⟨⟨[], by simp⟩, rfl, fun _ _ h _ _ => h, fun _ h => h, fun _ _ _ h => h⟩
theorem Ext.trans {ρ ρ1 ρ2 : Rho} {H H1 H2 : Hp} (a : Ext ρ H ρ1 H1) (b : Ext ρ1 H1 ρ2 H2) : Ext ρ H ρ2 H2 := by
  obtain ⟨m, em, hm⟩ := a.more
  obtain ⟨n, en, hn⟩ := b.more
  refine ⟨⟨m ++ n, by rw [en, em, List.append_assoc], fun x hx => ?_⟩, b.hid.trans a.hid, fun x o h nt hx => ?_, fun x h => a.dom x (b.dom x h), fun x od u h => b.fz x od u (a.fz x od u h)⟩
  · rcases List.mem_append.mp hx with h | h
    · exact hm x h
    · exact a.dom x (hn x h)
  · refine b.keep x o (a.keep x o h nt hx) nt fun z => ?_
    rw [em] at z
    rcases List.mem_append.mp z with z | z
    · exact hx z
    · exact (hm x z).no h nt
theorem Ext.out {ρ ρ' : Rho} {H H' : Hp} (e : Ext ρ H ρ' H') {a : Addr} {o : HO} (h : H a = some o) (nt : ∀ ps, o ≠ .tbl ps) (n : ρ.Out a) : ρ'.Out a := by
  obtain ⟨m, em, hm⟩ := e.more
  refine ⟨fun z => ?_, by rw [e.hid]; exact n.2⟩
  rw [em] at z
  rcases List.mem_append.mp z with z | z
  · exact n.1 z
  · exact (hm a z).no h nt
theorem Ext.new {ρ : Rho} {H : Hp} {p : Addr} {o : HO} (h : H p = none) : Ext ρ H ρ (upd H p o) := by
  refine ⟨⟨[], by simp⟩, rfl, fun a u e _ _ => ?_, fun a e => ?_, fun a od u e => by rw [upd_ne (ne_of_none e h)]; exact e⟩
  · rw [upd_ne (ne_of_none e h)]; exact e
  · by_cases x : a = p
    · rw [x]; exact .of h
    · intro o q; exact e o (by rw [upd_ne x]; exact q)
theorem Rd.ext {ρ ρ' : Rho} {H H' : Hp} (e : Ext ρ H ρ' H') {a : Addr} {u : HO} (h : Rd H a u) (nt : Plain u) (n : a ∉ ρ.lb) : Rd H' a u := by
  rcases h with h | ⟨o, h⟩
  · exact .inl (e.keep a _ h nt.1 n)
  · exact .inr ⟨o, e.keep a _ h Plain.frz.1 n⟩
theorem Rd.someP {H : Hp} {a : Addr} {u : HO} (h : Rd H a u) (nt : Plain u) : ∃ o, H a = some o ∧ ∀ ps, o ≠ .tbl ps := by
  rcases h with h | ⟨o, h⟩
  · exact ⟨_, h, nt.1⟩
  · exact ⟨_, h, Plain.frz.1⟩
theorem Rd.some {H : Hp} {a : Addr} {u : HO} (h : Rd H a u) : ∃ o, H a = some o := by
  rcases h with h | ⟨o, h⟩
  · exact ⟨_, h⟩
  · exact ⟨_, h⟩
section
variable {w : World} {K : PySem.W.Frag} {ρ ρ' : Rho} {H H' : Hp}
mutual
theorem Rep.ext (e : Ext ρ H ρ' H') : ∀ (x : PV) (v : V), Rep K ρ H x v → Rep K ρ' H' x v
  | .non, _, h => by unfold Rep at h ⊢; exact h
  | .bl _, _, h => by unfold Rep at h ⊢; exact h
  | .int _, _, h => by unfold Rep at h ⊢; exact h
  | .str _, _, h => by unfold Rep at h ⊢; exact h
  | .tup xs, v, h => by
    unfold Rep at h ⊢
    obtain ⟨a, vs, rfl, h1, h3⟩ := h
    refine ⟨a, vs, rfl, ?_, Reps.ext e xs vs h3⟩
    rcases h1 with ⟨h1, h2⟩ | h1
    · obtain ⟨o, ho, hn0⟩ := Rd.someP h1 .tup
      exact .inl ⟨Rd.ext e h1 .tup h2.1, e.out ho hn0 h2⟩
    · exact .inr h1
  | .ls xs, v, h => by
    unfold Rep at h ⊢
    obtain ⟨a, vs, rfl, ⟨h1, h2⟩, h3⟩ := h
    exact ⟨a, vs, rfl, ⟨e.keep a _ h1 Plain.lst.1 h2.1, e.out h1 Plain.lst.1 h2⟩, Reps.ext e xs vs h3⟩
  | .fz xs, v, h => by
    unfold Rep at h ⊢
    obtain ⟨a, vs, rfl, h1, h3⟩ := h
    refine ⟨a, vs, rfl, ?_, Reps.ext e xs vs h3⟩
    rcases h1 with ⟨h1, h2⟩ | h1
    · obtain ⟨o, ho, hn0⟩ := Rd.someP h1 .lst
      exact .inl ⟨Rd.ext e h1 .lst h2.1, e.out ho hn0 h2⟩
    · exact .inr h1
  | .dc ks xs, v, h => by
    unfold Rep at h ⊢
    obtain ⟨a, vs, rfl, ⟨h1, h2⟩, hl, hn, h3⟩ := h
    obtain ⟨o, ho, hn0⟩ := Rd.someP h1 .dK
    exact ⟨a, vs, rfl, ⟨Rd.ext e h1 .dK h2.1, e.out ho hn0 h2⟩, hl, hn, Reps.ext e xs vs h3⟩
  | .loc l, v, h => by
    unfold Rep at h ⊢
    obtain ⟨a, h1, rfl⟩ := h
    obtain ⟨m, em, _⟩ := e.more
    exact ⟨a, by rw [em, List.getElem?_append_left (List.getElem?_eq_some_iff.mp h1).1]; exact h1, rfl⟩
theorem Reps.ext (e : Ext ρ H ρ' H') : ∀ (xs : List PV) (vs : List V), Reps K ρ H xs vs → Reps K ρ' H' xs vs
  | [], _, h => by unfold Reps at h ⊢; exact h
  | x :: r, vs, h => by
    unfold Reps at h ⊢
    obtain ⟨v, s, rfl, h1, h2⟩ := h
    exact ⟨v, s, rfl, Rep.ext e x v h1, Reps.ext e r s h2⟩
end
theorem Reps.length : ∀ {xs : List PV} {vs : List V}, Reps K ρ H xs vs → xs.length = vs.length
  | [], _, h => by unfold Reps at h; subst h; rfl
  | x :: r, _, h => by
    unfold Reps at h
    obtain ⟨v, s, rfl, _, h2⟩ := h
    rw [List.length_cons, List.length_cons, Reps.length h2]
theorem Reps.nil : Reps K ρ H [] [] := by unfold Reps; rfl
theorem Reps.cons {x : PV} {v : V} {r : List PV} {s : List V} (h : Rep K ρ H x v) (t : Reps K ρ H r s) : Reps K ρ H (x :: r) (v :: s) := by unfold Reps; exact ⟨v, s, rfl, h, t⟩
theorem Reps.uncons {x : PV} {r : List PV} {vs : List V} (h : Reps K ρ H (x :: r) vs) : ∃ v s, vs = v :: s ∧ Rep K ρ H x v ∧ Reps K ρ H r s := by unfold Reps at h; exact h
theorem Reps.append : ∀ {xs ys : List PV} {vs us : List V}, Reps K ρ H xs vs → Reps K ρ H ys us → Reps K ρ H (xs ++ ys) (vs ++ us)
  | [], _, _, _, h, k => by unfold Reps at h; rw [h]; exact k
  | x :: r, _, _, _, h, k => by
    obtain ⟨v, s, rfl, h1, h2⟩ := h.uncons
    exact .cons h1 (Reps.append h2 k)
theorem Reps.get : ∀ {xs : List PV} {vs : List V} {i : Nat} {x : PV}, Reps K ρ H xs vs → xs[i]? = some x → ∃ v, vs[i]? = some v ∧ Rep K ρ H x v
  | [], _, _, _, _, e => by simp at e
  | y :: r, _, 0, x, h, e => by
    obtain ⟨v, s, rfl, h1, h2⟩ := h.uncons
    simp at e
    subst e
    exact ⟨v, rfl, h1⟩
  | y :: r, _, i + 1, x, h, e => by
    obtain ⟨v, s, rfl, h1, h2⟩ := h.uncons
    obtain ⟨u, e1, e2⟩ := Reps.get (i := i) h2 (by simpa using e)
    exact ⟨u, by simpa using e1, e2⟩
theorem Reps.getV : ∀ {xs : List PV} {vs : List V} {i : Nat} {v : V}, Reps K ρ H xs vs → vs[i]? = some v → ∃ x, xs[i]? = some x ∧ Rep K ρ H x v := fun {xs vs i v} h e => by
  have hi : i < xs.length := by rw [h.length]; exact (List.getElem?_eq_some_iff.mp e).1
  obtain ⟨u, e1, e2⟩ := h.get (List.getElem?_eq_getElem hi)
  rw [e] at e1; cases e1
  exact ⟨_, List.getElem?_eq_getElem hi, e2⟩
theorem Reps.set {x : PV} {v : V} (h : Rep K ρ H x v) : ∀ {xs : List PV} {vs : List V} (i : Nat), Reps K ρ H xs vs → Reps K ρ H (xs.set i x) (vs.set i v)
  | [], _, _, k => by unfold Reps at k; rw [k]; exact .nil
  | y :: r, _, 0, k => by
    obtain ⟨u, s, rfl, h1, h2⟩ := k.uncons
    exact .cons h h2
  | y :: r, _, i + 1, k => by
    obtain ⟨u, s, rfl, h1, h2⟩ := k.uncons
    exact .cons h1 (Reps.set h i h2)
theorem Reps.take : ∀ {xs : List PV} {vs : List V} (n : Nat), Reps K ρ H xs vs → Reps K ρ H (xs.take n) (vs.take n)
  | _, _, 0, _ => by simp only [List.take_zero]; exact .nil
  | [], _, n + 1, k => by unfold Reps at k; rw [k]; exact .nil
  | y :: r, _, n + 1, k => by
    obtain ⟨u, s, rfl, h1, h2⟩ := k.uncons
    exact .cons h1 (Reps.take n h2)
theorem Reps.drop : ∀ {xs : List PV} {vs : List V} (n : Nat), Reps K ρ H xs vs → Reps K ρ H (xs.drop n) (vs.drop n)
  | _, _, 0, k => k
  | [], _, n + 1, k => by unfold Reps at k; rw [k]; exact .nil
  | y :: r, _, n + 1, k => by
    obtain ⟨u, s, rfl, h1, h2⟩ := k.uncons
    exact Reps.drop n h2
theorem Reps.reverse : ∀ {xs : List PV} {vs : List V}, Reps K ρ H xs vs → Reps K ρ H xs.reverse vs.reverse
  | [], _, h => by unfold Reps at h; rw [h]; exact .nil
  | x :: r, _, h => by
    obtain ⟨v, s, rfl, h1, h2⟩ := h.uncons
    rw [List.reverse_cons, List.reverse_cons]
    exact Reps.append (Reps.reverse h2) (.cons h1 .nil)
theorem Reps.rep {xs : List PV} {vs : List V} (h : Reps K ρ H xs vs) : ∀ n, Reps K ρ H (rep xs n) (List.replicate n vs).flatten
  | 0 => .nil
  | n + 1 => by
    show Reps K ρ H (List.replicate (n + 1) xs).flatten (List.replicate (n + 1) vs).flatten
    rw [List.replicate_succ, List.replicate_succ, List.flatten_cons, List.flatten_cons]
    exact h.append (Reps.rep h n)
end

/-! ### the store -/
def Flds (K : PySem.W.Frag) (ρ : Rho) (H : Hp) : List (Str × PV) → List (Str × V) → Prop
  | [], gs => gs = []
  | (f, x) :: r, gs => ∃ v s, gs = (f, v) :: s ∧ Rep K ρ H x v ∧ Flds K ρ H r s
/-- a key's form -/
def keyD : Nat → PV → Bool
  | _, .non => true
  | _, .int _ => true
  | _, .str _ => true
  | n + 1, .tup xs => xs.all (keyD n)
  | _, _ => false
mutual
def nk : PV → NestedKey
  | .int i => .num i
  | .str s => .text s
  | .tup xs => .tup (nks xs)
  | _ => .none
def nks : List PV → List NestedKey
  | [] => []
  | x :: r => nk x :: nks r
end
def DkAt (K : PySem.W.Frag) (ρ : Rho) (H : Hp) : List PV → List PV → List (NestedKey × Addr × V) → Prop
  | [], [], kvs => kvs = []
  | k :: ks, x :: xs, kvs => ∃ b v r, kvs = (nk k, b, v) :: r ∧ keyD 8 k = true ∧ Rep K ρ H k (.ref b) ∧ Rep K ρ H x v ∧ DkAt K ρ H ks xs r
  | _, _, _ => False
theorem DkAt.imp {K : PySem.W.Frag} {ρ ρ' : Rho} {H H' : Hp} : ∀ {ks xs : List PV} {kvs : List (NestedKey × Addr × V)}, (∀ k v, k ∈ ks → keyD 8 k = true → Rep K ρ H k v → Rep K ρ' H' k v) → (∀ x v, x ∈ xs → Rep K ρ H x v → Rep K ρ' H' x v) → DkAt K ρ H ks xs kvs → DkAt K ρ' H' ks xs kvs
  | [], [], _, _, _, h => h
  | k :: ks, x :: xs, _, m, m2, h => by
    obtain ⟨b, v, r, rfl, h1, h2, h3, h4⟩ := h
    exact ⟨b, v, r, rfl, h1, m _ _ List.mem_cons_self h1 h2, m2 _ _ List.mem_cons_self h3, DkAt.imp (fun k v hk => m k v (List.mem_cons_of_mem _ hk)) (fun x v hx => m2 x v (List.mem_cons_of_mem _ hx)) h4⟩
  | [], _ :: _, _, _, _, h => h.elim
  | _ :: _, [], _, _, _, h => h.elim
def CellAt (w : World) (K : PySem.W.Frag) (ρ : Rho) (H : Hp) : Cell → Addr → Prop
  | .lst xs, a => ∃ vs, H a = some (.lst vs) ∧ Reps K ρ H xs vs
  | .dks ks xs, a => ∃ vs, H a = some (.dK (keysV ks vs)) ∧ ks.length = xs.length ∧ ks.Nodup ∧ Reps K ρ H xs vs
  | .dki ks xs, a => ∃ vs, H a = some (.dK (keysI ks vs)) ∧ ks.length = xs.length ∧ ks.Nodup ∧ Reps K ρ H xs vs
  | .dkn ks xs, a => ∃ kvs, H a = some (DnO w a kvs) ∧ DkAt K ρ H ks xs kvs
  | .fki ks xs, a => ∃ od vs, H a = some (.frz od (.dK (keysI ks vs))) ∧ ks.length = xs.length ∧ ks.Nodup ∧ Reps K ρ H xs vs
  | .fkn ks xs, a => ∃ od kvs, H a = some (.frz od (DnO w a kvs)) ∧ DkAt K ρ H ks xs kvs
  | .ins C fs, a => ∃ dx gs, H a = some (.ins C dx gs) ∧ H dx = some (.own a) ∧ ρ.Out dx ∧ Flds K ρ H fs gs
structure Rel (w : World) (K : PySem.W.Frag) (ρ : Rho) (S : Store) (H : Hp) : Prop where
  len : ρ.lb.length = S.length
  nd : ρ.lb.Nodup
  at_ : ∀ (l : Nat) (c : Cell) (a : Addr), S[l]? = some c → ρ.lb[l]? = some a → CellAt w K ρ H c a
  hd : ∀ a ∈ ρ.hid, (∃ o, H a = some o ∧ Plain o) ∧ a ∉ ρ.lb
  tabs : LamX.Tabs (KT K) H
structure EnvR (K : PySem.W.Frag) (ρ : Rho) (H : Hp) (env : Env) (σ : St) : Prop where
  len : env.length = σ.length
  at_ : ∀ (i : Nat) (x : PV), env[i]? = some (some x) → ∃ v, σ[i]? = some (some v) ∧ Rep K ρ H x v
section
variable {w : World} {K : PySem.W.Frag} {ρ ρ' : Rho} {H H' : Hp} {env : Env} {σ : St}
theorem EnvR.ext (e : Ext ρ H ρ' H') (h : EnvR K ρ H env σ) : EnvR K ρ' H' env σ := ⟨h.len, fun i x hx => by
  obtain ⟨v, h1, h2⟩ := h.at_ i x hx
  exact ⟨v, h1, Rep.ext e x v h2⟩⟩
theorem EnvR.set {x : PV} {v : V} (h : EnvR K ρ H env σ) (i : Nat) (r : Rep K ρ H x v) : EnvR K ρ H (env.set i (some x)) (σ.set i (some v)) := ⟨by simp [h.len], fun j y hy => by
  by_cases e : i = j
  · subst e
    by_cases hi : i < env.length
    · rw [List.getElem?_set_self hi] at hy
      cases hy
      exact ⟨v, by rw [List.getElem?_set_self (by rw [← h.len]; exact hi)], r⟩
    · rw [List.getElem?_eq_none (by rw [List.length_set]; omega)] at hy; cases hy
  · rw [List.getElem?_set_ne e] at hy ⊢
    exact h.at_ j y hy⟩
theorem EnvR.wipe (h : EnvR K ρ H env σ) : ∀ own : List Nat, EnvR K ρ H (wipeE env own) (wipe σ own)
  | [] => h
  | i :: r => ⟨by simp [wipeE, L2.wipe, (EnvR.wipe h r).len], fun j y hy => by
    have q := EnvR.wipe h r
    show ∃ v, ((L2.wipe σ r).set i none)[j]? = some (some v) ∧ _
    have hy : ((wipeE env r).set i none)[j]? = some (some y) := hy
    by_cases e : i = j
    · subst e
      by_cases hi : i < (wipeE env r).length
      · rw [List.getElem?_set_self hi] at hy; cases hy
      · rw [List.getElem?_eq_none (by rw [List.length_set]; omega)] at hy; cases hy
    · rw [List.getElem?_set_ne e] at hy ⊢
      exact q.at_ j y hy⟩
end
end

/-! Mini2 -/
/-! Mini2: the small machine's pieces as readings. -/
section
open PySem L2

/-- what is known of a text's own top: the written part, the classes of errors by name -/
structure Gx where
  K : PySem.W.Frag
  xc : Str → Option Value
  w : World
def ExcR (G : Gx) (ρ : Rho) (H : Hp) (e : PExc) (cls : Value) (d : Option Addr) : Prop :=
  G.xc e.cls = some cls ∧ ((e.fs = [] ∧ d = none) ∨ ∃ a gs, d = some a ∧ e.fs ≠ [] ∧ H a = some (.xd gs) ∧ ρ.Out a ∧ Flds G.K ρ H e.fs gs)
/-- what comes of a result: k of what is told, of the store and of the heap; the wish E of an error -/
def Aft (G : Gx) (E : XK) {α : Type} (ρ : Rho) (H : Hp) (r : R α) (k : Rho → Store → Hp → α → Prop) : Prop :=
  match r with
  | .ok a S' => ∀ ρ' H', Ext ρ H ρ' H' → Rel G.w G.K ρ' S' H' → k ρ' S' H' a
  | .exc e S' => ∀ ρ' H' cls d, Ext ρ H ρ' H' → Rel G.w G.K ρ' S' H' → ExcR G ρ' H' e cls d → E cls d H'
  | .bad => False
section
variable {G : Gx} {E : XK} {α β : Type} {ρ ρ1 : Rho} {H H1 : Hp} {S : Store}
theorem Aft.shift {r : R α} {k : Rho → Store → Hp → α → Prop} (h : Aft G E ρ H r k) (e : Ext ρ H ρ1 H1) : Aft G E ρ1 H1 r k := by
  cases r with
  | ok a S' => exact fun ρ' H' e' q => h ρ' H' (e.trans e') q
  | exc x S' => exact fun ρ' H' c d e' q z => h ρ' H' c d (e.trans e') q z
  | bad => exact h
theorem Aft.mono {r : R α} {k k' : Rho → Store → Hp → α → Prop} (h : Aft G E ρ H r k) (m : ∀ ρ' S' H' a, Ext ρ H ρ' H' → Rel G.w G.K ρ' S' H' → k ρ' S' H' a → k' ρ' S' H' a) : Aft G E ρ H r k' := by
  cases r with
  | ok a S' => exact fun ρ' H' e' q => m ρ' S' H' a e' q (h ρ' H' e' q)
  | exc x S' => exact h
  | bad => exact h
/-- one piece behind another -/
theorem Aft.bind {r : R α} {f : α → Store → R β} {k : Rho → Store → Hp → β → Prop} (h : Aft G E ρ H (r.bind f) k) : Aft G E ρ H r (fun ρ1 S1 H1 a => Aft G E ρ1 H1 (f a S1) k) := by
  cases r with
  | ok a S' =>
    intro ρ' H' e q
    exact Aft.shift (r := f a S') h e
  | exc x S' => exact h
  | bad => exact h
/-- .. with what is known behind the first -/
theorem Aft.step {r : R α} {f : α → Store → R β} {k : Rho → Store → Hp → β → Prop} {k' : Rho → Store → Hp → α → Prop} (h : Aft G E ρ H (r.bind f) k)
    (m : ∀ ρ' S' H' a, Ext ρ H ρ' H' → Rel G.w G.K ρ' S' H' → Aft G E ρ' H' (f a S') k → k' ρ' S' H' a) : Aft G E ρ H r k' := (Aft.bind h).mono m
theorem Aft.ok {a : α} {k : Rho → Store → Hp → α → Prop} (h : Aft G E ρ H (.ok a S) k) (q : Rel G.w G.K ρ S H) : k ρ S H a := h ρ H (Ext.refl ρ H) q
end

/-! ### readings -/
def kV (G : Gx) (Q : VK) : Rho → Store → Hp → PV → Prop := fun ρ _ H x => ∀ v, Rep G.K ρ H x v → Q v H
def tI (G : Gx) (E : XK) (m : XE) : TE := fun σ H Q => ∃ ρ S env, Rel G.w G.K ρ S H ∧ EnvR G.K ρ H env σ ∧ Aft G E ρ H (m env S) (kV G Q)
def tIB (G : Gx) (E : XK) (m : XB) : TT := fun σ H Q => ∃ ρ S env, Rel G.w G.K ρ S H ∧ EnvR G.K ρ H env σ ∧ Aft G E ρ H (m env S) (fun _ _ H' b => Q b H')
def tIA (G : Gx) (E : XK) (m : XA) : TA := fun σ H Q => ∃ ρ S env, Rel G.w G.K ρ S H ∧ EnvR G.K ρ H env σ ∧ Aft G E ρ H (m env S) (fun ρ' _ H' xs => ∀ vs, Reps G.K ρ' H' xs vs → Q vs H')
def kS (G : Gx) (D : Ends) : Rho → Store → Hp → Fl × Env → Prop := fun ρ _ H p => match p.1 with
  | .nx => ∀ σ, EnvR G.K ρ H p.2 σ → D.nx σ H
  | .rt x => ∀ v, Rep G.K ρ H x v → D.rt v H
  | .bk => ∀ σ, EnvR G.K ρ H p.2 σ → D.bk σ H
  | .ct => ∀ σ, EnvR G.K ρ H p.2 σ → D.ct σ H
def tIS (G : Gx) (E : XK) (m : XS) : TS := fun D σ H => ∃ ρ S env, Rel G.w G.K ρ S H ∧ EnvR G.K ρ H env σ ∧ Aft G E ρ H (m env S) (kS G D)

/-- a weaker reading -/
theorem _root_.L2.PE.imp {X : Cx} {e : Expr} {t u : TE} (h : PE X e t) (m : ∀ σ H Q, u σ H Q → t σ H Q) : PE X e u := ⟨fun pins s σ H Q I q => h.run pins s σ H Q I (m σ H Q q)⟩
theorem _root_.L2.PT.imp {X : Cx} {e : Expr} {t u : TT} (h : PT X e t) (m : ∀ σ H Q, u σ H Q → t σ H Q) : PT X e u := ⟨fun pins s σ H Q I q => h.run pins s σ H Q I (m σ H Q q)⟩
theorem _root_.L2.PA.imp {X : Cx} {e : List Expr} {t u : TA} (h : PA X e t) (m : ∀ σ H Q, u σ H Q → t σ H Q) : PA X e u := ⟨fun p pins s σ H Q I q => h.run p pins s σ H Q I (m σ H Q q)⟩
theorem _root_.L2.PS.imp {X : Cx} {e : Stmt} {t u : TS} (h : PS X e t) (m : ∀ D σ H, u D σ H → t D σ H) : PS X e u := ⟨fun pins s σ H D I q => h.run pins s σ H D I (m D σ H q)⟩
theorem _root_.L2.PSs.imp {X : Cx} {e : List Stmt} {t u : TS} (h : PSs X e t) (m : ∀ D σ H, u D σ H → t D σ H) : PSs X e u := ⟨fun pins s σ H D I q => h.run pins s σ H D I (m D σ H q)⟩
theorem _root_.L2.PE.or {X : Cx} {e : Expr} {t u : TE} (h : PE X e t) (h' : PE X e u) : PE X e (fun σ H Q => t σ H Q ∨ u σ H Q) := ⟨fun pins s σ H Q I q => q.elim (h.run pins s σ H Q I) (h'.run pins s σ H Q I)⟩

section
variable {G : Gx} {E : XK} {X : Cx} {a b c e : Expr} {ma mb mc : XE} {pos : Pos}
theorem i_var {i : Nat} {x : Str} (hN : X.N[i]? = some x) (hv : Vis X.env.scope x) (hd : (x == ("__debug__" : Str)) = false := by decide) (hcd : (x == ("__classdict__" : Str)) = false := by decide) : PE X (.Name x pos) (tI G E (eVar i)) :=
  (pe_var hN hv hd hcd).imp fun σ H Q h => by
    obtain ⟨ρ, S, env, hR, hE, h⟩ := h
    unfold eVar at h
    split at h
    · rename_i x hx
      obtain ⟨v, h1, h2⟩ := hE.at_ _ _ hx
      exact ⟨v, h1, h.ok hR v h2⟩
    · exact h.elim
/-- what is the same in every heap -/
theorem i_c {v : V} {x : PV} (h : PE X e (tC v)) (r : ∀ ρ H, Rep G.K ρ H x v) : PE X e (tI G E (eC x)) := h.imp fun σ H Q h => by
  obtain ⟨ρ, S, env, hR, hE, h⟩ := h
  exact h.ok hR v (r ρ H)
theorem i_int {i : Int} {j} : PE X (.Constant (.int i) j pos) (tI G E (eC (.int i))) := i_c pe_int fun _ _ => by unfold Rep; rfl
theorem i_bl {k : Bool} {j} : PE X (.Constant (.bool k) j pos) (tI G E (eC (.bl k))) := i_c pe_bl fun _ _ => by unfold Rep; rfl
theorem i_non {j} : PE X (.Constant .none j pos) (tI G E (eC .non)) := i_c pe_non fun _ _ => by unfold Rep; rfl
theorem i_str {x : Str} {j} : PE X (.Constant (.str x) j pos) (tI G E (eC (.str x))) := i_c pe_str fun _ _ => by unfold Rep; rfl
/-- operations by values -/
def Sd2 (G : Gx) (E : XK) (r : R2) (op : Op2) : Prop := ∀ ρ S H x y v u Q, Rel G.w G.K ρ S H → Rep G.K ρ H x v → Rep G.K ρ H y u → Aft G E ρ H (op x y S) (kV G Q) → r v u H Q
def Sd1 (G : Gx) (E : XK) (r : V → Hp → VK → Prop) (op : Op1) : Prop := ∀ ρ S H x v Q, Rel G.w G.K ρ S H → Rep G.K ρ H x v → Aft G E ρ H (op x S) (kV G Q) → r v H Q
/-- two in a row -/
theorem two {σ : St} {H : Hp} {ρ : Rho} {S : Store} {env : Env} {β : Type} {f : PV → PV → Store → R β} {k : Rho → Store → Hp → β → Prop} {Q : V → V → Hp → Prop} (hR : Rel G.w G.K ρ S H) (hE : EnvR G.K ρ H env σ)
    (h : Aft G E ρ H ((ma env S).bind fun x S => (mb env S).bind fun y S => f x y S) k)
    (m : ∀ ρ' S' H' x y v u, Ext ρ H ρ' H' → Rel G.w G.K ρ' S' H' → Rep G.K ρ' H' x v → Rep G.K ρ' H' y u → Aft G E ρ' H' (f x y S') k → Q v u H') :
    tI G E ma σ H fun v H1 => tI G E mb σ H1 fun u H2 => Q v u H2 := by
  refine ⟨ρ, S, env, hR, hE, h.step fun ρ1 S1 H1 x e1 hR1 h1 v rv => ?_⟩
  refine ⟨ρ1, S1, env, hR1, hE.ext e1, h1.step fun ρ2 S2 H2 y e2 hR2 h2 u ru => ?_⟩
  exact m ρ2 S2 H2 x y v u (e1.trans e2) hR2 (Rep.ext e2 x v rv) ru h2
theorem i_op {op : Operator} {r : R2} {o : Op2} (ho : OpR X (binaryOp op) r) (so : Sd2 G E r o) (ha : PE X a (tI G E ma)) (hb : PE X b (tI G E mb)) : PE X (.BinOp a op b pos) (tI G E (eOp o ma mb)) :=
  (pe_op ho ha hb).imp fun σ H Q h => by
    obtain ⟨ρ, S, env, hR, hE, h⟩ := h
    exact two hR hE h fun ρ' S' H' x y v u e' hR' rv ru h' => so ρ' S' H' x y v u Q hR' rv ru h'
theorem i_un {op : UnaryOp} {r : V → Hp → VK → Prop} {o : Op1} (ho : UnR X (unaryOp op) r) (so : Sd1 G E r o) (ha : PE X a (tI G E ma)) : PE X (.UnaryOp op a pos) (tI G E (eUn o ma)) :=
  (pe_un ho ha).imp fun σ H Q h => by
    obtain ⟨ρ, S, env, hR, hE, h⟩ := h
    exact ⟨ρ, S, env, hR, hE, h.step fun ρ1 S1 H1 x e1 hR1 h1 v rv => so ρ1 S1 H1 x v Q hR1 rv h1⟩
theorem i_cmp {op : CmpOp} {r : R2} {o : Op2} (ho : OpR X (compareOp op) r) (so : Sd2 G E r o) (ha : PE X a (tI G E ma)) (hb : PE X b (tI G E mb)) (hm : behindInMarks op b = false) : PE X (.Compare a [op] [b] pos) (tI G E (eOp o ma mb)) :=
  (pe_cmpR ho ha hb hm).imp fun σ H Q h => by
    obtain ⟨ρ, S, env, hR, hE, h⟩ := h
    exact two hR hE h fun ρ' S' H' x y v u e' hR' rv ru h' => so ρ' S' H' x y v u Q hR' rv ru h'
/-- what is known of a value that has a plain form -/
theorem Rep.bl_of {K : PySem.W.Frag} {ρ : Rho} {H : Hp} {k : Bool} {v : V} (h : Rep K ρ H (.bl k) v) : v = .bl k := by unfold Rep at h; exact h
theorem Rep.int_of {K : PySem.W.Frag} {ρ : Rho} {H : Hp} {k : Int} {v : V} (h : Rep K ρ H (.int k) v) : v = .int k := by unfold Rep at h; exact h
theorem Rep.str_of {K : PySem.W.Frag} {ρ : Rho} {H : Hp} {k : Str} {v : V} (h : Rep K ρ H (.str k) v) : v = .str k := by unfold Rep at h; exact h
theorem Rep.non_of {K : PySem.W.Frag} {ρ : Rho} {H : Hp} {v : V} (h : Rep K ρ H .non v) : v = .non := by unfold Rep at h; exact h
theorem Rep.bl {K : PySem.W.Frag} {ρ : Rho} {H : Hp} {k : Bool} : Rep K ρ H (.bl k) (.bl k) := by unfold Rep; rfl
theorem Rep.int {K : PySem.W.Frag} {ρ : Rho} {H : Hp} {k : Int} : Rep K ρ H (.int k) (.int k) := by unfold Rep; rfl
theorem Rep.str {K : PySem.W.Frag} {ρ : Rho} {H : Hp} {k : Str} : Rep K ρ H (.str k) (.str k) := by unfold Rep; rfl
theorem Rep.non {K : PySem.W.Frag} {ρ : Rho} {H : Hp} : Rep K ρ H .non .non := by unfold Rep; rfl
theorem i_one {op} {m : XE} (h : PE X a (tI G E m)) : PE X (.BoolOp op [a] pos) (tI G E m) := pe_one h
variable {rest : List Expr}
theorem i_and (ha : PE X a (tI G E ma)) (hb : PE X (.BoolOp .And (b :: rest) pos) (tI G E mb)) : PE X (.BoolOp .And (a :: b :: rest) pos) (tI G E (eAnd ma mb)) :=
  (pe_and ha hb).imp fun σ H Q h => by
    obtain ⟨ρ, S, env, hR, hE, h⟩ := h
    refine ⟨ρ, S, env, hR, hE, h.step fun ρ1 S1 H1 x e1 hR1 h1 v rv => ?_⟩
    split at h1
    · rw [rv.bl_of]
      exact ⟨true, rfl, by rw [if_pos rfl]; exact ⟨ρ1, S1, env, hR1, hE.ext e1, h1⟩⟩
    · rw [rv.bl_of]
      exact ⟨false, rfl, by rw [if_neg Bool.false_ne_true]; exact h1.ok hR1 _ Rep.bl⟩
    · exact h1.elim
theorem i_or (ha : PE X a (tI G E ma)) (hb : PE X (.BoolOp .Or (b :: rest) pos) (tI G E mb)) : PE X (.BoolOp .Or (a :: b :: rest) pos) (tI G E (eOr ma mb)) :=
  (pe_or ha hb).imp fun σ H Q h => by
    obtain ⟨ρ, S, env, hR, hE, h⟩ := h
    refine ⟨ρ, S, env, hR, hE, h.step fun ρ1 S1 H1 x e1 hR1 h1 v rv => ?_⟩
    split at h1
    · rw [rv.bl_of]
      exact ⟨true, rfl, by rw [if_pos rfl]; exact h1.ok hR1 _ Rep.bl⟩
    · rw [rv.bl_of]
      exact ⟨false, rfl, by rw [if_neg Bool.false_ne_true]; exact ⟨ρ1, S1, env, hR1, hE.ext e1, h1⟩⟩
    · exact h1.elim
theorem i_not (ha : PE X a (tI G E ma)) : PE X (.UnaryOp .Not a pos) (tI G E (eNot ma)) :=
  (pe_not ha).imp fun σ H Q h => by
    obtain ⟨ρ, S, env, hR, hE, h⟩ := h
    refine ⟨ρ, S, env, hR, hE, h.step fun ρ1 S1 H1 x e1 hR1 h1 v rv => ?_⟩
    split at h1
    · rw [rv.bl_of]
      exact ⟨_, rfl, h1.ok hR1 _ Rep.bl⟩
    · exact h1.elim
/-! tests -/
theorem j_val {e : Expr} (h : PE X e (tI G E ma)) (he : ∀ whole, isTrue e X.env whole = (do let v ← whole; standAt e.pos; holding [v] (truthy v)) := by intro _; rfl) : PT X e (tIB G E (bVal ma)) :=
  (pt_val h he).imp fun σ H Q h => by
    obtain ⟨ρ, S, env, hR, hE, h⟩ := h
    refine ⟨ρ, S, env, hR, hE, h.step fun ρ1 S1 H1 x e1 hR1 h1 v rv => ?_⟩
    split at h1
    · rw [rv.bl_of]
      exact ⟨_, rfl, h1.ok hR1⟩
    · exact h1.elim
theorem j_cmp {op : CmpOp} {r : R2} {o : Op2} (ho : OpR X (compareOp op) r) (so : Sd2 G E r o) (ha : PE X a (tI G E ma)) (hb : PE X b (tI G E mb)) (hm : behindInMarks op b = false) : PT X (.Compare a [op] [b] pos) (tIB G E (bVal (eOp o ma mb))) :=
  (pt_cmpR ho ha hb hm).imp fun σ H Q h => by
    obtain ⟨ρ, S, env, hR, hE, h⟩ := h
    have h' : Aft G E ρ H ((ma env S).bind fun x S => (mb env S).bind fun y S => (o x y S).bind fun z S => match z with | .bl k => R.ok k S | _ => .bad) (fun _ _ H' b => Q b H') := by
      have e : ((eOp o ma mb env S).bind fun z S => match z with | .bl k => R.ok k S | _ => .bad) = ((ma env S).bind fun x S => (mb env S).bind fun y S => (o x y S).bind fun z S => match z with | .bl k => R.ok k S | _ => .bad) := by
        unfold eOp
        cases ma env S with
        | ok x S1 =>
          simp only [R.bind_ok]
          cases mb env S1 with
          | ok y S2 => rfl
          | exc _ _ => rfl
          | bad => rfl
        | exc _ _ => rfl
        | bad => rfl
      rw [← e]
      exact h
    refine two hR hE h' fun ρ' S' H' x y v u e' hR' rv ru h2 => so ρ' S' H' x y v u _ hR' rv ru ?_
    refine h2.step fun ρ3 S3 H3 z e3 hR3 h3 w rw' => ?_
    split at h3
    · rw [rw'.bl_of]
      exact ⟨_, rfl, h3.ok hR3⟩
    · exact h3.elim
theorem j_not {t : XB} (h : PT X a (tIB G E t)) : PT X (.UnaryOp .Not a pos) (tIB G E (bNot t)) :=
  (pt_not h).imp fun σ H Q h => by
    obtain ⟨ρ, S, env, hR, hE, h⟩ := h
    exact ⟨ρ, S, env, hR, hE, h.step fun ρ1 S1 H1 x e1 hR1 h1 => h1.ok hR1⟩
theorem _root_.L2.PW.imp {X : Cx} {e : Expr} {t u : TT} (h : PW X e t) (m : ∀ σ H Q, u σ H Q → t σ H Q) : PW X e u := ⟨fun w pins s σ H Q I q => h.run w pins s σ H Q I (m σ H Q q)⟩
theorem j_and1 {t : XB} (h : PT X a (tIB G E t)) : PW X (.BoolOp .And [a] pos) (tIB G E t) := pw_and1 h
theorem j_or1 {t : XB} (h : PT X a (tIB G E t)) : PW X (.BoolOp .Or [a] pos) (tIB G E t) := pw_or1 h
theorem j_and {t u : XB} (ha : PT X a (tIB G E t)) (hb : PW X (.BoolOp .And (b :: rest) pos) (tIB G E u)) : PW X (.BoolOp .And (a :: b :: rest) pos) (tIB G E (bAnd t u)) :=
  PW.imp (pw_and ha hb) fun σ H Q h => by
    obtain ⟨ρ, S, env, hR, hE, h⟩ := h
    refine ⟨ρ, S, env, hR, hE, h.step fun ρ1 S1 H1 k e1 hR1 h1 => ?_⟩
    cases k with
    | true => exact ⟨ρ1, S1, env, hR1, hE.ext e1, h1⟩
    | false => exact h1.ok hR1
theorem j_or {t u : XB} (ha : PT X a (tIB G E t)) (hb : PW X (.BoolOp .Or (b :: rest) pos) (tIB G E u)) : PW X (.BoolOp .Or (a :: b :: rest) pos) (tIB G E (bOr t u)) :=
  PW.imp (pw_or ha hb) fun σ H Q h => by
    obtain ⟨ρ, S, env, hR, hE, h⟩ := h
    refine ⟨ρ, S, env, hR, hE, h.step fun ρ1 S1 H1 k e1 hR1 h1 => ?_⟩
    cases k with
    | true => exact h1.ok hR1
    | false => exact ⟨ρ1, S1, env, hR1, hE.ext e1, h1⟩
theorem i_ifExp {t : XB} (hc : PT X c (tIB G E t)) (ha : PE X a (tI G E ma)) (hb : PE X b (tI G E mb)) : PE X (.IfExp c a b pos) (tI G E (eIf t ma mb)) :=
  (pe_ifExp hc ha hb).imp fun σ H Q h => by
    obtain ⟨ρ, S, env, hR, hE, h⟩ := h
    refine ⟨ρ, S, env, hR, hE, h.step fun ρ1 S1 H1 k e1 hR1 h1 => ?_⟩
    cases k with
    | true => exact ⟨ρ1, S1, env, hR1, hE.ext e1, h1⟩
    | false => exact ⟨ρ1, S1, env, hR1, hE.ext e1, h1⟩
/-! arguments -/
theorem i_nil : PA X [] (tIA G E aNil) := pa_nil.imp fun σ H Q h => by
  obtain ⟨ρ, S, env, hR, hE, h⟩ := h
  exact h.ok hR [] Reps.nil
theorem i_cons {es : List Expr} {m : XE} {r : XA} (h1 : PE X e (tI G E m)) (h2 : PA X es (tIA G E r)) (hs : starEach (e :: es) X.env = (false, eval e X.env) :: starEach es X.env := by rfl) : PA X (e :: es) (tIA G E (aCons m r)) :=
  (pa_cons h1 h2 hs).imp fun σ H Q h => by
    obtain ⟨ρ, S, env, hR, hE, h⟩ := h
    refine ⟨ρ, S, env, hR, hE, h.step fun ρ1 S1 H1 x e1 hR1 h1 v rv => ?_⟩
    refine ⟨ρ1, S1, env, hR1, hE.ext e1, h1.step fun ρ2 S2 H2 xs e2 hR2 h2 vs rvs => ?_⟩
    exact h2.ok hR2 _ (.cons (Rep.ext e2 x v rv) rvs)
end
end

/-! MiniT -/
/-! MiniT: a tuple * 1 is the tuple. -/
section
open PySem PySem.Spec PyProof.Rows L2
set_option maxHeartbeats 4100000 in
theorem tuple_once (l : Addr) (items : Array Value) (n : Nat) (dd : Option Addr) (sl : Array (Option Value)) (u : Tok) :
    Meets (Builtin.«tuple.__mul__» ⟨[.ref l, .int 1 u], []⟩) (fun _ R s => s.heap.get? l = some ⟨.type "tuple", dd, .seq items n, sl⟩ ∧ R (.ok (.ret (.ref l))) s) :=
  .of_wp fun prog w A R st pre => by
    cases st with
    | mk hp g d tk os =>
      have hl := pre.1
      have q := pre.2
      have f1 := AutoSeq1.idx_int
      wp_walk using (wpAny_loadPart' hl)
      exact ⟨_, rfl, q⟩
def rOnce (K : PySem.W.Frag) : R2 := fun x y H Q => ∃ l xs, x = .ref l ∧ y = .int 1 ∧ SqT K H l xs ∧ Q x H
set_option maxHeartbeats 4100000 in
theorem op_once {X : Cx} : OpR X (binaryOp .Mult) (rOnce X.K) := by
  rintro pins s σ H x y _ u Q I rx ry ⟨l, xs, rfl, rfl, hT, q⟩
  cases rx
  obtain ⟨t, rfl⟩ := ry
  obtain ⟨its, r, ⟨ob, ho, hc, n, hd⟩, hs⟩ := I.tuple hT
  obtain ⟨cls, dd, data, sl⟩ := ob
  simp only at hc hd
  subst hc hd
  have m1 := int_rmul_tuple 1 t l its.toArray n dd sl
  have m2 := tuple_once l its.toArray n dd sl t
  refine wpAny_binaryOp_repeat_ref (T := "tuple") (U := "int") (by decide) ⟨_, ho, rfl⟩ (fun s' => typeIs_int s' 1 t) noFill_tuple_mul F.fills_int_mul F.slot_int_rmul repeat_tuple F.slot_int_index.lookup ?_
  refine call_meets F.slot_int_rmul (typeIs_int s 1 t) F.entry_int_rmul (F.args_int_rmul_2 _ _) m1 ⟨ho, rfl, ⟨_, ho, rfl⟩, ?_⟩
  refine call_meets F.slot_tuple_mul ⟨_, ho, rfl⟩ F.entry_tuple_mul (F.args_tuple_mul_2 _ _) m2 ⟨ho, ?_⟩
  exact ⟨.ref l, H, I, rfl, q⟩
end

/-! Mini3 -/
/-! Mini3: operations. -/
section
open PySem L2
section
variable {w : World} {K : PySem.W.Frag} {ρ ρ' : Rho} {H H' : Hp} {S : Store}
theorem CellAt.thereP {c : Cell} {a : Addr} (h : CellAt w K ρ H c a) : ∃ o, H a = some o ∧ Plain o := by
  cases c with
  | lst xs => obtain ⟨vs, h, _⟩ := h; exact ⟨_, h, .lst⟩
  | dks ks xs => obtain ⟨vs, h, _⟩ := h; exact ⟨_, h, .dK⟩
  | dki ks xs => obtain ⟨vs, h, _⟩ := h; exact ⟨_, h, .dK⟩
  | fki ks xs => obtain ⟨_, _, h, _⟩ := h; exact ⟨_, h, .frz⟩
  | dkn ks xs => obtain ⟨kvs, h, _⟩ := h; exact ⟨_, h, DnO.plain⟩
  | fkn ks xs => obtain ⟨_, _, h, _⟩ := h; exact ⟨_, h, .frz⟩
  | ins C fs => obtain ⟨dx, gs, h, _⟩ := h; exact ⟨_, h, .ins⟩
theorem CellAt.there {c : Cell} {a : Addr} (h : CellAt w K ρ H c a) : ∃ o, H a = some o := let ⟨o, h, _⟩ := h.thereP; ⟨o, h⟩
theorem Flds.ext (e : Ext ρ H ρ' H') : ∀ {fs : List (Str × PV)} {gs : List (Str × V)}, Flds K ρ H fs gs → Flds K ρ' H' fs gs
  | [], _, h => h
  | (f, x) :: r, _, h => by
    obtain ⟨v, s, rfl, h1, h2⟩ := h
    exact ⟨v, s, rfl, Rep.ext e x v h1, Flds.ext e h2⟩
theorem CellAt.ext {c : Cell} {a : Addr} (e : Ext ρ H ρ' H') (k : H' a = H a) (h : CellAt w K ρ H c a) : CellAt w K ρ' H' c a := by
  cases c with
  | lst xs => obtain ⟨vs, h1, h2⟩ := h; exact ⟨vs, by rw [k]; exact h1, Reps.ext e _ _ h2⟩
  | dks ks xs => obtain ⟨vs, h1, h2, h3, h4⟩ := h; exact ⟨vs, by rw [k]; exact h1, h2, h3, Reps.ext e _ _ h4⟩
  | dki ks xs => obtain ⟨vs, h1, h2, h3, h4⟩ := h; exact ⟨vs, by rw [k]; exact h1, h2, h3, Reps.ext e _ _ h4⟩
  | fki ks xs => obtain ⟨od, vs, h1, h2, h3, h4⟩ := h; exact ⟨od, vs, by rw [k]; exact h1, h2, h3, Reps.ext e _ _ h4⟩
  | dkn ks xs => obtain ⟨kvs, h1, h2⟩ := h; exact ⟨kvs, by rw [k]; exact h1, h2.imp (fun x v _ _ => Rep.ext e x v) fun x v _ => Rep.ext e x v⟩
  | fkn ks xs => obtain ⟨od, kvs, h1, h2⟩ := h; exact ⟨od, kvs, by rw [k]; exact h1, h2.imp (fun x v _ _ => Rep.ext e x v) fun x v _ => Rep.ext e x v⟩
  | ins C fs => obtain ⟨dx, gs, h1, h2, h3, h4⟩ := h; exact ⟨dx, gs, by rw [k]; exact h1, e.keep _ _ h2 Plain.own.1 h3.1, e.out h2 Plain.own.1 h3, Flds.ext e h4⟩
theorem Rel.out1 (q : Rel w K ρ S H) {p : Addr} (h : H p = none) : p ∉ ρ.lb := fun z => by
  obtain ⟨l, hl, e⟩ := List.mem_iff_getElem.mp z
  have hS : l < S.length := by rw [← q.len]; exact hl
  obtain ⟨o, ho⟩ := (q.at_ l S[l] p (List.getElem?_eq_getElem hS) (by rw [List.getElem?_eq_getElem hl, e])).there
  rw [h] at ho; cases ho
theorem Rel.out (q : Rel w K ρ S H) {p : Addr} (h : H p = none) : ρ.Out p := ⟨q.out1 h, fun z => by
  obtain ⟨⟨o, ho, _⟩, _⟩ := q.hd p z
  rw [h] at ho; cases ho⟩
theorem Rel.cell (q : Rel w K ρ S H) {l : Nat} {a : Addr} (h : ρ.lb[l]? = some a) : ∃ c, S[l]? = some c ∧ CellAt w K ρ H c a := by
  have hl : l < S.length := by rw [← q.len]; exact (List.getElem?_eq_some_iff.mp h).1
  exact ⟨S[l], List.getElem?_eq_getElem hl, q.at_ l _ a (List.getElem?_eq_getElem hl) h⟩
/-- a new thing apart from the store -/
theorem Rel.new {p : Addr} {o : HO} (q : Rel w K ρ S H) (h : H p = none) : Rel w K ρ S (upd H p o) := ⟨q.len, q.nd, fun l c a h1 h2 => by
  have c1 := q.at_ l c a h1 h2
  obtain ⟨u, hu⟩ := c1.there
  exact c1.ext (Ext.new h) (upd_ne (ne_of_none hu h)), fun a ha => by
  obtain ⟨⟨u, hu, pl⟩, n⟩ := q.hd a ha
  exact ⟨⟨u, by rw [upd_ne (ne_of_none hu h)]; exact hu, pl⟩, n⟩, tabs_new q.tabs h⟩
/-- the store with one cell more -/
def Rho.add (ρ : Rho) (p : Addr) : Rho := ⟨ρ.lb ++ [p], ρ.hid⟩
theorem Ext.grow {p : Addr} {o : HO} (h : H p = none) : Ext ρ H (ρ.add p) (upd H p o) :=
  ⟨⟨[p], rfl, fun a ha => by rw [List.mem_singleton.mp ha]; exact .of h⟩, rfl, (Ext.new (ρ := ρ) h).keep, (Ext.new (ρ := ρ) h).dom, (Ext.new (ρ := ρ) h).fz⟩
/-- a new thing of the store -/
theorem Rel.grow {p : Addr} {o : HO} {c : Cell} (q : Rel w K ρ S H) (h : H p = none) (hc : CellAt w K (ρ.add p) (upd H p o) c p) : Rel w K (ρ.add p) (S ++ [c]) (upd H p o) := by
  refine ⟨by simp [Rho.add, q.len], ?_, fun l d a h1 h2 => ?_, fun a ha => ?_, tabs_new q.tabs h⟩
  · show (ρ.lb ++ [p]).Nodup
    rw [List.nodup_append]
    exact ⟨q.nd, by simp, fun a ha b hb e => q.out1 h (by rw [List.mem_singleton.mp hb] at e; exact e ▸ ha)⟩
  · have h2 : (ρ.lb ++ [p])[l]? = some a := h2
    by_cases hl : l < S.length
    · rw [List.getElem?_append_left hl] at h1
      rw [List.getElem?_append_left (by rw [q.len]; exact hl)] at h2
      have c1 := q.at_ l d a h1 h2
      obtain ⟨u, hu⟩ := c1.there
      exact c1.ext (Ext.grow h) (upd_ne (ne_of_none hu h))
    · have e : l = S.length := by
        have := (List.getElem?_eq_some_iff.mp h1).1
        rw [List.length_append] at this
        simp at this
        omega
      subst e
      rw [List.getElem?_append_right (Nat.le_refl _)] at h1
      rw [List.getElem?_append_right (by rw [q.len]; exact Nat.le_refl _)] at h2
      simp [q.len] at h1 h2
      subst h1 h2
      exact hc
  · obtain ⟨⟨u, hu, pl⟩, n⟩ := q.hd a ha
    refine ⟨⟨u, by rw [upd_ne (ne_of_none hu h)]; exact hu, pl⟩, fun z => ?_⟩
    rcases List.mem_append.mp (show a ∈ ρ.lb ++ [p] from z) with z | z
    · exact n z
    · rw [List.mem_singleton.mp z, h] at hu; cases hu
theorem Ext.write {a : Addr} {o u0 : HO} (h : a ∈ ρ.lb) (h0 : H a = some u0) (nf : ∀ od u, u0 ≠ .frz od u := by intro _ _ z; cases z) (po : ∀ ps, o ≠ .tbl ps := by intro _ z; cases z) : Ext ρ H ρ (upd H a o) := by
  refine ⟨⟨[], by simp⟩, rfl, fun b u e _ n => ?_, fun b e => ?_, fun b od u e => by rw [upd_ne (fun z => by rw [z, h0] at e; cases e; exact nf _ _ rfl)]; exact e⟩
  · rw [upd_ne (fun z => n (by rw [z]; exact h))]; exact e
  · by_cases x : b = a
    · rw [x] at e; exact (e.no upd_same po).elim
    · exact fun u z => e u (by rw [upd_ne x]; exact z)
theorem Out.nel {p a : Addr} (hp : p ∈ ρ.lb) (h : ρ.Out a) : a ≠ p := fun e => h.1 (by rw [e]; exact hp)
mutual
/-- what is of the store may change -/
theorem Rep.lw {p : Addr} {o : HO} (hp : p ∈ ρ.lb) : ∀ (x : PV) (v : V), Rep K ρ H x v → Rep K ρ (upd H p o) x v
  | .non, _, h => by unfold Rep at h ⊢; exact h
  | .bl _, _, h => by unfold Rep at h ⊢; exact h
  | .int _, _, h => by unfold Rep at h ⊢; exact h
  | .str _, _, h => by unfold Rep at h ⊢; exact h
  | .tup xs, v, h => by
    unfold Rep at h ⊢
    obtain ⟨a, vs, rfl, h1, h3⟩ := h
    refine ⟨a, vs, rfl, ?_, Reps.lw hp xs vs h3⟩
    rcases h1 with ⟨h1, h2⟩ | h1
    · refine .inl ⟨?_, h2⟩
      unfold Rd
      rw [upd_ne (Out.nel hp h2)]
      exact h1
    · exact .inr h1
  | .ls xs, v, h => by
    unfold Rep at h ⊢
    obtain ⟨a, vs, rfl, ⟨h1, h2⟩, h3⟩ := h
    exact ⟨a, vs, rfl, ⟨by rw [upd_ne (Out.nel hp h2)]; exact h1, h2⟩, Reps.lw hp xs vs h3⟩
  | .fz xs, v, h => by
    unfold Rep at h ⊢
    obtain ⟨a, vs, rfl, h1, h3⟩ := h
    refine ⟨a, vs, rfl, ?_, Reps.lw hp xs vs h3⟩
    rcases h1 with ⟨h1, h2⟩ | h1
    · refine .inl ⟨?_, h2⟩
      unfold Rd
      rw [upd_ne (Out.nel hp h2)]
      exact h1
    · exact .inr h1
  | .dc ks xs, v, h => by
    unfold Rep at h ⊢
    obtain ⟨a, vs, rfl, ⟨h1, h2⟩, hl, hn, h3⟩ := h
    refine ⟨a, vs, rfl, ⟨?_, h2⟩, hl, hn, Reps.lw hp xs vs h3⟩
    unfold Rd
    rw [upd_ne (Out.nel hp h2)]
    exact h1
  | .loc l, v, h => by unfold Rep at h ⊢; exact h
theorem Reps.lw {p : Addr} {o : HO} (hp : p ∈ ρ.lb) : ∀ (xs : List PV) (vs : List V), Reps K ρ H xs vs → Reps K ρ (upd H p o) xs vs
  | [], _, h => by unfold Reps at h ⊢; exact h
  | x :: r, vs, h => by
    unfold Reps at h ⊢
    obtain ⟨v, s, rfl, h1, h2⟩ := h
    exact ⟨v, s, rfl, Rep.lw hp x v h1, Reps.lw hp r s h2⟩
end
theorem Flds.lw {p : Addr} {o : HO} (hp : p ∈ ρ.lb) : ∀ {fs : List (Str × PV)} {gs : List (Str × V)}, Flds K ρ H fs gs → Flds K ρ (upd H p o) fs gs
  | [], _, h => h
  | (f, x) :: r, _, h => by
    obtain ⟨v, s, rfl, h1, h2⟩ := h
    exact ⟨v, s, rfl, Rep.lw hp x v h1, Flds.lw hp h2⟩
theorem CellAt.lw {p a : Addr} {o : HO} {c : Cell} (hp : p ∈ ρ.lb) (na : a ≠ p) (c1 : CellAt w K ρ H c a) : CellAt w K ρ (upd H p o) c a := by
  cases c with
  | lst xs => obtain ⟨vs, h1, h2⟩ := c1; exact ⟨vs, by rw [upd_ne na]; exact h1, Reps.lw hp _ _ h2⟩
  | dks ks xs => obtain ⟨vs, h1, h2, h3, h4⟩ := c1; exact ⟨vs, by rw [upd_ne na]; exact h1, h2, h3, Reps.lw hp _ _ h4⟩
  | dki ks xs => obtain ⟨vs, h1, h2, h3, h4⟩ := c1; exact ⟨vs, by rw [upd_ne na]; exact h1, h2, h3, Reps.lw hp _ _ h4⟩
  | fki ks xs => obtain ⟨od, vs, h1, h2, h3, h4⟩ := c1; exact ⟨od, vs, by rw [upd_ne na]; exact h1, h2, h3, Reps.lw hp _ _ h4⟩
  | dkn ks xs => obtain ⟨kvs, h1, h2⟩ := c1; exact ⟨kvs, by rw [upd_ne na]; exact h1, h2.imp (fun x v _ _ => Rep.lw hp x v) fun x v _ => Rep.lw hp x v⟩
  | fkn ks xs => obtain ⟨od, kvs, h1, h2⟩ := c1; exact ⟨od, kvs, by rw [upd_ne na]; exact h1, h2.imp (fun x v _ _ => Rep.lw hp x v) fun x v _ => Rep.lw hp x v⟩
  | ins C fs => obtain ⟨dx, gs, h1, h2, h3, h4⟩ := c1; exact ⟨dx, gs, by rw [upd_ne na]; exact h1, by rw [upd_ne (Out.nel hp h3)]; exact h2, h3, Flds.lw hp h4⟩
/-- a cell of the store changes -/
theorem Rel.write {l : Nat} {a : Addr} {o : HO} {c : Cell} (q : Rel w K ρ S H) (h : ρ.lb[l]? = some a) (hc : CellAt w K ρ (upd H a o) c a) : Rel w K ρ (S.set l c) (upd H a o) := by
  have ha : a ∈ ρ.lb := List.mem_of_getElem? h
  refine ⟨by simp [q.len], q.nd, fun j d b h1 h2 => ?_, fun b hb => ?_, let ⟨c0, _, at0⟩ := q.cell h; let ⟨_, e0, pl0⟩ := at0.thereP; tabs_upd q.tabs e0 pl0⟩
  · by_cases e : l = j
    · subst e
      rw [h] at h2; cases h2
      have hl : l < S.length := by rw [← q.len]; exact (List.getElem?_eq_some_iff.mp h).1
      rw [List.getElem?_set_self hl] at h1
      cases h1
      exact hc
    · rw [List.getElem?_set_ne e] at h1
      have c1 := q.at_ j d b h1 h2
      refine c1.lw ha fun z => e ?_
      subst z
      obtain ⟨h3, e3⟩ := List.getElem?_eq_some_iff.mp h
      obtain ⟨h4, e4⟩ := List.getElem?_eq_some_iff.mp h2
      exact (List.getElem_inj q.nd).mp (e3.trans e4.symm)
  · obtain ⟨⟨u, hu, pl⟩, n⟩ := q.hd b hb
    exact ⟨⟨u, by rw [upd_ne (fun z => n (by rw [z]; exact ha))]; exact hu, pl⟩, n⟩
/-! hiding -/
def Rho.hide (ρ : Rho) (p : Addr) : Rho := ⟨ρ.lb, p :: ρ.hid⟩
theorem Out.hide {p a : Addr} {o : HO} (h : ρ.Out a) (ha : H a = some o) (hp : H p = none) : (ρ.hide p).Out a := ⟨h.1, fun z => by
  rcases List.mem_cons.mp z with z | z
  · rw [z, hp] at ha; cases ha
  · exact h.2 z⟩
theorem Out.show' {p a : Addr} (h : (ρ.hide p).Out a) : ρ.Out a := ⟨h.1, fun z => h.2 (List.mem_cons_of_mem _ z)⟩
mutual
theorem Rep.hide {p : Addr} {o : HO} (hp : H p = none) : ∀ (x : PV) (v : V), Rep K ρ H x v → Rep K (ρ.hide p) (upd H p o) x v
  | .non, _, h => by unfold Rep at h ⊢; exact h
  | .bl _, _, h => by unfold Rep at h ⊢; exact h
  | .int _, _, h => by unfold Rep at h ⊢; exact h
  | .str _, _, h => by unfold Rep at h ⊢; exact h
  | .tup xs, v, h => by
    unfold Rep at h ⊢
    obtain ⟨a, vs, rfl, h1, h3⟩ := h
    refine ⟨a, vs, rfl, ?_, Reps.hide hp xs vs h3⟩
    rcases h1 with ⟨h1, h2⟩ | h1
    · obtain ⟨u, hu⟩ := Rd.some h1
      exact .inl ⟨Rd.ext (Ext.new (ρ := ρ) hp) h1 .tup h2.1, Out.hide h2 hu hp⟩
    · exact .inr h1
  | .ls xs, v, h => by
    unfold Rep at h ⊢
    obtain ⟨a, vs, rfl, ⟨h1, h2⟩, h3⟩ := h
    exact ⟨a, vs, rfl, ⟨(Ext.new (ρ := ρ) hp).keep a _ h1 Plain.lst.1 h2.1, Out.hide h2 h1 hp⟩, Reps.hide hp xs vs h3⟩
  | .fz xs, v, h => by
    unfold Rep at h ⊢
    obtain ⟨a, vs, rfl, h1, h3⟩ := h
    refine ⟨a, vs, rfl, ?_, Reps.hide hp xs vs h3⟩
    rcases h1 with ⟨h1, h2⟩ | h1
    · obtain ⟨u, hu⟩ := Rd.some h1
      exact .inl ⟨Rd.ext (Ext.new (ρ := ρ) hp) h1 .lst h2.1, Out.hide h2 hu hp⟩
    · exact .inr h1
  | .dc ks xs, v, h => by
    unfold Rep at h ⊢
    obtain ⟨a, vs, rfl, ⟨h1, h2⟩, hl, hn, h3⟩ := h
    obtain ⟨u, hu⟩ := Rd.some h1
    exact ⟨a, vs, rfl, ⟨Rd.ext (Ext.new (ρ := ρ) hp) h1 .dK h2.1, Out.hide h2 hu hp⟩, hl, hn, Reps.hide hp xs vs h3⟩
  | .loc l, v, h => by unfold Rep at h ⊢; exact h
theorem Reps.hide {p : Addr} {o : HO} (hp : H p = none) : ∀ (xs : List PV) (vs : List V), Reps K ρ H xs vs → Reps K (ρ.hide p) (upd H p o) xs vs
  | [], _, h => by unfold Reps at h ⊢; exact h
  | x :: r, vs, h => by
    unfold Reps at h ⊢
    obtain ⟨v, s, rfl, h1, h2⟩ := h
    exact ⟨v, s, rfl, Rep.hide hp x v h1, Reps.hide hp r s h2⟩
end
theorem Out.ne {p a : Addr} (hp : p ∈ ρ.hid) (h : ρ.Out a) : a ≠ p := fun e => h.2 (by rw [e]; exact hp)
mutual
/-- what is hidden may change -/
theorem Rep.hw {p : Addr} {o : HO} (hp : p ∈ ρ.hid) : ∀ (x : PV) (v : V), Rep K ρ H x v → Rep K ρ (upd H p o) x v
  | .non, _, h => by unfold Rep at h ⊢; exact h
  | .bl _, _, h => by unfold Rep at h ⊢; exact h
  | .int _, _, h => by unfold Rep at h ⊢; exact h
  | .str _, _, h => by unfold Rep at h ⊢; exact h
  | .tup xs, v, h => by
    unfold Rep at h ⊢
    obtain ⟨a, vs, rfl, h1, h3⟩ := h
    refine ⟨a, vs, rfl, ?_, Reps.hw hp xs vs h3⟩
    rcases h1 with ⟨h1, h2⟩ | h1
    · refine .inl ⟨?_, h2⟩
      unfold Rd
      rw [upd_ne (Out.ne hp h2)]
      exact h1
    · exact .inr h1
  | .ls xs, v, h => by
    unfold Rep at h ⊢
    obtain ⟨a, vs, rfl, ⟨h1, h2⟩, h3⟩ := h
    exact ⟨a, vs, rfl, ⟨by rw [upd_ne (Out.ne hp h2)]; exact h1, h2⟩, Reps.hw hp xs vs h3⟩
  | .fz xs, v, h => by
    unfold Rep at h ⊢
    obtain ⟨a, vs, rfl, h1, h3⟩ := h
    refine ⟨a, vs, rfl, ?_, Reps.hw hp xs vs h3⟩
    rcases h1 with ⟨h1, h2⟩ | h1
    · refine .inl ⟨?_, h2⟩
      unfold Rd
      rw [upd_ne (Out.ne hp h2)]
      exact h1
    · exact .inr h1
  | .dc ks xs, v, h => by
    unfold Rep at h ⊢
    obtain ⟨a, vs, rfl, ⟨h1, h2⟩, hl, hn, h3⟩ := h
    refine ⟨a, vs, rfl, ⟨?_, h2⟩, hl, hn, Reps.hw hp xs vs h3⟩
    unfold Rd
    rw [upd_ne (Out.ne hp h2)]
    exact h1
  | .loc l, v, h => by unfold Rep at h ⊢; exact h
theorem Reps.hw {p : Addr} {o : HO} (hp : p ∈ ρ.hid) : ∀ (xs : List PV) (vs : List V), Reps K ρ H xs vs → Reps K ρ (upd H p o) xs vs
  | [], _, h => by unfold Reps at h ⊢; exact h
  | x :: r, vs, h => by
    unfold Reps at h ⊢
    obtain ⟨v, s, rfl, h1, h2⟩ := h
    exact ⟨v, s, rfl, Rep.hw hp x v h1, Reps.hw hp r s h2⟩
end
theorem Flds.hide {p : Addr} {o : HO} (hp : H p = none) : ∀ {fs : List (Str × PV)} {gs : List (Str × V)}, Flds K ρ H fs gs → Flds K (ρ.hide p) (upd H p o) fs gs
  | [], _, h => h
  | (f, x) :: r, _, h => by
    obtain ⟨v, s, rfl, h1, h2⟩ := h
    exact ⟨v, s, rfl, Rep.hide hp x v h1, Flds.hide hp h2⟩
theorem Flds.hw {p : Addr} {o : HO} (hp : p ∈ ρ.hid) : ∀ {fs : List (Str × PV)} {gs : List (Str × V)}, Flds K ρ H fs gs → Flds K ρ (upd H p o) fs gs
  | [], _, h => h
  | (f, x) :: r, _, h => by
    obtain ⟨v, s, rfl, h1, h2⟩ := h
    exact ⟨v, s, rfl, Rep.hw hp x v h1, Flds.hw hp h2⟩
theorem Rel.hide {p : Addr} {o : HO} (q : Rel w K ρ S H) (hp : H p = none) (po : Plain o := by constructor <;> (intro _ z; cases z)) : Rel w K (ρ.hide p) S (upd H p o) := by
  refine ⟨q.len, q.nd, fun l c a h1 h2 => ?_, fun a ha => ?_, tabs_new q.tabs hp⟩
  · have c1 := q.at_ l c a h1 h2
    obtain ⟨u, hu⟩ := c1.there
    have na : a ≠ p := ne_of_none hu hp
    cases c with
    | lst xs => obtain ⟨vs, h1, h2⟩ := c1; exact ⟨vs, by rw [upd_ne na]; exact h1, Reps.hide hp _ _ h2⟩
    | dks ks xs => obtain ⟨vs, h1, h2, h3, h4⟩ := c1; exact ⟨vs, by rw [upd_ne na]; exact h1, h2, h3, Reps.hide hp _ _ h4⟩
    | dki ks xs => obtain ⟨vs, h1, h2, h3, h4⟩ := c1; exact ⟨vs, by rw [upd_ne na]; exact h1, h2, h3, Reps.hide hp _ _ h4⟩
    | fki ks xs => obtain ⟨od, vs, h1, h2, h3, h4⟩ := c1; exact ⟨od, vs, by rw [upd_ne na]; exact h1, h2, h3, Reps.hide hp _ _ h4⟩
    | dkn ks xs => obtain ⟨kvs, h1, h2⟩ := c1; exact ⟨kvs, by rw [upd_ne na]; exact h1, h2.imp (fun x v _ _ => Rep.hide hp x v) fun x v _ => Rep.hide hp x v⟩
    | fkn ks xs => obtain ⟨od, kvs, h1, h2⟩ := c1; exact ⟨od, kvs, by rw [upd_ne na]; exact h1, h2.imp (fun x v _ _ => Rep.hide hp x v) fun x v _ => Rep.hide hp x v⟩
    | ins C fs => obtain ⟨dx, gs, h1, h2, h3, h4⟩ := c1; exact ⟨dx, gs, by rw [upd_ne na]; exact h1, by rw [upd_ne (ne_of_none h2 hp)]; exact h2, Out.hide h3 h2 hp, Flds.hide hp h4⟩
  · rcases List.mem_cons.mp (show a ∈ p :: ρ.hid from ha) with z | z
    · rw [z]; exact ⟨⟨_, upd_same, po⟩, q.out1 hp⟩
    · obtain ⟨⟨u, hu, pl⟩, n⟩ := q.hd a z
      exact ⟨⟨u, by rw [upd_ne (ne_of_none hu hp)]; exact hu, pl⟩, n⟩
theorem Rel.hw {p : Addr} {o : HO} (q : Rel w K ρ S H) (hp : p ∈ ρ.hid) (po : Plain o := by constructor <;> (intro _ z; cases z)) : Rel w K ρ S (upd H p o) := by
  refine ⟨q.len, q.nd, fun l c a h1 h2 => ?_, fun a ha => ?_, let ⟨⟨_, e0, pl0⟩, _⟩ := q.hd p hp; tabs_upd q.tabs e0 pl0⟩
  · have c1 := q.at_ l c a h1 h2
    have na : a ≠ p := fun e => (q.hd p hp).2 (by rw [← e]; exact List.mem_of_getElem? h2)
    cases c with
    | lst xs => obtain ⟨vs, h1, h2⟩ := c1; exact ⟨vs, by rw [upd_ne na]; exact h1, Reps.hw hp _ _ h2⟩
    | dks ks xs => obtain ⟨vs, h1, h2, h3, h4⟩ := c1; exact ⟨vs, by rw [upd_ne na]; exact h1, h2, h3, Reps.hw hp _ _ h4⟩
    | dki ks xs => obtain ⟨vs, h1, h2, h3, h4⟩ := c1; exact ⟨vs, by rw [upd_ne na]; exact h1, h2, h3, Reps.hw hp _ _ h4⟩
    | fki ks xs => obtain ⟨od, vs, h1, h2, h3, h4⟩ := c1; exact ⟨od, vs, by rw [upd_ne na]; exact h1, h2, h3, Reps.hw hp _ _ h4⟩
    | dkn ks xs => obtain ⟨kvs, h1, h2⟩ := c1; exact ⟨kvs, by rw [upd_ne na]; exact h1, h2.imp (fun x v _ _ => Rep.hw hp x v) fun x v _ => Rep.hw hp x v⟩
    | fkn ks xs => obtain ⟨od, kvs, h1, h2⟩ := c1; exact ⟨od, kvs, by rw [upd_ne na]; exact h1, h2.imp (fun x v _ _ => Rep.hw hp x v) fun x v _ => Rep.hw hp x v⟩
    | ins C fs => obtain ⟨dx, gs, h1, h2, h3, h4⟩ := c1; exact ⟨dx, gs, by rw [upd_ne na]; exact h1, by rw [upd_ne (Out.ne hp h3)]; exact h2, h3, Flds.hw hp h4⟩
  · obtain ⟨⟨u, hu, pl⟩, n⟩ := q.hd a ha
    refine ⟨?_, n⟩
    by_cases e : a = p
    · rw [e]; exact ⟨_, upd_same, po⟩
    · exact ⟨u, by rw [upd_ne e]; exact hu, pl⟩
mutual
theorem Rep.unhide {p : Addr} : ∀ (x : PV) (v : V), Rep K (ρ.hide p) H x v → Rep K ρ H x v
  | .non, _, h => by unfold Rep at h ⊢; exact h
  | .bl _, _, h => by unfold Rep at h ⊢; exact h
  | .int _, _, h => by unfold Rep at h ⊢; exact h
  | .str _, _, h => by unfold Rep at h ⊢; exact h
  | .tup xs, v, h => by
    unfold Rep at h ⊢
    obtain ⟨a, vs, rfl, h1, h3⟩ := h
    refine ⟨a, vs, rfl, ?_, Reps.unhide xs vs h3⟩
    rcases h1 with ⟨h1, h2⟩ | h1
    · exact .inl ⟨h1, Out.show' h2⟩
    · exact .inr h1
  | .ls xs, v, h => by
    unfold Rep at h ⊢
    obtain ⟨a, vs, rfl, ⟨h1, h2⟩, h3⟩ := h
    exact ⟨a, vs, rfl, ⟨h1, Out.show' h2⟩, Reps.unhide xs vs h3⟩
  | .fz xs, v, h => by
    unfold Rep at h ⊢
    obtain ⟨a, vs, rfl, h1, h3⟩ := h
    refine ⟨a, vs, rfl, ?_, Reps.unhide xs vs h3⟩
    rcases h1 with ⟨h1, h2⟩ | h1
    · exact .inl ⟨h1, Out.show' h2⟩
    · exact .inr h1
  | .dc ks xs, v, h => by
    unfold Rep at h ⊢
    obtain ⟨a, vs, rfl, ⟨h1, h2⟩, hl, hn, h3⟩ := h
    exact ⟨a, vs, rfl, ⟨h1, Out.show' h2⟩, hl, hn, Reps.unhide xs vs h3⟩
  | .loc l, v, h => by unfold Rep at h ⊢; exact h
theorem Reps.unhide {p : Addr} : ∀ (xs : List PV) (vs : List V), Reps K (ρ.hide p) H xs vs → Reps K ρ H xs vs
  | [], _, h => by unfold Reps at h ⊢; exact h
  | x :: r, vs, h => by
    unfold Reps at h ⊢
    obtain ⟨v, s, rfl, h1, h2⟩ := h
    exact ⟨v, s, rfl, Rep.unhide x v h1, Reps.unhide r s h2⟩
end
theorem Flds.unhide {p : Addr} : ∀ {fs : List (Str × PV)} {gs : List (Str × V)}, Flds K (ρ.hide p) H fs gs → Flds K ρ H fs gs
  | [], _, h => h
  | (f, x) :: r, _, h => by
    obtain ⟨v, s, rfl, h1, h2⟩ := h
    exact ⟨v, s, rfl, Rep.unhide x v h1, Flds.unhide h2⟩
theorem Rel.unhide {p : Addr} (q : Rel w K (ρ.hide p) S H) : Rel w K ρ S H := by
  refine ⟨q.len, q.nd, fun l c a h1 h2 => ?_, fun a ha => q.hd a (List.mem_cons_of_mem _ ha), q.tabs⟩
  have c1 := q.at_ l c a h1 h2
  cases c with
  | lst xs => obtain ⟨vs, h1, h2⟩ := c1; exact ⟨vs, h1, Reps.unhide _ _ h2⟩
  | dks ks xs => obtain ⟨vs, h1, h2, h3, h4⟩ := c1; exact ⟨vs, h1, h2, h3, Reps.unhide _ _ h4⟩
  | dki ks xs => obtain ⟨vs, h1, h2, h3, h4⟩ := c1; exact ⟨vs, h1, h2, h3, Reps.unhide _ _ h4⟩
  | fki ks xs => obtain ⟨od, vs, h1, h2, h3, h4⟩ := c1; exact ⟨od, vs, h1, h2, h3, Reps.unhide _ _ h4⟩
  | dkn ks xs => obtain ⟨kvs, h1, h2⟩ := c1; exact ⟨kvs, h1, h2.imp (fun x v _ _ => Rep.unhide x v) fun x v _ => Rep.unhide x v⟩
  | fkn ks xs => obtain ⟨od, kvs, h1, h2⟩ := c1; exact ⟨od, kvs, h1, h2.imp (fun x v _ _ => Rep.unhide x v) fun x v _ => Rep.unhide x v⟩
  | ins C fs => obtain ⟨dx, gs, h1, h2, h3, h4⟩ := c1; exact ⟨dx, gs, h1, h2, Out.show' h3, Flds.unhide h4⟩
theorem lim_line : lim ≤ sizeLine := by rw [sizeLine_eq]; decide
theorem lim_lt {n : Nat} (h : n < lim) : n < sizeLine := Nat.lt_of_lt_of_le h lim_line
theorem lim_le {n : Nat} (h : n ≤ lim) : n ≤ sizeLine := Nat.le_trans h lim_line
/-- the items of a sequence in the heap -/
theorem seq_of (q : Rel w K ρ S H) {x : PV} {v : V} {xs : List PV} (r : Rep K ρ H x v) (h : seqOf S x = some xs) : ∃ a vs, v = .ref a ∧ (SqL K H a vs ∨ SqT K H a vs) ∧ Reps K ρ H xs vs := by
  cases x with
  | tup ys =>
    unfold Rep at r
    obtain ⟨a, vs, rfl, h1, h2⟩ := r
    cases h
    exact ⟨a, vs, rfl, .inr h1.sq, h2⟩
  | ls ys =>
    unfold Rep at r
    obtain ⟨a, vs, rfl, ⟨h1, _⟩, h2⟩ := r
    cases h
    exact ⟨a, vs, rfl, .inl (.of h1), h2⟩
  | fz ys =>
    unfold Rep at r
    obtain ⟨a, vs, rfl, h1, h2⟩ := r
    cases h
    exact ⟨a, vs, rfl, .inl h1.sq, h2⟩
  | loc l =>
    unfold Rep at r
    obtain ⟨a, h1, rfl⟩ := r
    obtain ⟨c, hc, ca⟩ := q.cell h1
    simp only [seqOf, hc] at h
    cases c with
    | lst ys =>
      cases h
      obtain ⟨vs, h1, h2⟩ := ca
      exact ⟨a, vs, rfl, .inl (.of h1), h2⟩
    | _ => cases h
  | _ => cases h
theorem lst_of (q : Rel w K ρ S H) {x : PV} {v : V} {xs : List PV} (r : Rep K ρ H x v) (h : lstOf S x = some xs) : ∃ a vs, v = .ref a ∧ H a = some (.lst vs) ∧ Reps K ρ H xs vs := by
  cases x with
  | ls ys =>
    unfold Rep at r
    obtain ⟨a, vs, rfl, ⟨h1, _⟩, h2⟩ := r
    cases h
    exact ⟨a, vs, rfl, h1, h2⟩
  | loc l =>
    unfold Rep at r
    obtain ⟨a, h1, rfl⟩ := r
    obtain ⟨c, hc, ca⟩ := q.cell h1
    simp only [lstOf, hc] at h
    cases c with
    | lst ys =>
      cases h
      obtain ⟨vs, h1, h2⟩ := ca
      exact ⟨a, vs, rfl, h1, h2⟩
    | _ => cases h
  | _ => cases h
end
section
variable {G : Gx} {E : XK} {ρ : Rho} {H : Hp} {S : Store} {Q : VK}
/-- a new list that nobody changes, a new tuple, a new list of the store -/
theorem put_ls {xs : List PV} {vs : List V} (q : Rel G.w G.K ρ S H) (r : Reps G.K ρ H xs vs) (h : Aft G E ρ H (.ok (.ls xs) S) (kV G Q)) : ∀ p, H p = none → Q (.ref p) (upd H p (.lst vs)) := fun p hp => by
  refine h ρ _ (Ext.new hp) (q.new hp) _ ?_
  unfold Rep
  exact ⟨p, vs, rfl, ⟨upd_same, q.out hp⟩, Reps.ext (Ext.new hp) _ _ r⟩
theorem put_tup {xs : List PV} {vs : List V} (q : Rel G.w G.K ρ S H) (r : Reps G.K ρ H xs vs) (h : Aft G E ρ H (.ok (.tup xs) S) (kV G Q)) : ∀ p, H p = none → Q (.ref p) (upd H p (.tup vs)) := fun p hp => by
  refine h ρ _ (Ext.new hp) (q.new hp) _ ?_
  unfold Rep
  exact ⟨p, vs, rfl, .inl ⟨.inl upd_same, q.out hp⟩, Reps.ext (Ext.new hp) _ _ r⟩
theorem put_new {xs : List PV} {vs : List V} (q : Rel G.w G.K ρ S H) (r : Reps G.K ρ H xs vs) (h : Aft G E ρ H (.ok (.loc S.length) (S ++ [.lst xs])) (kV G Q)) : ∀ p, H p = none → Q (.ref p) (upd H p (.lst vs)) := fun p hp => by
  refine h (ρ.add p) _ (Ext.grow hp) (q.grow hp ⟨vs, upd_same, Reps.ext (Ext.grow hp) _ _ r⟩) _ ?_
  unfold Rep
  exact ⟨p, by rw [← q.len]; show (ρ.lb ++ [p])[ρ.lb.length]? = some p; simp, rfl⟩
/-! ### arithmetic -/
def rAddU (K : PySem.W.Frag) : R2 := fun x y H Q => rI0 (fun i j => .int (i + j)) x y H Q ∨ (rCatA K x y H Q ∨ rCat x y H Q)
theorem op_addU {X : Cx} : OpR X (binaryOp .Add) (rAddU X.K) := OpR.or op_add (OpR.or op_catA op_cat)
theorem sd_add : Sd2 G E (rAddU G.K) oAdd := fun ρ S H x y v u Q q rx ry h => by
  unfold oAdd at h
  split at h
  · rw [rx.int_of, ry.int_of]
    exact .inl ⟨_, _, rfl, rfl, h.ok q _ Rep.int⟩
  · split at h
    · rename_i a b hl
      have rx' := rx
      have ry' := ry
      unfold Rep at rx ry
      obtain ⟨p, vs, rfl, t1, r1⟩ := rx
      obtain ⟨p2, us, rfl, t2, r2⟩ := ry
      refine .inr (.inl ⟨p, p2, vs, us, rfl, rfl, t1.sq, t2.sq, ?_, fun e => ?_, fun _ e => ?_, fun _ _ => ?_⟩)
      · rw [← r1.length, ← r2.length]; exact lim_le hl
      · subst e
        have : a = [] := List.eq_nil_of_length_eq_zero (by rw [r1.length]; rfl)
        subst this
        exact h.ok q _ ry'
      · subst e
        have : b = [] := List.eq_nil_of_length_eq_zero (by rw [r2.length]; rfl)
        subst this
        rw [List.append_nil] at h
        exact h.ok q _ rx'
      · exact put_tup q (r1.append r2) h
    · exact h.elim
  · split at h
    · rename_i a b h1 h2
      split at h
      · rename_i hl
        obtain ⟨p, vs, rfl, t1, r1⟩ := lst_of q rx h1
        obtain ⟨p2, us, rfl, t2, r2⟩ := lst_of q ry h2
        refine .inr (.inr ⟨p, p2, vs, us, rfl, rfl, t1, t2, ?_, put_ls q (r1.append r2) h⟩)
        rw [← r1.length, ← r2.length]; exact lim_le hl
      · exact h.elim
    · exact h.elim
theorem sd_sub : Sd2 G E (rI0 fun i j => .int (i - j)) oSub := fun ρ S H x y v u Q q rx ry h => by
  unfold oSub at h
  split at h
  · rw [rx.int_of, ry.int_of]
    exact ⟨_, _, rfl, rfl, h.ok q _ Rep.int⟩
  · exact h.elim
def rMulU (K : PySem.W.Frag) : R2 := fun x y H Q => rI CMul (fun i j => .int (i * j)) x y H Q ∨ (rOnce K x y H Q ∨ (rRepT K x y H Q ∨ rRep x y H Q))
theorem op_mulU {X : Cx} : OpR X (binaryOp .Mult) (rMulU X.K) := OpR.or op_mul (OpR.or op_once (OpR.or op_repT op_rep))
theorem mulOk_C {i j : Int} (h : mulOk i j = true) : CMul i j := by
  unfold mulOk at h
  simp only [Bool.or_eq_true, Bool.and_eq_true, decide_eq_true_eq] at h
  exact h
theorem sd_mul : Sd2 G E (rMulU G.K) oMul := fun ρ S H x y v u Q q rx ry h => by
  unfold oMul at h
  split at h
  · split at h
    · rename_i hm
      rw [rx.int_of, ry.int_of]
      exact .inl ⟨_, _, rfl, rfl, mulOk_C hm, h.ok q _ Rep.int⟩
    · exact h.elim
  · split at h
    · rename_i a j e
      subst e
      rw [ry.int_of]
      have rx' := rx
      unfold Rep at rx
      obtain ⟨p, vs, rfl, t1, r1⟩ := rx
      exact .inr (.inl ⟨p, vs, rfl, rfl, t1.sq, h.ok q _ rx'⟩)
    · split at h
      · rename_i a j hne hl
        rw [ry.int_of]
        unfold Rep at rx
        obtain ⟨p, vs, rfl, t1, r1⟩ := rx
        refine .inr (.inr (.inl ⟨p, j, vs, rfl, rfl, t1.sq, fun e => ?_, hl.1, hl.2.1, by rw [← r1.length]; exact hl.2.2.1, put_tup q (r1.rep _) h⟩))
        subst e
        exact hl.2.2.2 (List.eq_nil_of_length_eq_zero (by rw [r1.length]; rfl))
      · exact h.elim
  · split at h
    · rename_i j _ _ _ a h1
      split at h
      · rename_i hl
        rw [ry.int_of]
        obtain ⟨p, vs, rfl, t1, r1⟩ := lst_of q rx h1
        refine .inr (.inr (.inr ⟨p, j, vs, rfl, rfl, t1, by omega, by omega, ?_, put_ls q (r1.rep _) h⟩))
        rw [← r1.length]
        have h3 : j.toNat ≤ 1000 := by omega
        exact lim_le (Nat.le_trans (Nat.mul_le_mul hl.2.2 h3) (by decide))
      · exact h.elim
    · exact h.elim
  · exact h.elim
theorem sd_div : Sd2 G E (rI CDiv fun i j => .int (i / j)) oDiv := fun ρ S H x y v u Q q rx ry h => by
  unfold oDiv at h
  split at h
  · split at h
    · rename_i hc
      rw [rx.int_of, ry.int_of]
      exact ⟨_, _, rfl, rfl, hc, h.ok q _ Rep.int⟩
    · exact h.elim
  · exact h.elim
theorem sd_mod : Sd2 G E (rI (fun _ j => 0 < j) fun i j => .int (i % j)) oMod := fun ρ S H x y v u Q q rx ry h => by
  unfold oMod at h
  split at h
  · split at h
    · rename_i hc
      rw [rx.int_of, ry.int_of]
      exact ⟨_, _, rfl, rfl, hc, h.ok q _ Rep.int⟩
    · exact h.elim
  · exact h.elim
theorem sd_pow : Sd2 G E (rI CPow fun i j => .int (i ^ j.toNat)) oPow := fun ρ S H x y v u Q q rx ry h => by
  unfold oPow at h
  split at h
  · split at h
    · rename_i hc
      rw [rx.int_of, ry.int_of]
      exact ⟨_, _, rfl, rfl, ⟨hc.1, Int.le_trans hc.2.1 (by decide), hc.2.2⟩, h.ok q _ Rep.int⟩
    · exact h.elim
  · exact h.elim
theorem sd_neg : Sd1 G E (rU fun i => .int (-i)) oNeg := fun ρ S H x v Q q rx h => by
  unfold oNeg at h
  split at h
  · rw [rx.int_of]
    exact ⟨_, rfl, h.ok q _ Rep.int⟩
  · exact h.elim
theorem sd_lt : Sd2 G E (rI0 fun i j => .bl (decide (i < j))) oLt := fun ρ S H x y v u Q q rx ry h => by
  unfold oLt at h
  split at h
  · rw [rx.int_of, ry.int_of]
    exact ⟨_, _, rfl, rfl, h.ok q _ Rep.bl⟩
  · exact h.elim
theorem sd_le : Sd2 G E (rI0 fun i j => .bl (decide (i ≤ j))) oLe := fun ρ S H x y v u Q q rx ry h => by
  unfold oLe at h
  split at h
  · rw [rx.int_of, ry.int_of]
    exact ⟨_, _, rfl, rfl, h.ok q _ Rep.bl⟩
  · exact h.elim
theorem sd_gt : Sd2 G E (rI0 fun i j => .bl (decide (j < i))) oGt := fun ρ S H x y v u Q q rx ry h => by
  unfold oGt at h
  split at h
  · rw [rx.int_of, ry.int_of]
    exact ⟨_, _, rfl, rfl, h.ok q _ Rep.bl⟩
  · exact h.elim
theorem sd_ge : Sd2 G E (rI0 fun i j => .bl (decide (j ≤ i))) oGe := fun ρ S H x y v u Q q rx ry h => by
  unfold oGe at h
  split at h
  · rw [rx.int_of, ry.int_of]
    exact ⟨_, _, rfl, rfl, h.ok q _ Rep.bl⟩
  · exact h.elim
def rIsNU : R2 := fun x y H Q => y = .non ∧ Q (.bl (decide (x = .non))) H
def rNotNU : R2 := fun x y H Q => y = .non ∧ Q (.bl (!decide (x = .non))) H
theorem op_isNU {X : Cx} : OpR X (compareOp .Is) rIsNU := op_isN
theorem op_notNU {X : Cx} : OpR X (compareOp .IsNot) rNotNU := op_notN
theorem Rep.isNon {K : PySem.W.Frag} {ρ : Rho} {H : Hp} {x : PV} {v : V} (r : Rep K ρ H x v) : decide (v = .non) = x.isNon := by
  cases x with
  | non => rw [r.non_of]; rfl
  | bl k => rw [r.bl_of]; rfl
  | int k => rw [r.int_of]; rfl
  | str k => rw [r.str_of]; rfl
  | tup xs => unfold Rep at r; obtain ⟨a, vs, rfl, _⟩ := r; rfl
  | ls xs => unfold Rep at r; obtain ⟨a, vs, rfl, _⟩ := r; rfl
  | fz xs => unfold Rep at r; obtain ⟨a, vs, rfl, _⟩ := r; rfl
  | dc ks xs => unfold Rep at r; obtain ⟨a, vs, rfl, _⟩ := r; rfl
  | loc l => unfold Rep at r; obtain ⟨a, _, rfl⟩ := r; rfl
theorem sd_isN : Sd2 G E rIsNU oIsN := fun ρ S H x y v u Q q rx ry h => by
  unfold oIsN at h
  split at h
  · refine ⟨ry.non_of, ?_⟩
    rw [rx.isNon]
    exact h.ok q _ Rep.bl
  · exact h.elim
theorem sd_notN : Sd2 G E rNotNU oNotN := fun ρ S H x y v u Q q rx ry h => by
  unfold oNotN at h
  split at h
  · refine ⟨ry.non_of, ?_⟩
    rw [rx.isNon]
    exact h.ok q _ Rep.bl
  · exact h.elim
end
/-! ### == at any depth -/
section
variable {w : World} {K : PySem.W.Frag} {ρ : Rho} {H : Hp}
mutual
theorem dat_dp : ∀ (n : Nat) (x : PV) (v : V), plain n x = true → Rep K ρ H x v → Dp K H v (datOf x)
  | _, .non, v, _, r => by rw [r.non_of]; unfold datOf; exact .non
  | _, .bl b, v, _, r => by rw [r.bl_of]; unfold datOf; exact .bl b
  | _, .int b, v, _, r => by rw [r.int_of]; unfold datOf; exact .int b
  | _, .str b, v, _, r => by rw [r.str_of]; unfold datOf; exact .str b
  | n + 1, .tup xs, v, p, r => by
    unfold Rep at r
    obtain ⟨a, vs, rfl, h1, h2⟩ := r
    unfold datOf
    exact .tup h1.sq (dats_dp n xs vs (by simpa [plain] using p) h2)
  | n + 1, .ls xs, v, p, r => by
    unfold Rep at r
    obtain ⟨a, vs, rfl, ⟨h1, _⟩, h2⟩ := r
    unfold datOf
    exact .lst (.of h1) (dats_dp n xs vs (by simpa [plain] using p) h2)
  | 0, .tup xs, v, p, r => by simp [plain] at p
  | 0, .ls xs, v, p, r => by simp [plain] at p
  | _, .fz xs, v, p, r => by simp [plain] at p
  | _, .dc ks xs, v, p, r => by simp [plain] at p
  | _, .loc l, v, p, r => by simp [plain] at p
theorem dats_dp : ∀ (n : Nat) (xs : List PV) (vs : List V), (∀ x ∈ xs, plain n x = true) → Reps K ρ H xs vs → DpAll K H vs (datsOf xs)
  | _, [], vs, _, r => by unfold Reps at r; rw [r]; unfold datsOf; exact .nil
  | n, x :: xs, vs, p, r => by
    obtain ⟨v, s, rfl, h1, h2⟩ := r.uncons
    unfold datsOf
    exact .cons (dat_dp n x v (p x (by simp)) h1) (dats_dp n xs s (fun y hy => p y (by simp [hy])) h2)
end
end
mutual
theorem dat_eqv : ∀ (n m : Nat) (x y : PV), plain n x = true → plain m y = true → PyData.eqv (datOf x) (datOf y) = eqv x y
  | n, m, .non, y, _, q => by cases y <;> simp_all [datOf, eqv, PyData.eqv, plain]
  | n, m, .bl a, y, _, q => by cases y <;> simp_all [datOf, eqv, PyData.eqv, plain]
  | n, m, .int a, y, _, q => by cases y <;> simp_all [datOf, eqv, PyData.eqv, plain]
  | n, m, .str a, y, _, q => by
    cases y <;> simp_all [datOf, eqv, PyData.eqv, plain]
    exact Bool.beq_eq_decide_eq _ _
  | n + 1, m, .tup a, y, p, q => by
    cases y with
    | tup b =>
      cases m with
      | zero => simp [plain] at q
      | succ m =>
        simp only [datOf, eqv, PyData.eqv]
        exact dats_eqv n m a b (by simpa [plain] using p) (by simpa [plain] using q)
    | _ => simp_all [datOf, eqv, PyData.eqv, plain]
  | n + 1, m, .ls a, y, p, q => by
    cases y with
    | ls b =>
      cases m with
      | zero => simp [plain] at q
      | succ m =>
        simp only [datOf, eqv, PyData.eqv]
        exact dats_eqv n m a b (by simpa [plain] using p) (by simpa [plain] using q)
    | _ => simp_all [datOf, eqv, PyData.eqv, plain]
  | 0, _, .tup a, y, p, _ => by simp [plain] at p
  | 0, _, .ls a, y, p, _ => by simp [plain] at p
  | _, _, .fz a, y, p, _ => by simp [plain] at p
  | _, _, .dc k a, y, p, _ => by simp [plain] at p
  | _, _, .loc a, y, p, _ => by simp [plain] at p
theorem dats_eqv : ∀ (n m : Nat) (xs ys : List PV), (∀ x ∈ xs, plain n x = true) → (∀ y ∈ ys, plain m y = true) → PyData.eqvAll (datsOf xs) (datsOf ys) = eqvs xs ys
  | n, m, [], ys, _, _ => by cases ys <;> simp [datsOf, eqvs, PyData.eqvAll]
  | n, m, x :: xs, ys, p, q => by
    cases ys with
    | nil => simp [datsOf, eqvs, PyData.eqvAll]
    | cons y ys =>
      simp only [datsOf, eqvs, PyData.eqvAll]
      rw [dat_eqv n m x y (p x (by simp)) (q y (by simp)), dats_eqv n m xs ys (fun z hz => p z (by simp [hz])) (fun z hz => q z (by simp [hz]))]
end
mutual
theorem dat_lay : ∀ (n : Nat) (x : PV), plain n x = true → (datOf x).canLay0 = true ∧ (datOf x).depth ≤ n
  | _, .non, _ => by simp [datOf, PyData.canLay0, PyData.depth]
  | _, .bl b, _ => by simp [datOf, PyData.canLay0, PyData.depth]
  | _, .int b, _ => by simp [datOf, PyData.canLay0, PyData.depth]
  | _, .str b, p => by simp [datOf, PyData.canLay0, PyData.depth]; simpa [plain] using p
  | n + 1, .tup xs, p => by
    have h := dats_lay n xs (by simpa [plain] using p)
    simp only [datOf, PyData.canLay0, PyData.depth]
    exact ⟨h.1, by omega⟩
  | n + 1, .ls xs, p => by
    have h := dats_lay n xs (by simpa [plain] using p)
    simp only [datOf, PyData.canLay0, PyData.depth]
    exact ⟨h.1, by omega⟩
  | 0, .tup xs, p => by simp [plain] at p
  | 0, .ls xs, p => by simp [plain] at p
  | _, .fz xs, p => by simp [plain] at p
  | _, .dc ks xs, p => by simp [plain] at p
  | _, .loc l, p => by simp [plain] at p
theorem dats_lay : ∀ (n : Nat) (xs : List PV), (∀ x ∈ xs, plain n x = true) → PyData.canLayAll0 (datsOf xs) = true ∧ PyData.depthAll (datsOf xs) ≤ n
  | n, [], _ => by simp [datsOf, PyData.canLayAll0, PyData.depthAll]
  | n, x :: xs, p => by
    have h1 := dat_lay n x (p x (by simp))
    have h2 := dats_lay n xs (fun y hy => p y (by simp [hy]))
    simp only [datsOf, PyData.canLayAll0, PyData.depthAll]
    exact ⟨by rw [h1.1, h2.1]; rfl, by omega⟩
end
theorem dat_shaped {x : PV} (p : plain 20 x = true) : SeqAt.shaped (datOf x) = true := by
  have h := dat_lay 20 x p
  unfold SeqAt.shaped
  rw [h.1, decide_eq_true (by omega)]
  rfl
section
variable {G : Gx} {E : XK} {ρ : Rho} {H : Hp} {S : Store} {Q : VK}
theorem res_dp (q : Rel G.w G.K ρ S H) : ∀ (n m : Nat) {x : PV} {v : V}, plain m (res n S x) = true → Rep G.K ρ H x v → Dp G.K H v (datOf (res n S x))
  | 0, m, x, v, p, r => by
    unfold res at p ⊢
    exact dat_dp m _ _ p r
  | n + 1, m, x, v, p, r => by
    have all : ∀ (k : Nat) (ys : List PV) (vs : List V), (∀ x ∈ ys.map (res n S), plain k x = true) → Reps G.K ρ H ys vs → DpAll G.K H vs (datsOf (ys.map (res n S))) := by
      intro k ys
      induction ys with
      | nil =>
        intro vs _ r
        unfold Reps at r
        rw [r]
        exact .nil
      | cons y ys ih =>
        intro vs p r
        obtain ⟨v, s, rfl, h1, h2⟩ := r.uncons
        rw [List.map_cons]
        unfold datsOf
        exact .cons (res_dp q n k (p _ (by simp)) h1) (ih s (fun z hz => p z (by rw [List.map_cons]; exact List.mem_cons_of_mem _ hz)) h2)
    cases x with
    | loc l =>
      unfold Rep at r
      obtain ⟨a, h1, rfl⟩ := r
      obtain ⟨c, hc, ca⟩ := q.cell h1
      simp only [res, hc] at p ⊢
      cases c with
      | lst ys =>
        obtain ⟨vs, h1, h2⟩ := ca
        cases m with
        | zero => simp [plain] at p
        | succ m =>
          simp only [datOf]
          exact .lst (.of h1) (all m ys vs (by simpa only [plain, List.all_eq_true] using p) h2)
      | _ => cases m <;> simp [plain] at p
    | tup ys =>
      unfold Rep at r
      obtain ⟨a, vs, rfl, h1, h2⟩ := r
      simp only [res] at p ⊢
      cases m with
      | zero => simp [plain] at p
      | succ m =>
        simp only [datOf]
        exact .tup h1.sq (all m ys vs (by simpa only [plain, List.all_eq_true] using p) h2)
    | ls ys =>
      unfold Rep at r
      obtain ⟨a, vs, rfl, ⟨h1, _⟩, h2⟩ := r
      simp only [res] at p ⊢
      cases m with
      | zero => simp [plain] at p
      | succ m =>
        simp only [datOf]
        exact .lst (.of h1) (all m ys vs (by simpa only [plain, List.all_eq_true] using p) h2)
    | fz ys =>
      unfold Rep at r
      obtain ⟨a, vs, rfl, h1, h2⟩ := r
      simp only [res] at p ⊢
      cases m with
      | zero => simp [plain] at p
      | succ m =>
        simp only [datOf]
        exact .lst h1.sq (all m ys vs (by simpa only [plain, List.all_eq_true] using p) h2)
    | non => simp only [res] at p ⊢; exact dat_dp m _ _ p r
    | bl _ => simp only [res] at p ⊢; exact dat_dp m _ _ p r
    | int _ => simp only [res] at p ⊢; exact dat_dp m _ _ p r
    | str _ => simp only [res] at p ⊢; exact dat_dp m _ _ p r
    | dc _ _ => simp only [res] at p ⊢; exact dat_dp m _ _ p r
theorem sd_eq : Sd2 G E (rEqD G.K) oEq := fun ρ S H x y v u Q q rx ry h => by
  unfold oEq at h
  split at h
  · rename_i p
    refine ⟨datOf (res 20 S x), datOf (res 20 S y), res_dp q 20 20 p.1 rx, res_dp q 20 20 p.2 ry, dat_shaped p.1, dat_shaped p.2, ?_⟩
    rw [dat_eqv 20 20 _ _ p.1 p.2]
    exact h.ok q _ Rep.bl
  · exact h.elim
theorem sd_ne : Sd2 G E (rNeD G.K) oNe := fun ρ S H x y v u Q q rx ry h => by
  unfold oNe at h
  split at h
  · rename_i p
    refine ⟨datOf (res 20 S x), datOf (res 20 S y), res_dp q 20 20 p.1 rx, res_dp q 20 20 p.2 ry, dat_shaped p.1, dat_shaped p.2, ?_⟩
    rw [dat_eqv 20 20 _ _ p.1 p.2]
    exact h.ok q _ Rep.bl
  · exact h.elim
/-! ### in -/
theorem Rep.flatV {K : PySem.W.Frag} {x : PV} {v : V} (r : Rep K ρ H x v) (f : flat x = true) : L2.flatV v = true := by
  cases x with
  | non => rw [r.non_of]; rfl
  | bl k => rw [r.bl_of]; rfl
  | int k => rw [r.int_of]; rfl
  | str k => rw [r.str_of]; rfl
  | _ => cases f
theorem Rep.eqV {K : PySem.W.Frag} {x y : PV} {v u : V} (r : Rep K ρ H x v) (r' : Rep K ρ H y u) (f : flat x = true) (f' : flat y = true) : L2.eqV v u = eqv x y := by
  cases x with
  | non =>
    rw [r.non_of]
    cases y with
    | non => rw [r'.non_of]; rfl
    | bl k => rw [r'.bl_of]; rfl
    | int k => rw [r'.int_of]; rfl
    | str k => rw [r'.str_of]; rfl
    | _ => cases f'
  | bl k =>
    rw [r.bl_of]
    cases y with
    | non => rw [r'.non_of]; rfl
    | bl k => rw [r'.bl_of]; rfl
    | int k => rw [r'.int_of]; rfl
    | str k => rw [r'.str_of]; rfl
    | _ => cases f'
  | int k =>
    rw [r.int_of]
    cases y with
    | non => rw [r'.non_of]; rfl
    | bl k => rw [r'.bl_of]; rfl
    | int k => rw [r'.int_of]; rfl
    | str k => rw [r'.str_of]; rfl
    | _ => cases f'
  | str k =>
    rw [r.str_of]
    cases y with
    | non => rw [r'.non_of]; rfl
    | bl k => rw [r'.bl_of]; rfl
    | int k => rw [r'.int_of]; rfl
    | str j => rw [r'.str_of]; exact Bool.beq_eq_decide_eq _ _
    | _ => cases f'
  | _ => cases f
theorem Reps.flats {K : PySem.W.Frag} : ∀ {xs : List PV} {vs : List V}, Reps K ρ H xs vs → xs.all flat = true → vs.all L2.flatV = true
  | [], _, r, _ => by unfold Reps at r; rw [r]; rfl
  | x :: xs, _, r, f => by
    obtain ⟨v, s, rfl, h1, h2⟩ := r.uncons
    simp only [List.all_cons, Bool.and_eq_true] at f ⊢
    exact ⟨h1.flatV f.1, Reps.flats h2 f.2⟩
theorem Reps.inV {K : PySem.W.Frag} {x : PV} {v : V} (r : Rep K ρ H x v) (f : flat x = true) : ∀ {xs : List PV} {vs : List V}, Reps K ρ H xs vs → xs.all flat = true → L2.inV v vs = inSeq x xs
  | [], _, r', _ => by unfold Reps at r'; rw [r']; rfl
  | y :: xs, _, r', f' => by
    obtain ⟨u, s, rfl, h1, h2⟩ := r'.uncons
    simp only [List.all_cons, Bool.and_eq_true] at f'
    unfold L2.inV inSeq
    rw [List.any_cons, List.any_cons, Rep.eqV h1 r f'.1 f]
    have := Reps.inV r f h2 f'.2
    unfold L2.inV inSeq at this
    rw [this]
theorem sd_in : Sd2 G E (rIn G.K false) oIn := fun ρ S H x y v u Q q rx ry h => by
  unfold oIn at h
  split at h
  · rename_i xs hx
    split at h
    · rename_i f
      obtain ⟨a, vs, rfl, h1, h2⟩ := seq_of q ry hx
      refine ⟨a, vs, rfl, h1, rx.flatV f.1, h2.flats f.2, ?_⟩
      rw [if_neg Bool.false_ne_true, Reps.inV rx f.1 h2 f.2]
      exact h.ok q _ Rep.bl
    · exact h.elim
  · exact h.elim
theorem sd_notIn : Sd2 G E (rIn G.K true) oNotIn := fun ρ S H x y v u Q q rx ry h => by
  unfold oNotIn at h
  split at h
  · rename_i xs hx
    split at h
    · rename_i f
      obtain ⟨a, vs, rfl, h1, h2⟩ := seq_of q ry hx
      refine ⟨a, vs, rfl, h1, rx.flatV f.1, h2.flats f.2, ?_⟩
      rw [if_pos rfl, Reps.inV rx f.1 h2 f.2]
      exact h.ok q _ Rep.bl
    · exact h.elim
  · exact h.elim
end
end

/-! MiniW -/
/-! MiniW: walks over a list or a tuple, whichever it is: seq, enumerate, zip. -/
section
open PySem PySem.Spec L2
open PyProof.Rows
/-- a list (false) or a tuple (true) -/
def SqU (K : PySem.W.Frag) (b : Bool) (H : Hp) (a : Addr) (xs : List V) : Prop := match b with
  | true => SqT K H a xs
  | false => SqL K H a xs
def LowU (b : Bool) (h : Heap) (a : Addr) (its : Array Value) : Prop := match b with
  | true => h.IsTuple a its
  | false => h.IsList a its
def IterU (b : Bool) (h : Heap) (it a : Addr) (i : Nat) : Prop := match b with
  | true => h.IsTupleIter it a i
  | false => h.IsListIter it a i
def objU (b : Bool) (a : Addr) : Obj := match b with
  | true => { cls := .type "tuple_iterator", data := .fields #[.ref a, .int 0 0] }
  | false => { cls := .type "list_iterator", data := .fields #[.ref a, .int 0 0] }
section
variable {w : World} {K : PySem.W.Frag} {X : Cx} {pins : List (Addr × Obj)} {σ : L2.St} {H : Hp} {s : Shared} {a it : Addr} {xs ys : List V} {b : Bool} {i : Nat} {h h' : Heap}
theorem readU (I : Inv X pins σ H s) (q : SqU X.K b H a xs) : ∃ its : List Value, Vals xs its ∧ LowU b s.heap a its.toArray := by
  cases b with
  | true => obtain ⟨its, r, p, _⟩ := I.tuple q; exact ⟨its, r, p⟩
  | false => obtain ⟨its, r, p, _⟩ := I.list q; exact ⟨its, r, p.isList⟩
theorem injU (I : Inv X pins σ H s) (q : SqU X.K b H a xs) (q' : SqU X.K b H a ys) : xs = ys := by
  cases b with
  | true => exact I.tuple_inj q q'
  | false => exact I.list_inj q q'
theorem drawsU {prog : Program} {w : World} {A : Around} (hh : A.handled = none) (hne : a ≠ it) (items : Array Value) :
    Draws prog w A it [it, a] items.size (fun i v => items[i]? = some v) (fun i h => IterU b h it a i ∧ LowU b h a items) := by
  cases b with
  | true => exact Draws.tuple hh it a hne items
  | false => exact Draws.list hh it a hne items
theorem beginsU (items : Array Value) : Begins (.ref a) (objU b a) (fun h => LowU b h a items) := by
  cases b with
  | true => exact begins_tuple a items
  | false => exact begins_list a items
theorem iterU0 (e : h.get? it = some (objU b a)) : IterU b h it a 0 := by
  cases b with
  | true => exact ⟨_, e, rfl, rfl⟩
  | false => exact ⟨_, e, rfl, rfl⟩
theorem iterU_at (st : IterU b h it a i) (k : ∀ o, h.get? it = some o → h'.get? it = some o) : IterU b h' it a i := by
  cases b with
  | true => exact Heap.IsTupleIter.at st k
  | false => exact Heap.IsListIter.at st k
/-- an object that is no cell -/
def NoCell (h : Heap) (b : Addr) : Prop := ∃ o, h.get? b = some o ∧ ∀ v, o.data ≠ .cell v
theorem iterU_obj (st : IterU b h it a i) : NoCell h it := by
  cases b with
  | true =>
    obtain ⟨o, e, c, d⟩ := (show h.IsTupleIter it a i from st)
    refine ⟨o, e, fun v z => ?_⟩
    rw [d] at z
    cases z
  | false =>
    obtain ⟨o, e, c, d⟩ := (show h.IsListIter it a i from st)
    refine ⟨o, e, fun v z => ?_⟩
    rw [d] at z
    cases z
theorem lowU_lt {its : Array Value} (q : LowU b h a its) : a < h.objs.size := by
  cases b with
  | true => obtain ⟨o, e, _⟩ := (show h.IsTuple a its from q); exact Heap.lt_size e
  | false => obtain ⟨o, e, _⟩ := (show h.IsList a its from q); exact Heap.lt_size e
theorem apartU {its : Array Value} (h1 : IterU b h it a i) (p : LowU b h a its) : a ≠ it := by
  rintro rfl
  cases b with
  | true =>
    obtain ⟨o2, e2, c2, _⟩ := (show h.IsTuple a its from p)
    obtain ⟨o3, e3, c3, _⟩ := (show h.IsTupleIter a a i from h1)
    cases e2.symm.trans e3
    exact absurd (c2.symm.trans c3) (by decide)
  | false =>
    obtain ⟨o2, e2, c2, _⟩ := (show h.IsList a its from p)
    obtain ⟨o3, e3, c3, _⟩ := (show h.IsListIter a a i from h1)
    cases e2.symm.trans e3
    exact absurd (c2.symm.trans c3) (by decide)
theorem SqU.or (h : SqL K H a xs ∨ SqT K H a xs) : ∃ b, SqU K b H a xs := by
  rcases h with h | h
  · exact ⟨false, h⟩
  · exact ⟨true, h⟩
end
/-! ### for x in a list or a tuple -/
def ItU (K : PySem.W.Frag) (b : Bool) (a : Addr) : L2.It := match b with
  | true => Itt K a
  | false => Itl K a
theorem _root_.L2.PI.or {X : Cx} {tg e : Expr} {t u : TI} (h : PI X tg e t) (h' : PI X tg e u) : PI X tg e (fun σ H R => t σ H R ∨ u σ H R) := ⟨fun pins s σ H R I q => q.elim (h.run pins s σ H R I) (h'.run pins s σ H R I)⟩
/-! ### iterators that hand out new pairs, told anew at each turn -/
/-- what next does at a turn -/
def PairTurn (X : Cx) (tg : Expr) (e : Addr) (own : List Addr) (stand : Nat → Heap → Prop) (J : L2.It) (H : Hp) (i : Nat) (h : Heap) : Prop :=
  ∃ (fp wr : List Addr) (n : Nat) (Y : Nat → Heap → Value → Heap → Prop) (St : Nat → Heap → Prop), GoesN X.prog X.w X.A tg e fp wr n Y St ∧ i < n ∧ St i h ∧ (∀ b ∈ wr, b ∈ own) ∧
    ∀ v h', Y i h v h' → St (i + 1) h' → stand (i + 1) h' ∧ ∃ (T : Addr) (x y : V) (p q : Value), v = .ref T ∧ h.objs.size ≤ T ∧ RelV x p ∧ RelV y q ∧ h'.IsTuple T #[p, q] ∧ (H T = none → J.yld i H (.ref T) (upd H T (.tup [x, y])))
def PairStop (X : Cx) (tg : Expr) (e : Addr) (own : List Addr) (i : Nat) (h : Heap) : Prop :=
  ∃ (fp wr : List Addr) (n : Nat) (Y : Nat → Heap → Value → Heap → Prop) (St : Nat → Heap → Prop), GoesN X.prog X.w X.A tg e fp wr n Y St ∧ i = n ∧ St i h ∧ ∀ b ∈ wr, b ∈ own
theorem turn_pairs {P : Program} {w : World} {K : PySem.W.Frag} {tg : Expr} {J : L2.It} {own : List Addr} {e : Addr} {stand : Nat → Heap → Prop} (mine : e ∈ own)
    (objs : ∀ i h, stand i h → ∀ b ∈ own, NoCell h b)
    (stays : ∀ i h h', stand i h → (∀ b ∈ own, ∀ o, h.get? b = some o → h'.get? b = some o) → stand i h')
    (again : ∀ (A : Around) (i : Nat) (s : Shared) (Q E : Value → Shared → Prop), stand i s.heap → Q (.ref e) s → wpAny (model P w) A (pyIter (.ref e)) Q E s)
    (goes : ∀ (X : Cx) pins s σ H i, X.prog = P → X.w = w → X.K = K → X.calm = true → Inv X pins σ H s → stand i s.heap → J.go i H → PairTurn X tg e own stand J H i s.heap)
    (stops : ∀ (X : Cx) pins s σ H i, X.prog = P → X.w = w → X.K = K → X.calm = true → Inv X pins σ H s → stand i s.heap → J.stop i H → PairStop X tg e own i s.heap) :
    Turn P w K tg J own e stand := by
  refine ⟨mine, objs, stays, ?_, ?_, again⟩
  · intro X eP ew eK calm i pins s σ H E inv free here go
    obtain ⟨fp, wr, n, Y, St, W, lt, at0, sub, told⟩ := goes X pins s σ H i eP ew eK calm inv here go
    subst eP ew
    refine W.goes i s _ E lt at0 fun v h' tk made at1 kept _ => ?_
    obtain ⟨here', T, x, y, p, q, rfl, isnew, rp, rq, tup, gives⟩ := told v h' made at1
    have none0 : H T = none := inv.hok.fresh isnew
    have kept' : ∀ b o, b ∉ own → s.heap.get? b = some o → h'.get? b = some o := fun b o out found => kept b o (fun z => out (sub b z)) found
    have okT : ObjOk X.prog X.w (upd H T (.tup [x, y])) h' T (.tup [x, y]) := ⟨(by decide : 2 ≤ sizeLine), [p, q], .cons rp (.cons rq .nil), tup⟩
    refine ⟨.ref T, upd H T (.tup [x, y]), inv.turnedNew kept' free isnew okT, rfl, gives none0, here', fun b hb => ?_⟩
    obtain ⟨o, found, _⟩ := objs i _ here b hb
    have apart : b ≠ T := Nat.ne_of_lt (Nat.lt_of_lt_of_le (Heap.lt_size found) isnew)
    rw [upd_ne apart]
    exact (free b hb).1
  · intro X eP ew eK calm i pins s σ H E inv free here stop
    obtain ⟨fp, wr, n, Y, St, W, at_end, at0, sub⟩ := stops X pins s σ H i eP ew eK calm inv here stop
    subst eP ew at_end
    exact W.stops s _ E at0 fun h' tk kept _ => inv.turnedL (fun b o out found => kept b o (fun z => out (sub b z)) found) free
/-! ### enumerate -/
def IteU (K : PySem.W.Frag) (b : Bool) (a : Addr) : L2.It :=
  ⟨fun i H => ∃ (xs : List V) (x : V), SqU K b H a xs ∧ xs[i]? = some x, fun i H v H' => ∃ T x, v = .ref T ∧ H T = none ∧ H' = upd H T (.tup [.int (i : Nat), x]) ∧ ∀ xs, SqU K b H a xs → xs[i]? = some x, fun i H => ∃ xs : List V, SqU K b H a xs ∧ xs.length = i⟩
/-- where an enumerate stands -/
def EnumAt (b : Bool) (e it a : Addr) (i : Nat) (h : Heap) : Prop := (∃ old, IsEnum h e it (0 + (i : Int)) old) ∧ IterU b h it a i
theorem got {xs : List V} {its : List Value} (rv : Vals xs its) {i : Nat} {u : Value} (hu : its.toArray[i]? = some u) {x : V} (hx : xs[i]? = some x) : RelV x u := by
  obtain ⟨u', e', r⟩ := rv.get hx
  have e2 : its[i]? = some u := by rw [← List.getElem?_toArray]; exact hu
  cases e'.symm.trans e2
  exact r
theorem turn_enumU {P : Program} {w : World} {K : PySem.W.Frag} {elts : List Expr} {kk : Nat} {tpos : Pos} {b : Bool} (a e it : Addr) (hea : e ≠ a) (hei : e ≠ it) :
    Turn P w K (.Tuple elts kk tpos) (IteU K b a) [e, it] e (EnumAt b e it a) := by
  have apart : e ∉ [it, a] := by
    intro z
    rcases List.mem_cons.mp z with z | z
    · exact hei z
    · exact hea (List.mem_singleton.mp z)
  refine turn_pairs (by simp) ?_ ?_ ?_ ?_ ?_
  · rintro i h ⟨⟨old, he⟩, hi⟩ d hd
    rcases List.mem_cons.mp hd with rfl | hd
    · exact ⟨_, he, fun v => nofun⟩
    · rw [List.mem_singleton.mp hd]
      exact iterU_obj hi
  · rintro i h h' ⟨⟨old, he⟩, hi⟩ k
    exact ⟨⟨old, k e (by simp) _ he⟩, iterU_at hi (k it (by simp))⟩
  · rintro A i s Q E ⟨⟨old, he⟩, _⟩ q
    exact wpAny_pyIter_enum he q
  · rintro X pins s σ H i rfl rfl rfl calm inv ⟨⟨old, he⟩, hi⟩ ⟨xs, x, hq, hx⟩
    obtain ⟨its, rv, low⟩ := readU inv hq
    have D := drawsU (prog := X.prog) (w := X.w) (A := X.A.in1) (b := b) (inv.ok.hd calm) (apartU hi low) its.toArray
    have lt : i < its.toArray.size := by
      rw [List.size_toArray, ← rv.length]
      exact (List.getElem?_eq_some_iff.mp hx).1
    refine ⟨_, _, _, _, _, GoesN.enumFrom 0 D e hei apart (by simp), lt, ⟨⟨old, he⟩, hi, low⟩, by simp, ?_⟩
    rintro v h' ⟨T, t, u, rfl, isnew, hu, tup⟩ ⟨he', hi', _⟩
    refine ⟨⟨he', hi'⟩, T, .int (i : Nat), x, _, u, rfl, isnew, ⟨t, ?_⟩, got rv hu hx, tup, fun none0 => ⟨T, x, rfl, none0, rfl, fun ys hy => ?_⟩⟩
    · rw [Int.zero_add]
    · rw [injU inv hy hq]
      exact hx
  · rintro X pins s σ H i rfl rfl rfl calm inv ⟨⟨old, he⟩, hi⟩ ⟨xs, hq, hx⟩
    obtain ⟨its, rv, low⟩ := readU inv hq
    have D := drawsU (prog := X.prog) (w := X.w) (A := X.A.in1) (b := b) (inv.ok.hd calm) (apartU hi low) its.toArray
    refine ⟨_, _, _, _, _, GoesN.enumFrom 0 D e hei apart (by simp), ?_, ⟨⟨old, he⟩, hi, low⟩, by simp⟩
    rw [List.size_toArray, ← rv.length]
    exact hx.symm
section
variable {prog : Program} {w : World} {A : Around} {E : Value → Shared → Prop} {s : Shared}
/-- the object enumerate(v) makes -/
def enumO (it : Addr) : Obj := { cls := .type "enumerate", data := .fields #[.none, .bool false, .ref it, rawInt 0, .none, .none] }
set_option maxHeartbeats 1500000 in
theorem makes_enum {v : Value} {o : Obj} {H : Heap → Prop} (B : Begins v o H) :
    Meets (Builtin.«enumerate.__new__» ⟨[.type "enumerate", v], []⟩) (fun _ R s => H s.heap ∧ R (.ok (.ret (.ref (s.heap.push o).objs.size))) { s with heap := (s.heap.push o).push (enumO s.heap.objs.size) }) := by
  refine .of_wp fun prog w A R s pre => ?_
  obtain ⟨hp, g, d, tk, os⟩ := s
  have given : H hp := pre.1
  have goal := pre.2
  have hsub := sub_enumerate
  have first : ∀ {A' : Around} {E Q : Value → Shared → Prop}, Q (.ref hp.objs.size) ⟨hp.push o, g, d, tk, os⟩ → wpAny (model prog w) A' (pyIter v) Q E ⟨hp, g, d, tk, os⟩ := fun q => B.iter prog w _ _ _ _ given q
  wp_walk using first
  apply wpAny_stack_any
  intro st
  apply wpAny_pure
  split
  · rename_i c _ _ _ _ _
    cases (c == Value.type "enumerate") <;> wp_walk using first <;> exact ⟨_, rfl, goal⟩
  · wp_walk using first
    exact ⟨_, rfl, goal⟩
/-- enumerate(v): what it is behind its making -/
theorem enum_made {v : Value} {o : Obj} {H : Heap → Prop} {Q : Value → Shared → Prop} (B : Begins v o H) (h1 : H s.heap)
    (told : ∀ h', IsEnum h' (s.heap.objs.size + 1) s.heap.objs.size 0 .none → h'.get? s.heap.objs.size = some o → (∀ b x, s.heap.get? b = some x → h'.get? b = some x) → Q (.ref (s.heap.objs.size + 1)) { s with heap := h' }) :
    wpAny (model prog w) A (call (.type "enumerate") [v]) Q E s := by
  have one : (s.heap.push o).objs.size = s.heap.objs.size + 1 := Heap.size_push ..
  have made : IsEnum ((s.heap.push o).push (enumO s.heap.objs.size)) (s.heap.objs.size + 1) s.heap.objs.size 0 .none := by
    have q := Heap.get?_push_size (s.heap.push o) (o := enumO s.heap.objs.size) rfl
    rw [one] at q
    exact q
  have old : ∀ b x, s.heap.get? b = some x → ((s.heap.push o).push (enumO s.heap.objs.size)).get? b = some x := fun b x q => Heap.get?_push_of_some _ (Heap.get?_push_of_some _ q)
  have inner : ((s.heap.push o).push (enumO s.heap.objs.size)).get? s.heap.objs.size = some o := Heap.get?_push_of_some _ (Heap.get?_push_size _ B.free)
  have done := told _ made inner old
  refine callType_new F.called_enumerate (by decide) (F.typeCall_enumerate_1 v) (F.newCall_enumerate_1 v) (F.args_object_init_2 · v) F.entry_enumerate_new (makes_enum B) ⟨h1, ?_⟩
  rw [one]
  exact ⟨⟨_, made, rfl⟩, done⟩
end
def iEnumU (K : PySem.W.Frag) (ta : TA) : TI := fun σ H R => ta σ H fun vs H1 => ∃ a b xs, vs = [.ref a] ∧ SqU K b H1 a xs ∧ R (IteU K b a) H1
theorem pi_enumU {X : Cx} {e : Expr} {ta : TA} {p pos tpos : Pos} {elts : List Expr} {kk : Nat} (hg : Gl X "enumerate") (hm : X.mg "enumerate" = none) (ha : PA X [e] ta) (hs : starEach [e] X.env = [(false, eval e X.env)] := by rfl) :
    PI X (.Tuple elts kk tpos) (.Call (.Name "enumerate" p) [e] [] pos) (iEnumU X.K ta) := by
  constructor
  intro pins s σ H R inv q
  have args := ha.run pos pins s σ H _ inv q
  refine Call_ (ld_blt inv hg hm boot_enumerate ?_)
  refine callWith_type1 (thn args ?_) hs rfl
  rintro us s1 ⟨vs, H1, inv1, rv, a, b, xs, rfl, hq, told⟩
  match us, rv with
  | [u], .cons r .nil =>
    cases r
    obtain ⟨its, _, low⟩ := readU inv1 hq
    have lt := lowU_lt low
    refine enum_made (beginsU its.toArray) low fun h' made inner old => wpAny_pyIter_enum made ?_
    have free : ∀ c ∈ [s1.heap.objs.size + 1, s1.heap.objs.size], FpOk X pins H1 c := fun c hc => by
      have le : s1.heap.objs.size ≤ c := by
        rcases List.mem_cons.mp hc with rfl | hc
        · exact Nat.le_add_right _ _
        · rw [List.mem_singleton.mp hc]
          exact Nat.le_refl _
      exact inv1.fpOk le (inv1.hok.fresh le)
    have ne1 : s1.heap.objs.size + 1 ≠ a := Nat.ne_of_gt (Nat.lt_succ_of_lt lt)
    have ne2 : s1.heap.objs.size + 1 ≠ s1.heap.objs.size := Nat.succ_ne_self _
    exact ⟨_, _, _, _, H1, rfl, inv1.kept (t' := s1.toks) old, turn_enumU a _ _ ne1 ne2, ⟨⟨.none, made⟩, iterU0 inner⟩, free, told⟩
/-! ### zip of two -/
def ItzU (K : PySem.W.Frag) (b c : Bool) (a1 a2 : Addr) : L2.It :=
  ⟨fun i H => ∃ (xs ys : List V) (x y : V), SqU K b H a1 xs ∧ SqU K c H a2 ys ∧ xs[i]? = some x ∧ ys[i]? = some y,
    fun i H v H' => ∃ T x y, v = .ref T ∧ H T = none ∧ H' = upd H T (.tup [x, y]) ∧ (∀ xs, SqU K b H a1 xs → xs[i]? = some x) ∧ ∀ ys, SqU K c H a2 ys → ys[i]? = some y,
    fun i H => ∃ xs ys : List V, SqU K b H a1 xs ∧ SqU K c H a2 ys ∧ i ≤ xs.length ∧ i ≤ ys.length ∧ (i = xs.length ∨ i = ys.length)⟩
/-- where a zip stands -/
def ZipAt (b c : Bool) (z TI TO i1 a1 i2 a2 : Addr) (i : Nat) (h : Heap) : Prop := IsZip h z TI TO .none ∧ IsTupOf2 h TI (.ref i1) (.ref i2) ∧ (∃ x y, IsTupOf2 h TO x y) ∧ IterU b h i1 a1 i ∧ IterU c h i2 a2 i
theorem turn_zipU {P : Program} {w : World} {K : PySem.W.Frag} {elts : List Expr} {kk : Nat} {tpos : Pos} {b c : Bool} {a1 a2 z TI TO i1 i2 : Addr} (S : ZipSep2 z TI TO i1 i2 [i1, a1] [i2, a2]) :
    Turn P w K (.Tuple elts kk tpos) (ItzU K b c a1 a2) [z, TI, TO, i1, i2] z (ZipAt b c z TI TO i1 a1 i2 a2) := by
  refine turn_pairs (by simp) ?_ ?_ ?_ ?_ ?_
  · rintro i h ⟨hz, hTI, ⟨x, y, hTO⟩, h1, h2⟩ d hd
    simp only [List.mem_cons, List.not_mem_nil, or_false] at hd
    rcases hd with rfl | rfl | rfl | rfl | rfl
    · exact ⟨_, hz, fun v => nofun⟩
    · exact ⟨_, hTI, fun v => nofun⟩
    · exact ⟨_, hTO, fun v => nofun⟩
    · exact iterU_obj h1
    · exact iterU_obj h2
  · rintro i h h' ⟨hz, hTI, ⟨x, y, hTO⟩, h1, h2⟩ k
    exact ⟨k z (by simp) _ hz, k TI (by simp) _ hTI, ⟨x, y, k TO (by simp) _ hTO⟩, iterU_at h1 (k i1 (by simp)), iterU_at h2 (k i2 (by simp))⟩
  · rintro A i s Q E ⟨hz, _⟩ q
    exact wpAny_pyIter_zip hz q
  · rintro X pins s σ H i rfl rfl rfl calm inv ⟨hz, hTI, hTO, h1, h2⟩ ⟨xs, ys, x, y, hqx, hqy, hx, hy⟩
    obtain ⟨its, rv, low⟩ := readU inv hqx
    obtain ⟨its2, rv2, low2⟩ := readU inv hqy
    have D1 := drawsU (prog := X.prog) (w := X.w) (A := X.A.in1) (b := b) (inv.ok.hd calm) (apartU h1 low) its.toArray
    have D2 := drawsU (prog := X.prog) (w := X.w) (A := X.A.in1) (b := c) (inv.ok.hd calm) (apartU h2 low2) its2.toArray
    have lt : i < min its.toArray.size its2.toArray.size := by
      rw [List.size_toArray, List.size_toArray, ← rv.length, ← rv2.length]
      have q1 := (List.getElem?_eq_some_iff.mp hx).1
      have q2 := (List.getElem?_eq_some_iff.mp hy).1
      omega
    refine ⟨_, _, _, _, _, GoesN.zip2 S D1 D2, lt, ⟨hz, hTI, hTO, ⟨h1, low⟩, h2, low2⟩, by simp, ?_⟩
    rintro v h' ⟨T, u, u2, rfl, isnew, hu, hu2, tup⟩ ⟨hz', hTI', hTO', ⟨h1', _⟩, h2', _⟩
    refine ⟨⟨hz', hTI', hTO', h1', h2'⟩, T, x, y, u, u2, rfl, isnew, got rv hu hx, got rv2 hu2 hy, tup, fun none0 => ⟨T, x, y, rfl, none0, rfl, fun l hl => ?_, fun l hl => ?_⟩⟩
    · rw [injU inv hl hqx]
      exact hx
    · rw [injU inv hl hqy]
      exact hy
  · rintro X pins s σ H i rfl rfl rfl calm inv ⟨hz, hTI, hTO, h1, h2⟩ ⟨xs, ys, hqx, hqy, l1, l2, fin⟩
    obtain ⟨its, rv, low⟩ := readU inv hqx
    obtain ⟨its2, rv2, low2⟩ := readU inv hqy
    have D1 := drawsU (prog := X.prog) (w := X.w) (A := X.A.in1) (b := b) (inv.ok.hd calm) (apartU h1 low) its.toArray
    have D2 := drawsU (prog := X.prog) (w := X.w) (A := X.A.in1) (b := c) (inv.ok.hd calm) (apartU h2 low2) its2.toArray
    refine ⟨_, _, _, _, _, GoesN.zip2 S D1 D2, ?_, ⟨hz, hTI, hTO, ⟨h1, low⟩, h2, low2⟩, by simp⟩
    rw [List.size_toArray, List.size_toArray, ← rv.length, ← rv2.length]
    omega
def iZipU (K : PySem.W.Frag) (ta : TA) : TI := fun σ H R => ta σ H fun vs H1 => ∃ a1 a2 b c xs ys, vs = [.ref a1, .ref a2] ∧ SqU K b H1 a1 xs ∧ SqU K c H1 a2 ys ∧ R (ItzU K b c a1 a2) H1
theorem pi_zipU {X : Cx} {e e2 : Expr} {ta : TA} {p pos tpos : Pos} {elts : List Expr} {kk : Nat} (hg : Gl X "zip") (hm : X.mg "zip" = none) (ha : PA X [e, e2] ta)
    (hs : starEach [e, e2] X.env = (false, eval e X.env) :: starEach [e2] X.env := by rfl)
    (hpl : (backTo pos (starEach [e2] X.env)).any (·.1) = false := by rfl) :
    PI X (.Tuple elts kk tpos) (.Call (.Name "zip" p) [e, e2] [] pos) (iZipU X.K ta) := by
  constructor
  intro pins s σ H R inv q
  have args := ha.run pos pins s σ H _ inv q
  refine Call_ (ld_blt inv hg hm boot_zip ?_)
  refine callWith_type1 (thn args ?_) hs hpl
  rintro us s1 ⟨vs, H1, inv1, rv, a1, a2, b, c, xs, ys, rfl, hqx, hqy, told⟩
  match us, rv with
  | [u, u2], .cons r (.cons r2 .nil) =>
    cases r
    cases r2
    obtain ⟨its, _, low⟩ := readU inv1 hqx
    obtain ⟨its2, _, low2⟩ := readU inv1 hqy
    have l1 := lowU_lt low
    have l2 := lowU_lt low2
    refine zip_begins2 (beginsU its.toArray) (beginsU its2.toArray) low low2 fun h' hz hTI hTO h1 h2 _ old => wpAny_pyIter_zip hz ?_
    have free : ∀ d ∈ [s1.heap.objs.size + 4, s1.heap.objs.size + 2, s1.heap.objs.size + 3, s1.heap.objs.size, s1.heap.objs.size + 1], FpOk X pins H1 d := fun d hd => by
      have le : s1.heap.objs.size ≤ d := by
        simp only [List.mem_cons, List.not_mem_nil, or_false] at hd
        omega
      exact inv1.fpOk le (inv1.hok.fresh le)
    have sep := zip_sep2 (N := s1.heap.objs.size) (fp1 := [a1]) (fp2 := [a2]) (fun d hd => by rw [List.mem_singleton.mp hd]; exact l1) (fun d hd => by rw [List.mem_singleton.mp hd]; exact l2)
    exact ⟨_, _, _, _, H1, rfl, inv1.kept (t' := s1.toks) old, turn_zipU sep, ⟨hz, hTI, ⟨_, _, hTO⟩, iterU0 h1, iterU0 h2⟩, free, told⟩
end

/-! Mini4 -/
/-! Mini4: targets, statements, loops, comprehensions. -/
section
open PySem L2
section
variable {G : Gx} {E : XK} {X : Cx}
/-! ### targets -/
/-- the slots at is may have changed -/
def Wp (is : List Nat) (σ σ' : L2.St) : Prop := ∀ vs : List Nat, (∀ i ∈ is, i ∈ vs) → L2.wipe σ' vs = L2.wipe σ vs
def tIG (G : Gx) (E : XK) (is : List Nat) (g : XG) : TG := fun v σ H Q => ∃ ρ S env x, Rel G.w G.K ρ S H ∧ EnvR G.K ρ H env σ ∧ Rep G.K ρ H x v ∧
  Aft G E ρ H (g x env S) (fun ρ' S' H' env' => ∀ σ', EnvR G.K ρ' H' env' σ' → Wp is σ σ' → Q σ' H')
theorem _root_.L2.PG.imp {X : Cx} {e : Expr} {t u : TG} (h : PG X e t) (m : ∀ v σ H Q, u v σ H Q → t v σ H Q) : PG X e u := ⟨fun pins s σ H v w Q I r q => h.run pins s σ H v w Q I r (m v σ H Q q)⟩
theorem wipe_get (σ : L2.St) : ∀ (vs : List Nat) (j : Nat), (L2.wipe σ vs)[j]? = if j ∈ vs then (if j < σ.length then some none else none) else σ[j]?
  | [], j => by simp [L2.wipe]
  | v :: vs, j => by
    show ((L2.wipe σ vs).set v none)[j]? = _
    by_cases e : v = j
    · subst e
      rw [if_pos (by simp)]
      by_cases hv : v < σ.length
      · rw [if_pos hv, List.getElem?_set_self (by rw [wipe_length]; exact hv)]
      · rw [if_neg hv, List.getElem?_eq_none (by rw [List.length_set, wipe_length]; omega)]
    · rw [List.getElem?_set_ne e, wipe_get σ vs j]
      have : (j ∈ v :: vs) ↔ j ∈ vs := by simp [Ne.symm e]
      simp only [this]
theorem wipe_set (σ : L2.St) (i : Nat) (x : Option V) (vs : List Nat) (h : i ∈ vs) : L2.wipe (σ.set i x) vs = L2.wipe σ vs := by
  apply List.ext_getElem?
  intro j
  rw [wipe_get, wipe_get, List.length_set]
  by_cases hj : j ∈ vs
  · rw [if_pos hj, if_pos hj]
  · rw [if_neg hj, if_neg hj, List.getElem?_set_ne (fun e => hj (by rw [← e]; exact h))]
theorem wipe_wipe (σ : L2.St) (vs : List Nat) : L2.wipe (L2.wipe σ vs) vs = L2.wipe σ vs := by
  apply List.ext_getElem?
  intro j
  rw [wipe_get, wipe_length, wipe_get]
  by_cases hj : j ∈ vs
  · rw [if_pos hj, if_pos hj]
  · rw [if_neg hj, if_neg hj]
theorem g_name {i : Nat} {x : Str} {pos : Pos} (hN : X.N.Nodup) (hi : X.N[i]? = some x) (hx : Loc X.env.scope x) (hf : X.fn x = true ∨ X.env.scope.names.lookup x = some .local := by first | exact .inl rfl | exact .inr rfl | assumption) :
    PG X (.Name x pos) (tIG G E [i] (gNm i)) :=
  (pg_name hN hi hx hf).imp fun v σ H Q h => by
    obtain ⟨ρ, S, env, x, hR, hE, hx, h⟩ := h
    exact h.ok hR _ (hE.set i hx) fun vs hv => wipe_set σ i _ vs (hv i (by simp))
/-- several targets -/
def tIGs (G : Gx) (E : XK) (is : List Nat) (gs : List XG) : TGs := fun vs σ H Q => ∃ ρ S env xs, Rel G.w G.K ρ S H ∧ EnvR G.K ρ H env σ ∧ Reps G.K ρ H xs vs ∧ xs.length = gs.length ∧
  Aft G E ρ H (gTp.go gs xs env S) (fun ρ' S' H' env' => ∀ σ', EnvR G.K ρ' H' env' σ' → Wp is σ σ' → Q σ' H')
theorem _root_.L2.PGs.imp {X : Cx} {e : List Expr} {t u : TGs} (h : PGs X e t) (m : ∀ v σ H Q, u v σ H Q → t v σ H Q) : PGs X e u := ⟨fun pins s σ H v w Q I r q => h.run pins s σ H v w Q I r (m v σ H Q q)⟩
theorem gs_nil : PGs X [] (tIGs G E [] []) := pgs_nil.imp fun vs σ H Q h => by
  obtain ⟨ρ, S, env, xs, hR, hE, hx, hl, h⟩ := h
  have : xs = [] := List.eq_nil_of_length_eq_zero hl
  subst this
  unfold Reps at hx
  exact ⟨hx, h.ok hR σ hE fun _ _ => rfl⟩
theorem gs_cons {e : Expr} {es : List Expr} {is js : List Nat} {g : XG} {gs : List XG} (h1 : PG X e (tIG G E is g)) (h2 : PGs X es (tIGs G E js gs))
    (hs : (assignEach (e :: es) X.env).map (·.2) = assign e X.env :: (assignEach es X.env).map (·.2) := by rfl) : PGs X (e :: es) (tIGs G E (is ++ js) (g :: gs)) :=
  (pgs_cons h1 h2 hs).imp fun vs σ H Q h => by
    obtain ⟨ρ, S, env, xs, hR, hE, hx, hl, h⟩ := h
    cases xs with
    | nil => cases hl
    | cons x xs =>
      obtain ⟨v, s, rfl, r1, r2⟩ := hx.uncons
      refine ⟨v, s, rfl, ρ, S, env, x, hR, hE, r1, ?_⟩
      have h : Aft G E ρ H ((g x env S).bind fun env S => gTp.go gs xs env S) (fun ρ' S' H' env' => ∀ σ', EnvR G.K ρ' H' env' σ' → Wp (is ++ js) σ σ' → Q σ' H') := h
      refine h.step fun ρ1 S1 H1 env1 e1 hR1 h1 σ1 hE1 w1 => ?_
      refine ⟨ρ1, S1, env1, xs, hR1, hE1, Reps.ext e1 xs s r2, by simpa using hl, h1.mono fun ρ2 S2 H2 env2 e2 hR2 k σ2 hE2 w2 => k σ2 hE2 fun vs hv => ?_⟩
      rw [w2 vs fun i hi => hv i (List.mem_append_right _ hi), w1 vs fun i hi => hv i (List.mem_append_left _ hi)]
theorem _root_.L2.PG.or {X : Cx} {e : Expr} {t u : TG} (h : PG X e t) (h' : PG X e u) : PG X e (fun v σ H Q => t v σ H Q ∨ u v σ H Q) := ⟨fun pins s σ H v w Q I r q => q.elim (h.run pins s σ H v w Q I r) (h'.run pins s σ H v w Q I r)⟩
theorem g_tup {es : List Expr} {k : Nat} {is : List Nat} {gs : List XG} {pos : Pos} (hc : X.calm = true) (h : PGs X es (tIGs G E is gs)) (hK : X.K = G.K := by rfl) (hl : gs.length = es.length := by rfl)
    (hn : (assignEach es X.env).length = es.length := by rfl) (hst : (assignEach es X.env).findIdx? (·.1) = none := by rfl) : PG X (.Tuple es k pos) (tIG G E is (gTp gs)) :=
  ((pg_tup hc h hn hst).or (pg_unl hc h hn hst)).imp fun v σ H Q h => by
    obtain ⟨ρ, S, env, x, hR, hE, hx, h⟩ := h
    unfold gTp at h
    split at h
    · rename_i xs hxs
      obtain ⟨a, vs, rfl, hs, r1⟩ := seq_of hR hx hxs
      split at h
      · rename_i hlen
        have go : vs.length = es.length := by rw [← r1.length, hlen, hl]
        rcases hs with hs | hs
        · exact .inr ⟨a, vs, rfl, by rw [hK]; exact hs, go, ρ, S, env, xs, hR, hE, r1, hlen, h⟩
        · exact .inl ⟨a, vs, rfl, by rw [hK]; exact hs, go, ρ, S, env, xs, hR, hE, r1, hlen, h⟩
      · exact h.elim
    · exact h.elim
/-! ### statements -/
variable {st : Stmt} {rest : List Stmt} {m n : XS} {e : Expr} {me : XE} {pos : Pos}
theorem s_nil : PSs X [] (tIS G E sNil) := pss_nil.imp fun D σ H h => by
  obtain ⟨ρ, S, env, hR, hE, h⟩ := h
  exact h.ok hR σ hE
theorem s_seq (h1 : PS X st (tIS G E m)) (h2 : PSs X rest (tIS G E n)) : PSs X (st :: rest) (tIS G E (sSeq m n)) :=
  (pss_cons h1 h2).imp fun D σ H h => by
    obtain ⟨ρ, S, env, hR, hE, h⟩ := h
    refine ⟨ρ, S, env, hR, hE, h.step fun ρ1 S1 H1 p e1 hR1 h1 => ?_⟩
    obtain ⟨f, env1⟩ := p
    cases f with
    | nx => exact fun σ1 hE1 => ⟨ρ1, S1, env1, hR1, hE1, h1⟩
    | rt v => exact h1.ok hR1
    | bk => exact h1.ok hR1
    | ct => exact h1.ok hR1
theorem s_one (h1 : PS X st (tIS G E m)) : PSs X [st] (tIS G E m) := pss_one h1
theorem s_asg {tg : Expr} {is : List Nat} {g : XG} (he : PE X e (tI G E me)) (hg : PG X tg (tIG G E is g)) (hs : swapsWithSole [tg] e pos.line X.env = pure false := by rfl) (hw : swappedStores [tg] e X.env = pure none := by rfl)
    (h1 : (assignEach [tg] X.env).map (·.2) = [assign tg X.env] := by rfl) : PS X (.Assign [tg] e pos) (tIS G E (sAsg me g)) :=
  (ps_asg he hg hs hw h1).imp fun D σ H h => by
    obtain ⟨ρ, S, env, hR, hE, h⟩ := h
    refine ⟨ρ, S, env, hR, hE, h.step fun ρ1 S1 H1 x e1 hR1 h1 v rv => ?_⟩
    exact ⟨ρ1, S1, env, x, hR1, hE.ext e1, rv, h1.step fun ρ2 S2 H2 env2 e2 hR2 h2 σ2 hE2 _ => h2.ok hR2 σ2 hE2⟩
theorem s_set {i : Nat} {x : Str} {pos' : Pos} (hN : X.N.Nodup) (hi : X.N[i]? = some x) (hx : Loc X.env.scope x) (he : PE X e (tI G E me)) (hs : swapsWith e (some (.Name x pos')) pos.line X.env = pure false := by rfl) (hf : X.fn x = true ∨ X.env.scope.names.lookup x = some .local := by first | exact .inl rfl | exact .inr rfl | assumption) :
    PS X (.Assign [.Name x pos'] e pos) (tIS G E (sAsg me (gNm i))) :=
  (ps_set hN hi hx he hs hf).imp fun D σ H h => by
    obtain ⟨ρ, S, env, hR, hE, h⟩ := h
    refine ⟨ρ, S, env, hR, hE, h.step fun ρ1 S1 H1 x e1 hR1 h1 v rv => ?_⟩
    exact h1.ok hR1 _ ((hE.ext e1).set i rv)
theorem s_drop (he : PE X e (tI G E me)) (hs : swapsWith e none pos.line X.env = pure false := by rfl) : PS X (.Expr e pos) (tIS G E (sDrop me)) :=
  (ps_expr he hs).imp fun D σ H h => by
    obtain ⟨ρ, S, env, hR, hE, h⟩ := h
    refine ⟨ρ, S, env, hR, hE, h.step fun ρ1 S1 H1 x e1 hR1 h1 v rv => ?_⟩
    exact h1.ok hR1 _ (hE.ext e1)
theorem s_ret (he : PE X e (tI G E me)) : PS X (.Return (some e) pos) (tIS G E (sRet me)) :=
  (ps_ret he).imp fun D σ H h => by
    obtain ⟨ρ, S, env, hR, hE, h⟩ := h
    refine ⟨ρ, S, env, hR, hE, h.step fun ρ1 S1 H1 x e1 hR1 h1 v rv => ?_⟩
    exact h1.ok hR1 _ rv
theorem s_retN : PS X (.Return none pos) (tIS G E sRetN) := ps_retN.imp fun D σ H h => by
  obtain ⟨ρ, S, env, hR, hE, h⟩ := h
  exact h.ok hR _ Rep.non
theorem s_if {c : Expr} {a b : List Stmt} {t : XB} (hc : PT X c (tIB G E t)) (ha : PSs X a (tIS G E m)) (hb : PSs X b (tIS G E n)) : PS X (.If c a b pos) (tIS G E (sIf t m n)) :=
  (ps_if hc ha hb).imp fun D σ H h => by
    obtain ⟨ρ, S, env, hR, hE, h⟩ := h
    refine ⟨ρ, S, env, hR, hE, h.step fun ρ1 S1 H1 k e1 hR1 h1 => ?_⟩
    cases k with
    | true => exact ⟨ρ1, S1, env, hR1, hE.ext e1, h1⟩
    | false => exact ⟨ρ1, S1, env, hR1, hE.ext e1, h1⟩
theorem s_bad : PS X st (tIS G E sBad) := ps_never.imp fun D σ H h => by
  obtain ⟨ρ, S, env, hR, hE, h⟩ := h
  exact h
theorem s_cont : PS X (.Continue pos) (tIS G E sCont) := ps_continue.imp fun D σ H h => by
  obtain ⟨ρ, S, env, hR, hE, h⟩ := h
  exact h.ok hR σ hE
/-! ### what is walked -/
/-- hidden or not: something that was not there at first -/
def Hd (H0 : Hp) (ρ ρh : Rho) : Prop := ρh = ρ ∨ ∃ D, H0 D = none ∧ ρh = ρ.hide D
structure Src (G : Gx) (J : L2.It) (it : It) (ρ0 : Rho) (H0 : Hp) : Prop where
  go : ∀ ρ ρh S H all i, Ext ρ0 H0 ρ H → Hd H0 ρ ρh → Rel G.w G.K ρh S H → it.items S = some all → i < all.length → J.go i H
  stop : ∀ ρ ρh S H all, Ext ρ0 H0 ρ H → Hd H0 ρ ρh → Rel G.w G.K ρh S H → it.items S = some all → J.stop all.length H
  yld : ∀ ρ ρh S H all i x H', Ext ρ0 H0 ρ H → Hd H0 ρ ρh → Rel G.w G.K ρh S H → it.items S = some all → i < all.length → J.yld i H x H' → Ext ρh H ρh H' ∧ Rel G.w G.K ρh S H' ∧ ∃ y, all[i]? = some y ∧ Rep G.K ρh H' y x
section
variable {w : World} {K : PySem.W.Frag} {ρ0 ρ : Rho} {H0 H : Hp}
theorem outHide {D a : Addr} {o : HO} (e : Ext ρ0 H0 ρ H) (hD : H0 D = none) (h : H0 a = some o) (nt : ∀ ps, o ≠ .tbl ps) (n : ρ0.Out a) : (ρ.hide D).Out a := by
  have q := e.out h nt n
  refine ⟨q.1, fun z => ?_⟩
  rcases List.mem_cons.mp z with z | z
  · rw [z, hD] at h; cases h
  · exact q.2 z
mutual
theorem Rep.extD {D : Addr} (e : Ext ρ0 H0 ρ H) (hD : H0 D = none) : ∀ (x : PV) (v : V), Rep K ρ0 H0 x v → Rep K (ρ.hide D) H x v
  | .non, _, h => by unfold Rep at h ⊢; exact h
  | .bl _, _, h => by unfold Rep at h ⊢; exact h
  | .int _, _, h => by unfold Rep at h ⊢; exact h
  | .str _, _, h => by unfold Rep at h ⊢; exact h
  | .tup xs, v, h => by
    unfold Rep at h ⊢
    obtain ⟨a, vs, rfl, h1, h3⟩ := h
    refine ⟨a, vs, rfl, ?_, Reps.extD e hD xs vs h3⟩
    rcases h1 with ⟨h1, h2⟩ | h1
    · obtain ⟨o, ho, hn0⟩ := Rd.someP h1 .tup
      exact .inl ⟨Rd.ext e h1 .tup h2.1, outHide e hD ho hn0 h2⟩
    · exact .inr h1
  | .ls xs, v, h => by
    unfold Rep at h ⊢
    obtain ⟨a, vs, rfl, ⟨h1, h2⟩, h3⟩ := h
    exact ⟨a, vs, rfl, ⟨e.keep a _ h1 Plain.lst.1 h2.1, outHide e hD h1 Plain.lst.1 h2⟩, Reps.extD e hD xs vs h3⟩
  | .fz xs, v, h => by
    unfold Rep at h ⊢
    obtain ⟨a, vs, rfl, h1, h3⟩ := h
    refine ⟨a, vs, rfl, ?_, Reps.extD e hD xs vs h3⟩
    rcases h1 with ⟨h1, h2⟩ | h1
    · obtain ⟨o, ho, hn0⟩ := Rd.someP h1 .lst
      exact .inl ⟨Rd.ext e h1 .lst h2.1, outHide e hD ho hn0 h2⟩
    · exact .inr h1
  | .dc ks xs, v, h => by
    unfold Rep at h ⊢
    obtain ⟨a, vs, rfl, ⟨h1, h2⟩, hl, hn, h3⟩ := h
    obtain ⟨o, ho, hn0⟩ := Rd.someP h1 .dK
    exact ⟨a, vs, rfl, ⟨Rd.ext e h1 .dK h2.1, outHide e hD ho hn0 h2⟩, hl, hn, Reps.extD e hD xs vs h3⟩
  | .loc l, v, h => by
    have q := Rep.ext e _ _ h
    unfold Rep at q ⊢
    exact q
theorem Reps.extD {D : Addr} (e : Ext ρ0 H0 ρ H) (hD : H0 D = none) : ∀ (xs : List PV) (vs : List V), Reps K ρ0 H0 xs vs → Reps K (ρ.hide D) H xs vs
  | [], _, h => by unfold Reps at h ⊢; exact h
  | x :: r, vs, h => by
    unfold Reps at h ⊢
    obtain ⟨v, s, rfl, h1, h2⟩ := h
    exact ⟨v, s, rfl, Rep.extD e hD x v h1, Reps.extD e hD r s h2⟩
end
theorem Rep.extH {ρh : Rho} (e : Ext ρ0 H0 ρ H) (d : Hd H0 ρ ρh) {x : PV} {v : V} (r : Rep K ρ0 H0 x v) : Rep K ρh H x v := by
  rcases d with rfl | ⟨D, hD, rfl⟩
  · exact Rep.ext e x v r
  · exact Rep.extD e hD x v r
end
def tII (G : Gx) (E : XK) (mi : XI) : TI := fun σ H R => ∃ ρ S env, Rel G.w G.K ρ S H ∧ EnvR G.K ρ H env σ ∧ Aft G E ρ H (mi env S) (fun ρ' S' H' it => (∃ all, it.items S' = some all) ∧ ∀ J, Src G J it ρ' H' → R J H')
theorem _root_.L2.PI.imp {X : Cx} {tg e : Expr} {t u : TI} (h : PI X tg e t) (m : ∀ σ H Q, u σ H Q → t σ H Q) : PI X tg e u := ⟨fun pins s σ H R I q => h.run pins s σ H R I (m σ H R q)⟩
def PV.isTup : PV → Bool
  | .tup _ => true
  | _ => false
def Stay (G : Gx) (x : PV) (a : Addr) (b : Bool) (ρ0 : Rho) (H0 : Hp) : Prop := ∀ ρ ρh S H ys, Ext ρ0 H0 ρ H → Hd H0 ρ ρh → Rel G.w G.K ρh S H → seqOf S x = some ys → ∃ vs, SqU G.K b H a vs ∧ Reps G.K ρh H ys vs
/-- where a value that is a sequence stands, for the time of a walk -/
theorem sqU_stay {ρ0 : Rho} {S0 : Store} {H0 : Hp} (q0 : Rel G.w G.K ρ0 S0 H0) {x : PV} {v : V} {xs : List PV} (r0 : Rep G.K ρ0 H0 x v) (h0 : seqOf S0 x = some xs) :
    ∃ a, v = .ref a ∧ (∃ vs, SqU G.K x.isTup H0 a vs) ∧ Stay G x a x.isTup ρ0 H0 := by
  cases x with
  | tup ys =>
    have r1 := r0
    unfold Rep at r0
    obtain ⟨a, vs, rfl, h1, h2⟩ := r0
    refine ⟨a, rfl, ⟨vs, h1.sq⟩, fun ρ ρh S H zs e hd q h => ?_⟩
    have r2 := Rep.extH e hd r1
    unfold Rep at r2
    obtain ⟨a', vs', e', h1', h2'⟩ := r2
    cases e'
    cases h
    exact ⟨vs', h1'.sq, h2'⟩
  | ls ys =>
    have r1 := r0
    unfold Rep at r0
    obtain ⟨a, vs, rfl, ⟨h1, _⟩, h2⟩ := r0
    refine ⟨a, rfl, ⟨vs, SqL.of h1⟩, fun ρ ρh S H zs e hd q h => ?_⟩
    have r2 := Rep.extH e hd r1
    unfold Rep at r2
    obtain ⟨a', vs', e', ⟨h1', _⟩, h2'⟩ := r2
    cases e'
    cases h
    exact ⟨vs', SqL.of h1', h2'⟩
  | fz ys =>
    have r1 := r0
    unfold Rep at r0
    obtain ⟨a, vs, rfl, h1, h2⟩ := r0
    refine ⟨a, rfl, ⟨vs, h1.sq⟩, fun ρ ρh S H zs e hd q h => ?_⟩
    have r2 := Rep.extH e hd r1
    unfold Rep at r2
    obtain ⟨a', vs', e', h1', h2'⟩ := r2
    cases e'
    cases h
    exact ⟨vs', h1'.sq, h2'⟩
  | loc l =>
    have r1 := r0
    unfold Rep at r0
    obtain ⟨a, h1, rfl⟩ := r0
    obtain ⟨c, hc, ca⟩ := q0.cell h1
    simp only [seqOf, hc] at h0
    cases c with
    | lst zs =>
      obtain ⟨vs, h2, h3⟩ := ca
      refine ⟨a, rfl, ⟨vs, SqL.of h2⟩, fun ρ ρh S H ws e hd q h => ?_⟩
      have r2 := Rep.extH e hd r1
      unfold Rep at r2
      obtain ⟨a', h1', e'⟩ := r2
      cases e'
      obtain ⟨c', hc', ca'⟩ := q.cell h1'
      simp only [seqOf, hc'] at h
      cases c' with
      | lst us =>
        obtain ⟨vs', h2', h3'⟩ := ca'
        cases h
        exact ⟨vs', SqL.of h2', h3'⟩
      | _ => cases h
    | _ => cases h0
  | _ => cases h0
theorem src_seq {ρ0 : Rho} {H0 : Hp} {x : PV} {a : Addr} {b : Bool} (w : Stay G x a b ρ0 H0) : Src G (ItU G.K b a) (.seq x) ρ0 H0 where
  go := fun ρ ρh S H all i e hd q h hi => by
    obtain ⟨vs, h1, h2⟩ := w ρ ρh S H all e hd q h
    have hi' : i < vs.length := by rw [← h2.length]; exact hi
    cases b with
    | true => exact ⟨vs, vs[i], h1, List.getElem?_eq_getElem hi'⟩
    | false => exact ⟨vs, vs[i], h1, List.getElem?_eq_getElem hi'⟩
  stop := fun ρ ρh S H all e hd q h => by
    obtain ⟨vs, h1, h2⟩ := w ρ ρh S H all e hd q h
    cases b with
    | true => exact ⟨vs, h1, Nat.le_of_eq h2.length.symm⟩
    | false => exact ⟨vs, h1, Nat.le_of_eq h2.length.symm⟩
  yld := fun ρ ρh S H all i x H' e hd q h hi y => by
    obtain ⟨vs, h1, h2⟩ := w ρ ρh S H all e hd q h
    cases b with
    | true =>
      obtain ⟨e', y⟩ := y
      subst e'
      obtain ⟨z, h3, h4⟩ := h2.getV (y vs h1)
      exact ⟨Ext.refl _ _, q, z, h3, h4⟩
    | false =>
      obtain ⟨e', y⟩ := y
      subst e'
      obtain ⟨z, h3, h4⟩ := h2.getV (y vs h1)
      exact ⟨Ext.refl _ _, q, z, h3, h4⟩
theorem i_seq {tg l : Expr} {ml : XE} (hl : PE X l (tI G E ml)) (hK : X.K = G.K := by rfl) : PI X tg l (tII G E (iSeq ml)) :=
  ((pi_list hl).or (pi_tup hl)).imp fun σ H R h => by
    obtain ⟨ρ, S, env, hR, hE, h⟩ := h
    unfold iSeq at h
    cases hv : ml env S with
    | bad =>
      rw [hv] at h
      exact h.elim
    | exc e S' =>
      rw [hv] at h
      exact .inl ⟨ρ, S, env, hR, hE, by rw [hv]; exact h⟩
    | ok x S1 =>
      rw [hv] at h
      cases ht : x.isTup with
      | true =>
        refine .inr ⟨ρ, S, env, hR, hE, ?_⟩
        rw [hv]
        intro ρ1 H1 e1 hR1 v rv
        obtain ⟨⟨all, ha⟩, k⟩ := h ρ1 H1 e1 hR1
        obtain ⟨a, rfl, hvs, w⟩ := sqU_stay hR1 rv ha
        rw [ht] at hvs w
        rw [hK]
        exact ⟨a, rfl, hvs, k _ (src_seq w)⟩
      | false =>
        refine .inl ⟨ρ, S, env, hR, hE, ?_⟩
        rw [hv]
        intro ρ1 H1 e1 hR1 v rv
        obtain ⟨⟨all, ha⟩, k⟩ := h ρ1 H1 e1 hR1
        obtain ⟨a, rfl, hvs, w⟩ := sqU_stay hR1 rv ha
        rw [ht] at hvs w
        rw [hK]
        exact ⟨a, rfl, hvs, k _ (src_seq w)⟩
theorem pairs_get {xs ys : List PV} {i : Nat} {x y : PV} (h1 : xs[i]? = some x) (h2 : ys[i]? = some y) : (pairs xs ys)[i]? = some (.tup [x, y]) := by
  unfold pairs
  rw [List.getElem?_map, show (xs.zip ys)[i]? = some (x, y) from List.getElem?_zip_eq_some.mpr ⟨h1, h2⟩]
  rfl
theorem pairs_length {xs ys : List PV} : (pairs xs ys).length = min xs.length ys.length := by
  unfold pairs
  rw [List.length_map, List.length_zip]
theorem upto_get {lo : Int} {n i : Nat} (h : i < n) : (upto lo n)[i]? = some (.int (lo + i)) := by
  unfold upto
  rw [List.getElem?_map, List.getElem?_range h]
  rfl
theorem upto_length {lo : Int} {n : Nat} : (upto lo n).length = n := by
  unfold upto
  rw [List.length_map, List.length_range]
/-- a new pair -/
theorem new_pair {ρ : Rho} {S : Store} {H : Hp} (q : Rel G.w G.K ρ S H) {T : Addr} {x y : PV} {v u : V} (hT : H T = none) (r : Rep G.K ρ H x v) (r' : Rep G.K ρ H y u) :
    Ext ρ H ρ (upd H T (.tup [v, u])) ∧ Rel G.w G.K ρ S (upd H T (.tup [v, u])) ∧ Rep G.K ρ (upd H T (.tup [v, u])) (.tup [x, y]) (.ref T) := by
  refine ⟨Ext.new hT, q.new hT, ?_⟩
  unfold Rep
  exact ⟨T, [v, u], rfl, .inl ⟨.inl upd_same, q.out hT⟩, .cons (Rep.ext (Ext.new hT) x v r) (.cons (Rep.ext (Ext.new hT) y u r') .nil)⟩
theorem src_enum {ρ0 : Rho} {H0 : Hp} {x : PV} {a : Addr} {b : Bool} (w : Stay G x a b ρ0 H0) : Src G (IteU G.K b a) (.enum x) ρ0 H0 := by
  have inv : ∀ {S : Store} {all : List PV}, (It.enum x).items S = some all → ∃ xs, seqOf S x = some xs ∧ all = pairs (upto 0 xs.length) xs ∧ all.length = xs.length := fun {S all} h => by
    unfold It.items at h
    cases e : seqOf S x with
    | none => simp [e] at h
    | some xs =>
      simp [e] at h
      exact ⟨xs, rfl, h.symm, by rw [← h, pairs_length, upto_length, Nat.min_self]⟩
  refine ⟨fun ρ ρh S H all i e hd q h hi => ?_, fun ρ ρh S H all e hd q h => ?_, fun ρ ρh S H all i y H' e hd q h hi yd => ?_⟩
  · obtain ⟨xs, hx, rfl, hl⟩ := inv h
    obtain ⟨vs, h1, h2⟩ := w ρ ρh S H xs e hd q hx
    have hi' : i < vs.length := by rw [← h2.length]; omega
    exact ⟨vs, vs[i], h1, List.getElem?_eq_getElem hi'⟩
  · obtain ⟨xs, hx, rfl, hl⟩ := inv h
    obtain ⟨vs, h1, h2⟩ := w ρ ρh S H xs e hd q hx
    exact ⟨vs, h1, by rw [hl, h2.length]⟩
  · obtain ⟨xs, hx, rfl, hl⟩ := inv h
    obtain ⟨vs, h1, h2⟩ := w ρ ρh S H xs e hd q hx
    obtain ⟨T, v, rfl, hT, rfl, hv⟩ := yd
    obtain ⟨z, h3, h4⟩ := h2.getV (hv vs h1)
    obtain ⟨p1, p2, p3⟩ := new_pair q (x := .int (i : Nat)) (y := z) (v := .int (i : Nat)) (u := v) hT Rep.int h4
    refine ⟨p1, p2, _, ?_, p3⟩
    exact pairs_get (by rw [upto_get (by omega)]; simp) h3
theorem i_enum {e : Expr} {ml : XE} {p pos tpos : Pos} {elts : List Expr} {kk : Nat} (hg : Gl X "enumerate") (hm : X.mg "enumerate" = none) (hl : PE X e (tI G E ml)) (hK : X.K = G.K := by rfl) (hs : starEach [e] X.env = [(false, eval e X.env)] := by rfl) :
    PI X (.Tuple elts kk tpos) (.Call (.Name "enumerate" p) [e] [] pos) (tII G E (iEnum ml)) :=
  (pi_enumU hg hm (pa_cons hl pa_nil hs) hs).imp fun σ H R h => by
    obtain ⟨ρ, S, env, hR, hE, h⟩ := h
    refine ⟨ρ, S, env, hR, hE, h.step fun ρ1 S1 H1 x e1 hR1 h1 v rv => ?_⟩
    obtain ⟨⟨all, ha⟩, k⟩ := h1.ok hR1
    unfold It.items at ha
    cases hx : seqOf S1 x with
    | none => simp [hx] at ha
    | some xs =>
      obtain ⟨a, rfl, ⟨vs, hvs⟩, w⟩ := sqU_stay hR1 rv hx
      rw [hK]
      exact ⟨a, _, vs, rfl, hvs, k _ (src_enum w)⟩
theorem src_zip {ρ0 : Rho} {H0 : Hp} {x y : PV} {a1 a2 : Addr} {b c : Bool} (w : Stay G x a1 b ρ0 H0) (w2 : Stay G y a2 c ρ0 H0) : Src G (ItzU G.K b c a1 a2) (.zip x y) ρ0 H0 := by
  have inv : ∀ {S : Store} {all : List PV}, (It.zip x y).items S = some all → ∃ xs ys, seqOf S x = some xs ∧ seqOf S y = some ys ∧ all = pairs xs ys := fun {S all} h => by
    simp only [It.items] at h
    split at h
    · rename_i xs ys h1 h2
      cases h
      exact ⟨xs, ys, h1, h2, rfl⟩
    · cases h
  refine ⟨fun ρ ρh S H all i e hd q h hi => ?_, fun ρ ρh S H all e hd q h => ?_, fun ρ ρh S H all i z H' e hd q h hi yd => ?_⟩
  · obtain ⟨xs, ys, hx, hy, rfl⟩ := inv h
    obtain ⟨vs, h1, h2⟩ := w ρ ρh S H xs e hd q hx
    obtain ⟨us, h3, h4⟩ := w2 ρ ρh S H ys e hd q hy
    rw [pairs_length] at hi
    have hi1 : i < vs.length := by rw [← h2.length]; omega
    have hi2 : i < us.length := by rw [← h4.length]; omega
    exact ⟨vs, us, vs[i], us[i], h1, h3, List.getElem?_eq_getElem hi1, List.getElem?_eq_getElem hi2⟩
  · obtain ⟨xs, ys, hx, hy, rfl⟩ := inv h
    obtain ⟨vs, h1, h2⟩ := w ρ ρh S H xs e hd q hx
    obtain ⟨us, h3, h4⟩ := w2 ρ ρh S H ys e hd q hy
    rw [pairs_length]
    have l1 := h2.length
    have l2 := h4.length
    exact ⟨vs, us, h1, h3, by omega, by omega, by omega⟩
  · obtain ⟨xs, ys, hx, hy, rfl⟩ := inv h
    obtain ⟨vs, h1, h2⟩ := w ρ ρh S H xs e hd q hx
    obtain ⟨us, h3, h4⟩ := w2 ρ ρh S H ys e hd q hy
    obtain ⟨T, v, u, rfl, hT, rfl, hv, hu⟩ := yd
    obtain ⟨z1, h5, h6⟩ := h2.getV (hv vs h1)
    obtain ⟨z2, h7, h8⟩ := h4.getV (hu us h3)
    obtain ⟨p1, p2, p3⟩ := new_pair q hT h6 h8
    exact ⟨p1, p2, _, pairs_get h5 h7, p3⟩
theorem i_zip {e e2 : Expr} {ml ml2 : XE} {p pos tpos : Pos} {elts : List Expr} {kk : Nat} (hg : Gl X "zip") (hm : X.mg "zip" = none) (hl : PE X e (tI G E ml)) (hl2 : PE X e2 (tI G E ml2)) (hK : X.K = G.K := by rfl)
    (hs : starEach [e, e2] X.env = (false, eval e X.env) :: starEach [e2] X.env := by rfl) (hpl : (backTo pos (starEach [e2] X.env)).any (·.1) = false := by rfl) (hs2 : starEach [e2] X.env = (false, eval e2 X.env) :: starEach [] X.env := by rfl) :
    PI X (.Tuple elts kk tpos) (.Call (.Name "zip" p) [e, e2] [] pos) (tII G E (iZip ml ml2)) :=
  (pi_zipU hg hm (pa_cons hl (pa_cons hl2 pa_nil hs2) hs) hs hpl).imp fun σ H R h => by
    obtain ⟨ρ, S, env, hR, hE, h⟩ := h
    refine ⟨ρ, S, env, hR, hE, h.step fun ρ1 S1 H1 x e1 hR1 h1 v rv => ?_⟩
    refine ⟨ρ1, S1, env, hR1, hE.ext e1, h1.step fun ρ2 S2 H2 y e2 hR2 h2 u ru => ?_⟩
    obtain ⟨⟨all, ha⟩, k⟩ := h2.ok hR2
    simp only [It.items] at ha
    split at ha
    · rename_i xs ys hx hy
      obtain ⟨a, rfl, ⟨vs, hvs⟩, w⟩ := sqU_stay hR2 (Rep.ext e2 x v rv) hx
      obtain ⟨a2, rfl, ⟨us, hus⟩, w2⟩ := sqU_stay hR2 ru hy
      rw [hK]
      exact ⟨a, a2, _, _, vs, us, rfl, hvs, hus, k _ (src_zip w w2)⟩
    · cases ha
theorem src_rng {ρ0 : Rho} {H0 : Hp} {lo : Int} {n : Nat} : Src G (Itr lo n) (.rng lo n) ρ0 H0 := by
  refine ⟨fun ρ ρh S H all i e hd q h hi => ?_, fun ρ ρh S H all e hd q h => ?_, fun ρ ρh S H all i y H' e hd q h hi yd => ?_⟩
  · cases h
    rw [upto_length] at hi
    exact hi
  · cases h
    rw [upto_length]
    exact Nat.le_refl n
  · cases h
    rw [upto_length] at hi
    obtain ⟨rfl, rfl⟩ := yd
    exact ⟨Ext.refl _ _, q, _, upto_get hi, Rep.int⟩
theorem i_rng {a : Expr} {ma : XE} {tg : Expr} {p pos : Pos} (hg : Gl X "range") (hm : X.mg "range" = none) (ha : PE X a (tI G E ma)) (hs : starEach [a] X.env = [(false, eval a X.env)] := by rfl) : PI X tg (.Call (.Name "range" p) [a] [] pos) (tII G E (iRng ma)) :=
  (pi_range1 hg hm (pa_cons ha pa_nil hs) hs).imp fun σ H R h => by
    obtain ⟨ρ, S, env, hR, hE, h⟩ := h
    refine ⟨ρ, S, env, hR, hE, h.step fun ρ1 S1 H1 x e1 hR1 h1 v rv => ?_⟩
    cases x with
    | int j =>
      rw [rv.int_of]
      simp only at h1
      split at h1
      · rename_i hl
        obtain ⟨_, k⟩ := h1.ok hR1
        have : (lim : Int) < 2 ^ 62 := by decide
        exact ⟨j, rfl, by omega, by omega, k _ src_rng⟩
      · exact h1.elim
    | _ => exact h1.elim
theorem src_rev {ρ0 : Rho} {H0 : Hp} {x : PV} {a : Addr} {n : Nat} (w : ∀ ρ ρh S H ys, Ext ρ0 H0 ρ H → Hd H0 ρ ρh → Rel G.w G.K ρh S H → lsOf x = some ys → ys.length = n ∧ ∃ vs, SqL G.K H a vs ∧ Reps G.K ρh H ys vs) : Src G (Itv G.K a n) (.rev x) ρ0 H0 := by
  have inv : ∀ {S : Store} {all : List PV}, (It.rev x).items S = some all → ∃ xs, lsOf x = some xs ∧ all = xs.reverse := fun {S all} h => by
    simp only [It.items] at h
    cases e : lsOf x with
    | none => simp [e] at h
    | some xs =>
      simp [e] at h
      exact ⟨xs, rfl, h.symm⟩
  refine ⟨fun ρ ρh S H all i e hd q h hi => ?_, fun ρ ρh S H all e hd q h => ?_, fun ρ ρh S H all i y H' e hd q h hi yd => ?_⟩
  · obtain ⟨xs, hx, rfl⟩ := inv h
    obtain ⟨hn, vs, h1, h2⟩ := w ρ ρh S H xs e hd q hx
    rw [List.length_reverse] at hi
    have hl := h2.length
    exact ⟨by omega, vs, vs[n - 1 - i], h1, List.getElem?_eq_getElem (by omega)⟩
  · obtain ⟨xs, hx, rfl⟩ := inv h
    obtain ⟨hn, vs, h1, h2⟩ := w ρ ρh S H xs e hd q hx
    rw [List.length_reverse]
    exact Nat.le_of_eq hn.symm
  · obtain ⟨xs, hx, rfl⟩ := inv h
    obtain ⟨hn, vs, h1, h2⟩ := w ρ ρh S H xs e hd q hx
    rw [List.length_reverse] at hi
    obtain ⟨rfl, yd⟩ := yd
    obtain ⟨z, h3, h4⟩ := h2.getV (yd vs h1)
    refine ⟨Ext.refl _ _, q, z, ?_, h4⟩
    rw [List.getElem?_reverse hi, hn]
    exact h3
/-! ### for, while -/
variable {iter tg : Expr} {mi : XI} {is : List Nat} {g : XG} {body : List Stmt} {mb : XS} {c : Expr} {mc : XB}
theorem s_for (hp : PassesOwn (model X.prog X.w) X.A X.env X.xe) (hc : X.calm = true) (hi : PI X tg iter (tII G E mi)) (hg : PG X tg (tIG G E is g)) (hb : PSs X body (tIS G E mb))
    (hs : ∀ x, foldedSetIterable iter X.env x = pure x := by intro _; rfl) : PS X (.For tg iter body [] pos) (tIS G E (sFor mi g mb)) :=
  (ps_for hp hc hi hg hb hs).imp fun D σ H h => by
    obtain ⟨ρ, S, env, hR, hE, h⟩ := h
    refine ⟨ρ, S, env, hR, hE, h.step fun ρ1 S1 H1 it e1 hR1 h1 => ?_⟩
    cases ha : it.items S1 with
    | none => simp only [ha] at h1; exact h1.elim
    | some all =>
      simp only [ha] at h1
      refine ⟨⟨all, rfl⟩, fun J src => ?_⟩
      refine ⟨fun i m σ H => ∃ ρ S env, Ext ρ1 H1 ρ H ∧ Rel G.w G.K ρ S H ∧ EnvR G.K ρ H env σ ∧ m = all.length - i ∧ i ≤ all.length ∧ Aft G E ρ H (forGo it all g mb (all.drop i) env S) (kS G D),
        ⟨all.length, ρ1, S1, env, Ext.refl _ _, hR1, hE.ext e1, by simp, Nat.zero_le _, h1⟩, ?_⟩
      rintro i m σ2 H2 ⟨ρ2, S2, env2, e2, hR2, hE2, rfl, hi2, h2⟩
      by_cases hlt : i < all.length
      · have hd : all.drop i = all[i] :: all.drop (i + 1) := List.drop_eq_getElem_cons hlt
        rw [hd] at h2
        unfold forGo at h2
        split at h2
        · rename_i hit
          refine .inr ⟨src.go ρ2 ρ2 S2 H2 all i e2 (.inl rfl) hR2 hit hlt, fun σ' H' => ∃ ρ S env, Ext ρ1 H1 ρ H' ∧ Rel G.w G.K ρ S H' ∧ EnvR G.K ρ H' env σ' ∧ Aft G E ρ H' (forGo it all g mb (all.drop (i + 1)) env S) (kS G D), ?_, ?_⟩
          · rintro σ' H' ⟨ρ3, S3, env3, e3, hR3, hE3, h3⟩
            exact ⟨all.length - (i + 1), by omega, ρ3, S3, env3, e3, hR3, hE3, rfl, hlt, h3⟩
          · intro x H' yd
            obtain ⟨e3, hR3, y, hy, ry⟩ := src.yld ρ2 ρ2 S2 H2 all i x H' e2 (.inl rfl) hR2 hit hlt yd
            rw [List.getElem?_eq_getElem hlt] at hy
            cases hy
            refine ⟨ρ2, S2, env2, all[i], hR3, hE2.ext e3, ry, (h2.shift e3).step fun ρ4 S4 H4 env4 e4 hR4 h4 σ4 hE4 _ => ?_⟩
            refine ⟨ρ4, S4, env4, hR4, hE4, h4.step fun ρ5 S5 H5 p e5 hR5 h5 => ?_⟩
            have e15 : Ext ρ1 H1 ρ5 H5 := ((e2.trans e3).trans e4).trans e5
            obtain ⟨f, env5⟩ := p
            cases f with
            | nx => exact fun σ5 hE5 => ⟨ρ5, S5, env5, e15, hR5, hE5, h5⟩
            | ct => exact fun σ5 hE5 => ⟨ρ5, S5, env5, e15, hR5, hE5, h5⟩
            | bk => exact fun σ5 hE5 => h5.ok hR5 σ5 hE5
            | rt v => exact fun u ru => h5.ok hR5 u ru
        · exact h2.elim
      · have e : i = all.length := by omega
        subst e
        rw [List.drop_length] at h2
        unfold forGo at h2
        split at h2
        · rename_i hit
          exact .inl ⟨src.stop ρ2 ρ2 S2 H2 all e2 (.inl rfl) hR2 hit, h2.ok hR2 σ2 hE2⟩
        · exact h2.elim
theorem s_while (hp : PassesOwn (model X.prog X.w) X.A X.env X.xe) (hc : PT X c (tIB G E mc)) (hb : PSs X body (tIS G E mb)) : PS X (.While c body [] pos) (tIS G E (sWhile mc mb)) :=
  (ps_while hp hc hb).imp fun D σ H h => by
    obtain ⟨ρ, S, env, hR, hE, h⟩ := h
    refine ⟨fun m σ H => ∃ ρ S env, Rel G.w G.K ρ S H ∧ EnvR G.K ρ H env σ ∧ Aft G E ρ H (whGo mc mb m env S) (kS G D), ⟨lim, ρ, S, env, hR, hE, h⟩, ?_⟩
    rintro m σ2 H2 ⟨ρ2, S2, env2, hR2, hE2, h2⟩
    cases m with
    | zero => exact h2.elim
    | succ m =>
      unfold whGo at h2
      refine ⟨ρ2, S2, env2, hR2, hE2, h2.step fun ρ3 S3 H3 k e3 hR3 h3 => ?_⟩
      cases k with
      | true =>
        refine ⟨fun σ' H' => ∃ ρ S env, Rel G.w G.K ρ S H' ∧ EnvR G.K ρ H' env σ' ∧ Aft G E ρ H' (whGo mc mb m env S) (kS G D), ?_, ?_⟩
        · rintro σ' H' w
          exact ⟨m, Nat.lt_succ_self m, w⟩
        · refine ⟨ρ3, S3, env2, hR3, hE2.ext e3, Aft.step (f := fun p S => _) h3 fun ρ5 S5 H5 p e5 hR5 h5 => ?_⟩
          obtain ⟨f, env5⟩ := p
          cases f with
          | nx => exact fun σ5 hE5 => ⟨ρ5, S5, env5, hR5, hE5, h5⟩
          | ct => exact fun σ5 hE5 => ⟨ρ5, S5, env5, hR5, hE5, h5⟩
          | bk => exact fun σ5 hE5 => h5.ok hR5 σ5 hE5
          | rt v => exact fun u ru => h5.ok hR5 u ru
      | false => exact h3.ok hR3 σ2 (hE2.ext e3)
/-! ### comprehensions -/
def E0 : XK := fun _ _ _ => False
theorem Ext.ofHide {ρ ρ' : Rho} {H H' : Hp} {D : Addr} (e : Ext (ρ.hide D) H ρ' H') : ∃ ρ2 : Rho, ρ' = ρ2.hide D ∧ Ext ρ H ρ2 H' := by
  obtain ⟨lb, hid⟩ := ρ'
  have h : hid = D :: ρ.hid := e.hid
  exact ⟨⟨lb, ρ.hid⟩, by rw [h]; rfl, e.more, rfl, e.keep, e.dom, e.fz⟩
/-- what is new since H1 may change -/
theorem Ext.wr {ρ ρ' : Rho} {H H' : Hp} {D : Addr} {o : HO} (e : Ext ρ H ρ' H') (h : H D = none) : Ext ρ H ρ' (upd H' D o) := ⟨e.more, e.hid, fun a u ha nt n => by
  rw [upd_ne (ne_of_none ha h)]
  exact e.keep a u ha nt n, fun a ha => by
  by_cases x : a = D
  · rw [x]; exact .of h
  · exact e.dom a fun o q => ha o (by rw [upd_ne x]; exact q), fun a od u ha => by rw [upd_ne (ne_of_none ha h)]; exact e.fz a od u ha⟩
/-- what is made of a comprehension's items -/
def Fin (G : Gx) (E : XK) (fin : List PV → Store → R PV) (Q : VK) : Prop := ∀ ρ1 H1 ρ S1 S H D acc vs, H1 D = none → Rel G.w G.K ρ1 S1 H1 → Ext ρ1 H1 ρ H → Rel G.w G.K (ρ.hide D) S H → H D = some (.lst vs) → D ∉ ρ.lb → Reps G.K (ρ.hide D) H acc vs →
  Aft G E ρ1 H1 (fin acc S) (kV G Q) → Q (.ref D) H
theorem fin_ls {Q : VK} : Fin G E (fun xs S => R.ok (PV.ls xs) S) Q := by
  intro ρ1 H1 ρ2 S1 S2 H2 D acc vs hD hR1 e2 hR2 hD2 nD ra h2
  refine h2 ρ2 H2 e2 hR2.unhide _ ?_
  unfold Rep
  refine ⟨D, vs, rfl, ⟨hD2, nD, fun z => ?_⟩, Reps.unhide _ _ ra⟩
  rw [e2.hid] at z
  obtain ⟨⟨o, ho, _⟩, _⟩ := hR1.hd D z
  rw [hD] at ho; cases ho
theorem lc_readF {wi : TI} {tt : TT} {te : TE} {tg' : TG} {own : List Nat} {mt : XB} {me : XE} {fin : List PV → Store → R PV} {σ : L2.St} {H : Hp} {Q : VK} (hfin : Fin G E fin Q) (hw : ∀ σ H R, tII G E mi σ H R → wi σ H R) (hg : ∀ v σ H Q, tIG G E0 is g v σ H Q → tg' v σ H Q) (ht : ∀ σ H Q, tIB G E0 mt σ H Q → tt σ H Q) (he : ∀ σ H Q, tI G E0 me σ H Q → te σ H Q) (hown : ∀ i ∈ is, i ∈ own)
    (h : tI G E (fun env S => (xLc mi g mt me own env S).bind fin) σ H Q) : tLc wi tg' tt te own σ H Q := by
  obtain ⟨ρ, S, env, hR, hE, h⟩ := h
  have h : Aft G E ρ H ((mi env S).bind fun it S1 => ((match it.items S1 with | some all => lcGo it all g mt me (wipeE env own) all [] S1 | none => R.bad).bind fin)) (kV G Q) := by
    have e : ((xLc mi g mt me own env S).bind fin) = ((mi env S).bind fun it S1 => ((match it.items S1 with | some all => lcGo it all g mt me (wipeE env own) all [] S1 | none => R.bad).bind fin)) := by
      unfold xLc
      cases mi env S <;> rfl
    rw [← e]
    exact h
  refine hw _ _ _ ⟨ρ, S, env, hR, hE, h.step fun ρ1 S1 H1 it e1 hR1 h1 => ?_⟩
  cases ha : it.items S1 with
  | none => simp only [ha] at h1; exact h1.elim
  | some all =>
    simp only [ha] at h1
    refine ⟨⟨all, rfl⟩, fun J src => ?_⟩
    intro D hD
    refine ⟨fun i m H => ∃ ρ S acc vs, Ext ρ1 H1 ρ H ∧ Rel G.w G.K (ρ.hide D) S H ∧ H D = some (.lst vs) ∧ Reps G.K (ρ.hide D) H acc vs ∧ EnvR G.K (ρ.hide D) H (wipeE env own) (L2.wipe σ own) ∧ m = all.length - i ∧ i ≤ all.length ∧
      Aft G E ρ1 H1 ((lcGo it all g mt me (wipeE env own) (all.drop i) acc S).bind fin) (kV G Q), ?_, ?_⟩
    · refine ⟨all.length, ρ1, S1, [], [], Ext.new hD, hR1.hide hD, upd_same, Reps.nil, ?_, by simp, Nat.zero_le _, h1⟩
      have q := (hE.ext e1).wipe own
      exact ⟨q.len, fun i x hx => by
        obtain ⟨v, h2, h3⟩ := q.at_ i x hx
        exact ⟨v, h2, Rep.hide hD x v h3⟩⟩
    · rintro i m H2 ⟨ρ2, S2, acc, vs, e2, hR2, hD2, ra, hE2, rfl, hi2, h2⟩
      have hl := ra.length
      by_cases hlt : i < all.length
      · have hd : all.drop i = all[i] :: all.drop (i + 1) := List.drop_eq_getElem_cons hlt
        rw [hd] at h2
        unfold lcGo at h2
        split at h2
        · rename_i hit
          refine .inr ⟨src.go ρ2 (ρ2.hide D) S2 H2 all i e2 (.inr ⟨D, hD, rfl⟩) hR2 hit hlt, fun H' => ∃ ρ S acc vs, Ext ρ1 H1 ρ H' ∧ Rel G.w G.K (ρ.hide D) S H' ∧ H' D = some (.lst vs) ∧ Reps G.K (ρ.hide D) H' acc vs ∧ EnvR G.K (ρ.hide D) H' (wipeE env own) (L2.wipe σ own) ∧
            Aft G E ρ1 H1 ((lcGo it all g mt me (wipeE env own) (all.drop (i + 1)) acc S).bind fin) (kV G Q), ?_, ?_⟩
          · rintro H' ⟨ρ3, S3, acc3, vs3, e3, hR3, hD3, ra3, hE3, h3⟩
            exact ⟨all.length - (i + 1), by omega, ρ3, S3, acc3, vs3, e3, hR3, hD3, ra3, hE3, rfl, hlt, h3⟩
          · intro x H' yd
            obtain ⟨e3, hR3, y, hy, ry⟩ := src.yld ρ2 (ρ2.hide D) S2 H2 all i x H' e2 (.inr ⟨D, hD, rfl⟩) hR2 hit hlt yd
            rw [List.getElem?_eq_getElem hlt] at hy
            cases hy
            cases hg1 : g all[i] (wipeE env own) S2 with
            | exc _ _ => simp only [hg1] at h2; exact h2.elim
            | bad => simp only [hg1] at h2; exact h2.elim
            | ok env4 S4 =>
              simp only [hg1, R.nox_ok, R.bind_ok] at h2
              refine hg _ _ _ _ ⟨ρ2.hide D, S2, wipeE env own, all[i], hR3, hE2.ext e3, ry, ?_⟩
              rw [hg1]
              intro ρ4' H4 e4 hR4 σ4 hE4 w4
              obtain ⟨ρ4, rfl, f4⟩ := e4.ofHide
              refine ⟨(w4 own hown).trans (wipe_wipe σ own), ht _ _ _ ⟨ρ4.hide D, S4, env4, hR4, hE4, ?_⟩⟩
              cases ht1 : mt env4 S4 with
              | exc _ _ => simp only [ht1] at h2; exact h2.elim
              | bad => simp only [ht1] at h2; exact h2.elim
              | ok k S5 =>
                simp only [ht1, R.nox_ok, R.bind_ok] at h2
                intro ρ5' H5 e5 hR5
                obtain ⟨ρ5, rfl, f5⟩ := e5.ofHide
                have e35 : Ext (ρ2.hide D) H2 (ρ5.hide D) H5 := (e3.trans e4).trans e5
                obtain ⟨_, q5, f35⟩ := e35.ofHide
                cases k with
                | true =>
                  show te σ4 H5 _
                  simp only [if_true] at h2
                  cases he1 : me env4 S5 with
                  | exc _ _ => simp only [he1] at h2; exact h2.elim
                  | bad => simp only [he1] at h2; exact h2.elim
                  | ok z S6 =>
                    simp only [he1, R.nox_ok, R.bind_ok] at h2
                    refine he _ _ _ ⟨ρ5.hide D, S5, env4, hR5, hE4.ext e5, ?_⟩
                    rw [he1]
                    intro ρ6' H6 e6 hR6 u ru
                    obtain ⟨ρ6, rfl, f6⟩ := e6.ofHide
                    have e26 : Ext (ρ2.hide D) H2 (ρ6.hide D) H6 := e35.trans e6
                    have nD : D ∉ ρ2.lb := (hR2.hd D (List.mem_cons_self ..)).2
                    have hD6 : H6 D = some (.lst vs) := e26.keep D _ hD2 Plain.lst.1 nD
                    by_cases hlim : acc.length < lim
                    · rw [if_pos hlim] at h2
                      have mD : D ∈ (ρ6.hide D).hid := List.mem_cons_self ..
                      have e16 : Ext ρ1 H1 ρ6 H6 := by
                        refine ⟨?_, ?_, fun a o ha nt n => ?_, fun a ha => e2.dom a (e26.dom a ha), fun a od u ha => e26.fz a od u (e2.fz a od u ha)⟩
                        · exact (e2.trans (⟨e26.more, by have := e26.hid; simpa [Rho.hide] using this, e26.keep, e26.dom, e26.fz⟩ : Ext ρ2 H2 ρ6 H6)).more
                        · exact (e2.trans (⟨e26.more, by have := e26.hid; simpa [Rho.hide] using this, e26.keep, e26.dom, e26.fz⟩ : Ext ρ2 H2 ρ6 H6)).hid
                        · exact (e2.trans (⟨e26.more, by have := e26.hid; simpa [Rho.hide] using this, e26.keep, e26.dom, e26.fz⟩ : Ext ρ2 H2 ρ6 H6)).keep a o ha nt n
                      refine ⟨vs, hD6, by rw [← hl]; exact lim_lt hlim, ρ6, S6, acc ++ [z], vs ++ [u], e16.wr hD, hR6.hw mD, upd_same, ?_, ?_, h2⟩
                      · exact Reps.hw mD _ _ ((Reps.ext e26 _ _ ra).append (.cons ru .nil))
                      · have q := hE2.ext e26
                        exact ⟨q.len, fun i x hx => by
                          obtain ⟨v, h3, h4⟩ := q.at_ i x hx
                          exact ⟨v, h3, Rep.hw mD x v h4⟩⟩
                    · rw [if_neg hlim] at h2
                      exact h2.elim
                | false =>
                  simp only [Bool.false_eq_true, if_false] at h2
                  have nD : D ∉ ρ2.lb := (hR2.hd D (List.mem_cons_self ..)).2
                  exact ⟨ρ5, S5, acc, vs, e2.trans (⟨e35.more, by have := e35.hid; simpa [Rho.hide] using this, e35.keep, e35.dom, e35.fz⟩ : Ext ρ2 H2 ρ5 H5), hR5, e35.keep D _ hD2 Plain.lst.1 nD, Reps.ext e35 _ _ ra, hE2.ext e35, h2⟩
        · exact h2.elim
      · have e : i = all.length := by omega
        subst e
        rw [List.drop_length] at h2
        unfold lcGo at h2
        split at h2
        · rename_i hit
          have nD : D ∉ ρ2.lb := (hR2.hd D (List.mem_cons_self ..)).2
          refine .inl ⟨src.stop ρ2 (ρ2.hide D) S2 H2 all e2 (.inr ⟨D, hD, rfl⟩) hR2 hit, ?_⟩
          exact hfin ρ1 H1 ρ2 S1 S2 H2 D acc vs hD hR1 e2 hR2 hD2 nD ra h2
        · exact h2.elim
theorem lc_read {wi : TI} {tt : TT} {te : TE} {tg' : TG} {own : List Nat} {mt : XB} {me : XE} {σ : L2.St} {H : Hp} {Q : VK} (hw : ∀ σ H R, tII G E mi σ H R → wi σ H R) (hg : ∀ v σ H Q, tIG G E0 is g v σ H Q → tg' v σ H Q) (ht : ∀ σ H Q, tIB G E0 mt σ H Q → tt σ H Q) (he : ∀ σ H Q, tI G E0 me σ H Q → te σ H Q) (hown : ∀ i ∈ is, i ∈ own)
    (h : tI G E (eLc mi g mt me own) σ H Q) : tLc wi tg' tt te own σ H Q := lc_readF fin_ls hw hg ht he hown h
theorem _root_.L2.PTs.imp {X : Cx} {e : List Expr} {t u : TT} (h : PTs X e t) (m : ∀ σ H Q, u σ H Q → t σ H Q) : PTs X e u := ⟨fun pins s σ H Q I q => h.run pins s σ H Q I (m σ H Q q)⟩
theorem ts_nil : PTs X [] (tIB G E bYes) := pts_nil.imp fun σ H Q h => by
  obtain ⟨ρ, S, env, hR, hE, h⟩ := h
  exact h.ok hR
theorem ts_one {c : Expr} {t : XB} (h : PT X c (tIB G E t)) : PTs X [c] (tIB G E t) := pts_one h
theorem i_lc {elt tg iter : Expr} {ifs : List Expr} {scope : Scope} {own : List (Str × Nat)} {pos : Pos} {mt : XB} {me : XE} (hc : X.calm = true) (hN : X.N.Nodup) (hi : PI X tg iter (tII G E mi)) (ok : BlkOk X.N X.env.scope scope own)
    (hg : ∀ (s : Shared) (H : Hp) (C : Addr) (cl : List (Str × Addr)) (fp : List Addr), PG (X.blk s H scope (compEnvC scope cl C X.env) fp) tg (tIG G E0 is g)) (ht : ∀ (s : Shared) (H : Hp) (C : Addr) (cl : List (Str × Addr)) (fp : List Addr), PTs (X.blk s H scope (compEnvC scope cl C X.env) fp) ifs (tIB G E0 mt))
    (he : ∀ (s : Shared) (H : Hp) (C : Addr) (cl : List (Str × Addr)) (fp : List Addr), PE (X.blk s H scope (compEnvC scope cl C X.env) fp) elt (tI G E0 me)) (hown : ∀ i ∈ is, i ∈ own.map (·.2) := by decide) (hs : ∀ x, foldedSetIterable iter X.env x = pure x := by intro _; rfl) :
    PE X (.ListComp elt [⟨tg, iter, ifs, 0⟩] scope pos) (tI G E (eLc mi g mt me (own.map (·.2)))) :=
  (pe_lc hc hN hi ok hg ht he hs).imp fun σ H Q h => lc_read (fun _ _ _ q => q) (fun _ _ _ _ q => q) (fun _ _ _ q => q) (fun _ _ _ q => q) hown h
/-- name = [..] on one line, the name a local -/
theorem s_setLc {i : Nat} {y : Str} {py : Pos} {elt tg iter : Expr} {ifs : List Expr} {scope : Scope} {own : List (Str × Nat)} {pos spos : Pos} {mt : XB} {me : XE} (hc : X.calm = true) (hN : X.N.Nodup) (hy : X.N[i]? = some y) (hyl : X.env.scope.names.lookup y = some .local)
    (hsw : swapsWith (.ListComp elt [⟨tg, iter, ifs, 0⟩] scope pos) (some (.Name y py)) spos.line X.env = pure true) (hi : PI X tg iter (tII G E mi)) (ok : BlkOk X.N X.env.scope scope own)
    (hg : ∀ (s : Shared) (H : Hp) (C : Addr) (cl : List (Str × Addr)) (fp : List Addr), PG (X.blk s H scope (compEnvC scope cl C X.env) fp) tg (tIG G E0 is g)) (ht : ∀ (s : Shared) (H : Hp) (C : Addr) (cl : List (Str × Addr)) (fp : List Addr), PTs (X.blk s H scope (compEnvC scope cl C X.env) fp) ifs (tIB G E0 mt))
    (he : ∀ (s : Shared) (H : Hp) (C : Addr) (cl : List (Str × Addr)) (fp : List Addr), PE (X.blk s H scope (compEnvC scope cl C X.env) fp) elt (tI G E0 me)) (hown : ∀ i ∈ is, i ∈ own.map (·.2) := by decide) (hs : ∀ x, foldedSetIterable iter X.env x = pure x := by intro _; rfl) :
    PS X (.Assign [.Name y py] (.ListComp elt [⟨tg, iter, ifs, 0⟩] scope pos) spos) (tIS G E (sAsg (eLc mi g mt me (own.map (·.2))) (gNm i))) :=
  (ps_setLc hc hN hy hyl hsw hi ok hg ht he hs).imp fun D σ H h => by
    obtain ⟨ρ, S, env, hR, hE, h⟩ := h
    refine lc_read (Q := fun x H1 => gName i x σ H1 D.nx) (fun _ _ _ q => q) (fun _ _ _ _ q => q) (fun _ _ _ q => q) (fun _ _ _ q => q) hown ⟨ρ, S, env, hR, hE, h.step fun ρ1 S1 H1 x e1 hR1 h1 v rv => ?_⟩
    exact h1.ok hR1 _ ((hE.ext e1).set i rv)
end
end

/-! Mini5 -/
/-! Mini5: subscripts, displays, what is built in, stores, attributes. -/
section
open PySem L2
section
variable {w : World} {K : PySem.W.Frag} {ρ : Rho} {H : Hp}
theorem Reps.atI {xs : List PV} {vs : List V} (r : Reps K ρ H xs vs) {i : Int} {x : PV} (h : L2.atI xs i = some x) : ∃ v, L2.atI vs i = some v ∧ Rep K ρ H x v := by
  unfold L2.atI at h ⊢
  rw [← r.length]
  cases e : ixN xs.length i with
  | none => rw [e] at h; cases h
  | some j =>
    rw [e] at h
    exact r.get h
theorem keysV_look : ∀ {ks : List Str} {xs : List PV} {vs : List V}, Reps K ρ H xs vs → ks.length = xs.length → ∀ k, match lookS ks xs k with
    | some x => ∃ v, valV (keysV ks vs) (.inr k) = some v ∧ Rep K ρ H x v
    | none => valV (keysV ks vs) (.inr k) = none
  | [], [], _, r, _, k => by unfold Reps at r; subst r; rfl
  | k0 :: ks, x0 :: xs, _, r, hl, k => by
    obtain ⟨v, s, rfl, h1, h2⟩ := r.uncons
    have ih := keysV_look h2 (by simpa using hl) k
    have e : keysV (k0 :: ks) (v :: s) = (.inr k0, v) :: keysV ks s := rfl
    unfold lookS
    by_cases hk : k0 = k
    · subst hk
      rw [if_pos rfl, e]
      exact ⟨v, valV_pos rfl, h1⟩
    · rw [if_neg hk, e, valV_neg (fun z => hk (Sum.inr.inj z))]
      exact ih
  | [], _ :: _, _, _, hl, _ => by simp at hl
  | _ :: _, [], _, _, hl, _ => by simp at hl
theorem dks_of {S : Store} (q : Rel w K ρ S H) {x : PV} {v : V} {ks : List Str} {xs : List PV} (r : Rep K ρ H x v) (h : dksOf S x = some (ks, xs)) : ∃ a vs, v = .ref a ∧ Rd H a (.dK (keysV ks vs)) ∧ ks.length = xs.length ∧ Reps K ρ H xs vs := by
  cases x with
  | dc ks' ys =>
    unfold Rep at r
    obtain ⟨a, vs, rfl, ⟨h1, _⟩, hl, _, h2⟩ := r
    cases h
    exact ⟨a, vs, rfl, h1, hl, h2⟩
  | loc l =>
    unfold Rep at r
    obtain ⟨a, h1, rfl⟩ := r
    obtain ⟨c, hc, ca⟩ := q.cell h1
    simp only [dksOf, hc] at h
    cases c with
    | dks ks' ys =>
      cases h
      obtain ⟨vs, h1, hl, _, h2⟩ := ca
      exact ⟨a, vs, rfl, .inl h1, hl, h2⟩
    | _ => cases h
  | _ => cases h
end
section
variable {G : Gx} {E : XK} {X : Cx} {a b c e o i : Expr} {ma mb mc me mo mi : XE} {pos : Pos}
/-! ### o[i] -/
def rIxD1 : R2 := fun x y H Q => ∃ a v, x = .ref a ∧ DGet H a y (some v) ∧ Q v H
theorem ix_dict1 (hu : X.A.units + 1 < cLine) : IxR X rIxD1 := by
  rintro value slice pins s σ H x y _ u Q I rx ry ⟨a, r, rfl, g, q⟩ hs
  cases rx
  exact PyProof.Rows.tail_any (dict_typeIs I g) PySem.F.slot_dict_getitem.lookup (d_getItem hu I g ry fun w' s3 I3 rw' => ⟨r, H, I3, rw', q⟩) hs
def rIxU (K : PySem.W.Frag) : R2 := fun x y H Q => rIxL K x y H Q ∨ (rIxT K x y H Q ∨ rIxD1 x y H Q)
theorem sd_ix : Sd2 G E (rIxU G.K) oIx := fun ρ S H x y v u Q q rx ry h => by
  unfold oIx at h
  split at h
  · split at h
    · rename_i xs hx
      split at h
      · rename_i z hz
        obtain ⟨a, vs, rfl, h1, h2⟩ := seq_of q rx hx
        obtain ⟨w, hw, rw'⟩ := h2.atI hz
        rw [ry.int_of]
        rcases h1 with h1 | h1
        · exact .inl ⟨a, vs, _, w, rfl, rfl, h1, hw, h.ok q _ rw'⟩
        · exact .inr (.inl ⟨a, vs, _, w, rfl, rfl, h1, hw, h.ok q _ rw'⟩)
      · exact h.elim
    · exact h.elim
  · split at h
    · rename_i k _ ks vs hk
      split at h
      · rename_i z hz
        obtain ⟨p, us, rfl, hp, hl, hr⟩ := dks_of q rx hk
        have q1 := keysV_look hr hl k
        rw [hz] at q1
        obtain ⟨w, hw, rw'⟩ := q1
        rw [ry.str_of]
        exact .inr (.inr ⟨p, w, rfl, .inl ⟨_, .inr k, hp, rfl, hw.symm⟩, h.ok q _ rw'⟩)
      · exact h.elim
    · exact h.elim
  · exact h.elim
theorem i_ix (hu : X.A.units + 1 < cLine) (ha : PE X a (tI G E ma)) (hb : PE X b (tI G E mb)) (hs : PlainIx b := by intro _ _; rfl) (hK : X.K = G.K := by rfl) : PE X (.Subscript a b pos) (tI G E (eOp oIx ma mb)) :=
  (pe_ix (IxR.or ix_list (IxR.or ix_tup (ix_dict1 hu))) ha hb hs).imp fun σ H Q h => by
    obtain ⟨ρ, S, env, hR, hE, h⟩ := h
    rw [hK]
    exact two hR hE h fun ρ' S' H' x y v u e' hR' rv ru h' => sd_ix ρ' S' H' x y v u Q hR' rv ru h'
/-! ### slices -/
theorem Reps.cut {K : PySem.W.Frag} {ρ : Rho} {H : Hp} {xs : List PV} {vs : List V} (r : Reps K ρ H xs vs) (lo hi : Option Int) : Reps K ρ H (cut xs lo hi) (cutV vs lo hi) := by
  unfold LW.cut cutV
  rw [r.length]
  exact (r.drop _).take _
def rSlU (K : PySem.W.Frag) : V → Option Int → Option Int → Hp → VK → Prop := fun x lo hi H Q => rSlA K x lo hi H Q ∨ rSlL K x lo hi H Q
theorem sd_cut {ρ : Rho} {S : Store} {H : Hp} {x : PV} {v : V} {lo hi : Option Int} {Q : VK} (q : Rel G.w G.K ρ S H) (rx : Rep G.K ρ H x v) (h : Aft G E ρ H (oCut x lo hi S) (kV G Q)) : rSlU G.K v lo hi H Q := by
  cases x with
  | tup xs =>
    have rx' := rx
    unfold Rep at rx
    obtain ⟨a, vs, rfl, t1, r1⟩ := rx
    refine .inl ⟨a, vs, rfl, t1.sq, fun hw => ?_, fun _ => put_tup q (r1.cut lo hi) h⟩
    have e : cut xs lo hi = xs := by
      unfold cut
      rw [← r1.length] at hw
      rw [hw.1, hw.2, List.drop_zero, Nat.sub_zero, List.take_length]
    have h : Aft G E ρ H (.ok (.tup (cut xs lo hi)) S) (kV G Q) := h
    rw [e] at h
    exact h.ok q _ rx'
  | ls xs =>
    unfold Rep at rx
    obtain ⟨a, vs, rfl, ⟨h1, _⟩, h2⟩ := rx
    exact .inr ⟨a, vs, rfl, SqL.of h1, put_ls q (h2.cut lo hi) h⟩
  | loc l =>
    unfold Rep at rx
    obtain ⟨a, h1, rfl⟩ := rx
    obtain ⟨c, hc, ca⟩ := q.cell h1
    simp only [oCut, lstOf, hc] at h
    cases c with
    | lst ys =>
      obtain ⟨vs, h1, h2⟩ := ca
      exact .inr ⟨a, vs, rfl, SqL.of h1, put_ls q (h2.cut lo hi) h⟩
    | _ => exact h.elim
  | _ => exact h.elim
theorem _root_.L2.PO.imp {X : Cx} {e : Option Expr} {t u : TO} (h : PO X e t) (m : ∀ σ H Q, u σ H Q → t σ H Q) : PO X e u := ⟨fun pins s σ H Q I q => h.run pins s σ H Q I (m σ H Q q)⟩
def tIO (G : Gx) (E : XK) (m : Option XE) : TO := fun σ H Q => ∃ ρ S env, Rel G.w G.K ρ S H ∧ EnvR G.K ρ H env σ ∧ Aft G E ρ H (ePart m env S) (fun _ _ H' o => Q o H')
theorem o_none : PO X none (tIO G E none) := po_none.imp fun σ H Q h => by
  obtain ⟨ρ, S, env, hR, hE, h⟩ := h
  exact h.ok hR
theorem o_some (h : PE X e (tI G E me)) : PO X (some e) (tIO G E (some me)) := (po_some h).imp fun σ H Q h => by
  obtain ⟨ρ, S, env, hR, hE, h⟩ := h
  refine ⟨ρ, S, env, hR, hE, h.step fun ρ1 S1 H1 x e1 hR1 h1 v rv => ?_⟩
  split at h1
  · rw [rv.int_of]
    exact ⟨_, rfl, h1.ok hR1⟩
  · exact h1.elim
theorem i_cut {lo hi : Option Expr} {ml mh : Option XE} {p2 : Pos} (he : PE X e (tI G E me)) (hl : PO X lo (tIO G E ml)) (hh : PO X hi (tIO G E mh)) (hK : X.K = G.K := by rfl) : PE X (.Subscript e (.Slice lo hi none p2) pos) (tI G E (eCut me ml mh)) :=
  (pe_slice (SlR.or sl_tupA sl_list) he hl hh).imp fun σ H Q h => by
    obtain ⟨ρ, S, env, hR, hE, h⟩ := h
    rw [hK]
    refine ⟨ρ, S, env, hR, hE, h.step fun ρ1 S1 H1 x e1 hR1 h1 v rv => ?_⟩
    refine ⟨ρ1, S1, env, hR1, hE.ext e1, h1.step fun ρ2 S2 H2 i e2 hR2 h2 => ?_⟩
    refine ⟨ρ2, S2, env, hR2, (hE.ext e1).ext e2, h2.step fun ρ3 S3 H3 j e3 hR3 h3 => ?_⟩
    exact sd_cut hR3 (Rep.ext e3 _ _ (Rep.ext e2 _ _ rv)) h3
/-! ### displays -/
variable {es : List Expr} {ms : XA}
theorem i_tup {x1} (h : PA X es (tIA G E ms)) : PE X (.Tuple es x1 pos) (tI G E (eTup ms)) := (pe_tup h).imp fun σ H Q h => by
  obtain ⟨ρ, S, env, hR, hE, h⟩ := h
  refine ⟨ρ, S, env, hR, hE, h.step fun ρ1 S1 H1 xs e1 hR1 h1 vs rvs => ?_⟩
  split at h1
  · rename_i hl
    exact ⟨by rw [← rvs.length]; exact lim_le hl, put_tup hR1 rvs h1⟩
  · exact h1.elim
theorem i_ls (h : PA X es (tIA G E ms)) : PE X (.List es pos) (tI G E (eLs ms)) := (pe_lst h).imp fun σ H Q h => by
  obtain ⟨ρ, S, env, hR, hE, h⟩ := h
  refine ⟨ρ, S, env, hR, hE, h.step fun ρ1 S1 H1 xs e1 hR1 h1 vs rvs => ?_⟩
  split at h1
  · rename_i hl
    exact ⟨by rw [← rvs.length]; exact lim_le hl, put_ls hR1 rvs h1⟩
  · exact h1.elim
theorem i_new (h : PA X es (tIA G E ms)) : PE X (.List es pos) (tI G E (eNew ms)) := (pe_lst h).imp fun σ H Q h => by
  obtain ⟨ρ, S, env, hR, hE, h⟩ := h
  refine ⟨ρ, S, env, hR, hE, h.step fun ρ1 S1 H1 xs e1 hR1 h1 vs rvs => ?_⟩
  split at h1
  · rename_i hl
    exact ⟨by rw [← rvs.length]; exact lim_le hl, put_new hR1 rvs h1⟩
  · exact h1.elim
/-! ### what is built in -/
def SdB (G : Gx) (E : XK) (r : List V → Hp → VK → Prop) (f : Bf) : Prop := ∀ ρ S H xs vs Q, Rel G.w G.K ρ S H → Reps G.K ρ H xs vs → Aft G E ρ H (f xs S) (kV G Q) → r vs H Q
theorem tcb {r : List V → Hp → VK → Prop} {f : Bf} (sf : SdB G E r f) (σ : L2.St) (H : Hp) (Q : VK) (h : tI G E (eBf f ms) σ H Q) : tCB r (tIA G E ms) σ H Q := by
  obtain ⟨ρ, S, env, hR, hE, h⟩ := h
  exact ⟨ρ, S, env, hR, hE, h.step fun ρ1 S1 H1 xs e1 hR1 h1 vs rvs => sf ρ1 S1 H1 xs vs Q hR1 rvs h1⟩
theorem i_bf {x : Str} {p : Pos} {id : String} {r : List V → Hp → VK → Prop} {f : Bf} (hc : CallR X (.builtin id) r) (sf : SdB G E r f) (hg : Gl X x) (hm : X.mg x = none) (hv : bootBuiltins x = some (.builtin id)) (ha : PA X (e :: es) (tIA G E ms)) (hn : x ≠ "__name__" := by decide) (hdb : (x == ("__debug__" : Str)) = false := by decide)
    (he : starEach (e :: es) X.env = (false, eval e X.env) :: starEach es X.env := by rfl) (hpl : (backTo pos (starEach es X.env)).any (·.1) = false := by rfl) : PE X (.Call (.Name x p) (e :: es) [] pos) (tI G E (eBf f ms)) :=
  (pe_callB hc hg hm hv ha hn hdb he hpl).imp fun σ H Q h => tcb sf σ H Q h
theorem i_ty {x : Str} {p : Pos} {T : String} {r : List V → Hp → VK → Prop} {f : Bf} (hc : CallR X (.type T) r) (sf : SdB G E r f) (hg : Gl X x) (hm : X.mg x = none) (hv : bootBuiltins x = some (.type T)) (ha : PA X (e :: es) (tIA G E ms)) (hn : x ≠ "__name__" := by decide) (hdb : (x == ("__debug__" : Str)) = false := by decide)
    (he : starEach (e :: es) X.env = (false, eval e X.env) :: starEach es X.env := by rfl) (hpl : (backTo pos (starEach es X.env)).any (·.1) = false := by rfl) : PE X (.Call (.Name x p) (e :: es) [] pos) (tI G E (eBf f ms)) :=
  (pe_callTy hc hg hm hv ha hn hdb he hpl).imp fun σ H Q h => tcb sf σ H Q h
theorem one_of {K : PySem.W.Frag} {ρ : Rho} {H : Hp} {x : PV} {vs : List V} (r : Reps K ρ H [x] vs) : ∃ v, vs = [v] ∧ Rep K ρ H x v := by
  obtain ⟨v, s, rfl, h1, h2⟩ := r.uncons
  unfold Reps at h2
  exact ⟨v, by rw [h2], h1⟩
theorem two_of {K : PySem.W.Frag} {ρ : Rho} {H : Hp} {x y : PV} {vs : List V} (r : Reps K ρ H [x, y] vs) : ∃ v u, vs = [v, u] ∧ Rep K ρ H x v ∧ Rep K ρ H y u := by
  obtain ⟨v, s, rfl, h1, h2⟩ := r.uncons
  obtain ⟨u, rfl, h3⟩ := one_of h2
  exact ⟨v, u, rfl, h1, h3⟩
def rLenU (K : PySem.W.Frag) : List V → Hp → VK → Prop := fun xs H Q => ∃ p ys, xs = [.ref p] ∧ (SqL K H p ys ∨ SqT K H p ys) ∧ Q (.int ys.length) H
theorem call_lenU : CallR X (.builtin "len") (rLenU X.K) := call_len_seq
theorem sd_len : SdB G E (rLenU G.K) bLen := fun ρ S H xs vs Q q r h => by
  unfold bLen at h
  split at h
  · split at h
    · rename_i ys hy
      obtain ⟨v, rfl, r1⟩ := one_of r
      obtain ⟨a, us, rfl, h1, h2⟩ := seq_of q r1 hy
      refine ⟨a, us, rfl, h1, ?_⟩
      rw [← h2.length]
      exact h.ok q _ Rep.int
    · exact h.elim
  · exact h.elim
def rListU (K : PySem.W.Frag) : List V → Hp → VK → Prop := fun xs H Q => ∃ p ys, xs = [.ref p] ∧ (SqL K H p ys ∨ SqT K H p ys) ∧ ∀ l, H l = none → Q (.ref l) (upd H l (.lst ys))
theorem call_listU : CallR X (.type "list") (rListU X.K) := call_list_of
theorem sd_list : SdB G E (rListU G.K) bList := fun ρ S H xs vs Q q r h => by
  unfold bList at h
  split at h
  · split at h
    · rename_i ys hy
      obtain ⟨v, rfl, r1⟩ := one_of r
      obtain ⟨a, us, rfl, h1, h2⟩ := seq_of q r1 hy
      exact ⟨a, us, rfl, h1, put_ls q h2 h⟩
    · exact h.elim
  · exact h.elim
theorem sd_listN : SdB G E (rListU G.K) bListN := fun ρ S H xs vs Q q r h => by
  unfold bListN at h
  split at h
  · split at h
    · rename_i ys hy
      obtain ⟨v, rfl, r1⟩ := one_of r
      obtain ⟨a, us, rfl, h1, h2⟩ := seq_of q r1 hy
      exact ⟨a, us, rfl, h1, put_new q h2 h⟩
    · exact h.elim
  · exact h.elim
def rTupleU (K : PySem.W.Frag) : List V → Hp → VK → Prop := fun xs H Q => ∃ p ys, xs = [.ref p] ∧ ((SqL K H p ys ∧ ∀ l, H l = none → Q (.ref l) (upd H l (.tup ys))) ∨ (SqT K H p ys ∧ Q (.ref p) H))
theorem call_tupleU : CallR X (.type "tuple") (rTupleU X.K) := call_tuple_of
theorem sd_tuple : SdB G E (rTupleU G.K) bTuple := fun ρ S H xs vs Q q r h => by
  unfold bTuple at h
  split at h
  · split at h
    · rename_i x _ ys hy
      obtain ⟨v, rfl, r1⟩ := one_of r
      cases x with
      | tup zs =>
        cases hy
        have r2 := r1
        unfold Rep at r1
        obtain ⟨a, us, rfl, t1, r3⟩ := r1
        exact ⟨a, us, rfl, .inr ⟨t1.sq, h.ok q _ r2⟩⟩
      | ls zs =>
        cases hy
        unfold Rep at r1
        obtain ⟨a, us, rfl, ⟨h1, _⟩, r3⟩ := r1
        exact ⟨a, us, rfl, .inl ⟨SqL.of h1, put_tup q r3 h⟩⟩
      | fz zs =>
        cases hy
        unfold Rep at r1
        obtain ⟨a, us, rfl, h1, r3⟩ := r1
        exact ⟨a, us, rfl, .inl ⟨h1.sq, put_tup q r3 h⟩⟩
      | loc l =>
        unfold Rep at r1
        obtain ⟨a, h1, rfl⟩ := r1
        obtain ⟨c, hc, ca⟩ := q.cell h1
        simp only [seqOf, hc] at hy
        cases c with
        | lst zs =>
          cases hy
          obtain ⟨us, h2, r3⟩ := ca
          exact ⟨a, us, rfl, .inl ⟨SqL.of h2, put_tup q r3 h⟩⟩
        | _ => cases hy
      | _ => cases hy
    · exact h.elim
  · exact h.elim
def rStrU : List V → Hp → VK → Prop := fun xs H Q => ∃ i, xs = [.int i] ∧ i.natAbs.log2 < 1920 ∧ Q (.str (toString i : String)) H
theorem call_strU : CallR X (.type "str") rStrU := call_str_int
theorem sd_str : SdB G E rStrU bStr := fun ρ S H xs vs Q q r h => by
  unfold bStr at h
  split at h
  · split at h
    · rename_i i hl
      obtain ⟨v, rfl, r1⟩ := one_of r
      rw [r1.int_of]
      exact ⟨i, rfl, hl, h.ok q _ Rep.str⟩
    · exact h.elim
  · exact h.elim
def rIntU : List V → Hp → VK → Prop := fun xs H Q => (∃ i, xs = [.int i] ∧ Q (.int i) H) ∨ ∃ k, xs = [.bl k] ∧ Q (.int (if k then 1 else 0)) H
theorem call_intU : CallR X (.type "int") rIntU := call_int1
theorem sd_int : SdB G E rIntU bInt := fun ρ S H xs vs Q q r h => by
  unfold bInt at h
  split at h
  · obtain ⟨v, rfl, r1⟩ := one_of r
    rw [r1.int_of]
    exact .inl ⟨_, rfl, h.ok q _ Rep.int⟩
  · obtain ⟨v, rfl, r1⟩ := one_of r
    rw [r1.bl_of]
    exact .inr ⟨_, rfl, h.ok q _ Rep.int⟩
  · exact h.elim
def rMaxU : List V → Hp → VK → Prop := fun xs H Q => ∃ i j, xs = [.int i, .int j] ∧ Q (.int (if j > i then j else i)) H
theorem call_maxU (hc : X.calm = true) : CallR X (.builtin "max") rMaxU := call_max2 hc
theorem sd_max : SdB G E rMaxU bMax := fun ρ S H xs vs Q q r h => by
  unfold bMax at h
  split at h
  · obtain ⟨v, u, rfl, r1, r2⟩ := two_of r
    rw [r1.int_of, r2.int_of]
    exact ⟨_, _, rfl, h.ok q _ Rep.int⟩
  · exact h.elim
def rMinU : List V → Hp → VK → Prop := fun xs H Q => ∃ i j, xs = [.int i, .int j] ∧ Q (.int (if j < i then j else i)) H
theorem call_minU (hc : X.calm = true) : CallR X (.builtin "min") rMinU := call_min2 hc
theorem sd_min : SdB G E rMinU bMin := fun ρ S H xs vs Q q r h => by
  unfold bMin at h
  split at h
  · obtain ⟨v, u, rfl, r1, r2⟩ := two_of r
    rw [r1.int_of, r2.int_of]
    exact ⟨_, _, rfl, h.ok q _ Rep.int⟩
  · exact h.elim
theorem bools_of {K : PySem.W.Frag} {ρ : Rho} {H : Hp} : ∀ {xs : List PV} {vs : List V} {ks : List Bool}, Reps K ρ H xs vs → bools xs = some ks → vs = ks.map V.bl
  | [], _, _, r, h => by
    unfold Reps at r
    cases h
    exact r
  | x :: xs, _, ks, r, h => by
    obtain ⟨v, s, rfl, h1, h2⟩ := r.uncons
    cases x with
    | bl k =>
      unfold bools at h
      cases e : bools xs with
      | none => rw [e] at h; cases h
      | some js =>
        rw [e] at h
        cases h
        rw [h1.bl_of, bools_of h2 e]
        rfl
    | _ => cases h
/-- all, any: a list of truths -/
theorem sd_all : SdB G E (rAll G.K) bAll := fun ρ S H xs vs Q q r h => by
  unfold bAll at h
  split at h
  · rename_i x
    obtain ⟨v, rfl, r1⟩ := one_of r
    cases e : lstOf S x with
    | none => simp only [e, Option.bind] at h; exact h.elim
    | some ys =>
      simp only [e, Option.bind] at h
      split at h
      · rename_i ks hk
        obtain ⟨a, us, rfl, h1, h2⟩ := lst_of q r1 e
        have := bools_of h2 hk
        subst this
        exact ⟨a, ks, rfl, SqL.of h1, h.ok q _ Rep.bl⟩
      · exact h.elim
  · exact h.elim
theorem sd_any : SdB G E (rAny G.K) bAny := fun ρ S H xs vs Q q r h => by
  unfold bAny at h
  split at h
  · rename_i x
    obtain ⟨v, rfl, r1⟩ := one_of r
    cases e : lstOf S x with
    | none => simp only [e, Option.bind] at h; exact h.elim
    | some ys =>
      simp only [e, Option.bind] at h
      split at h
      · rename_i ks hk
        obtain ⟨a, us, rfl, h1, h2⟩ := lst_of q r1 e
        have := bools_of h2 hk
        subst this
        exact ⟨a, ks, rfl, SqL.of h1, h.ok q _ Rep.bl⟩
      · exact h.elim
  · exact h.elim
end
end

/-! Mini6 -/
/-! Mini6: isinstance, dicts with texts as keys, stores, attributes, methods of lists. -/
section
open PySem L2
section
variable {G : Gx} {E : XK} {X : Cx} {a b c e o i : Expr} {ma mb mc me mo mi : XE} {pos : Pos}
/-! ### isinstance -/
def Ty.name : Ty → String
  | .int => "int"
  | .bool => "bool"
  | .str => "str"
  | .tuple => "tuple"
  | .list => "list"
theorem tyx_of {ρ : Rho} {S : Store} {H : Hp} (q : Rel G.w G.K ρ S H) {x : PV} {v : V} {t0 : Ty} {k0 : Bool} (r : Rep G.K ρ H x v) (h : isTy S x t0 = some k0) : ∃ n, TyX G.K H v (.type n) ∧ ∀ t k, isTy S x t = some k → kitB n t.name = some k := by
  cases x with
  | non => rw [r.non_of]; exact ⟨_, .base .non, fun t k e => by cases e; cases t <;> decide +kernel⟩
  | bl y => rw [r.bl_of]; exact ⟨_, .base (.bl y), fun t k e => by cases e; cases t <;> decide +kernel⟩
  | int y => rw [r.int_of]; exact ⟨_, .base (.int y), fun t k e => by cases e; cases t <;> decide +kernel⟩
  | str y => rw [r.str_of]; exact ⟨_, .base (.str y), fun t k e => by cases e; cases t <;> decide +kernel⟩
  | tup xs =>
    unfold Rep at r
    obtain ⟨p, vs, rfl, h1, _⟩ := r
    rcases h1 with ⟨h1 | ⟨ob, h1⟩, _⟩ | ⟨ob, its, n, h1, h2, _⟩
    · exact ⟨_, .base (.tup h1), fun t k e => by cases e; cases t <;> decide +kernel⟩
    · exact ⟨_, .fTuple h1, fun t k e => by cases e; cases t <;> decide +kernel⟩
    · exact ⟨_, .kTuple h1 h2, fun t k e => by cases e; cases t <;> decide +kernel⟩
  | ls xs =>
    unfold Rep at r
    obtain ⟨p, vs, rfl, ⟨h1, _⟩, _⟩ := r
    exact ⟨_, .base (.lst h1), fun t k e => by cases e; cases t <;> decide +kernel⟩
  | fz xs =>
    unfold Rep at r
    obtain ⟨p, vs, rfl, h1, _⟩ := r
    rcases h1 with ⟨h1 | ⟨ob, h1⟩, _⟩ | ⟨ob, its, n, h1, h2, _⟩
    · exact ⟨_, .base (.lst h1), fun t k e => by cases e; cases t <;> decide +kernel⟩
    · exact ⟨_, .base (.frz h1), fun t k e => by cases e; cases t <;> decide +kernel⟩
    · exact ⟨_, .kList h1 h2, fun t k e => by cases e; cases t <;> decide +kernel⟩
  | dc ks xs => cases h
  | loc l =>
    unfold Rep at r
    obtain ⟨p, h1, rfl⟩ := r
    obtain ⟨c, hc, ca⟩ := q.cell h1
    simp only [isTy, hc] at h
    cases c with
    | lst ys =>
      obtain ⟨vs, h2, _⟩ := ca
      exact ⟨_, .base (.lst h2), fun t k e => by simp only [isTy, hc] at e; cases e; cases t <;> decide +kernel⟩
    | _ => cases h
theorem i_isa {t : Ty} {p p2 : Pos} {T : Str} (hg : Gl X "isinstance") (hm : X.mg "isinstance" = none) (hgT : Gl X T) (hmT : X.mg T = none) (hT : bootBuiltins T = some (.type t.name)) (ha : PE X a (tI G E ma)) (hK : X.K = G.K := by rfl)
    (hn : T ≠ "__name__" := by decide) (hd : (T == ("__debug__" : Str)) = false := by decide) (he : starEach [a, .Name T p2] X.env = (false, eval a X.env) :: starEach [.Name T p2] X.env := by rfl) (hs : starEach [.Name T p2] X.env = (false, eval (.Name T p2) X.env) :: starEach [] X.env := by rfl)
    (hpl : (backTo pos (starEach [.Name T p2] X.env)).any (·.1) = false := by rfl) : PE X (.Call (.Name "isinstance" p) [a, .Name T p2] [] pos) (tI G E (eIsa t ma)) :=
  (pe_callB call_isi hg hm (by decide +kernel) (pa_cons ha (pa_cons (pe_bltn (v := .ty t.name) hgT hmT hT rfl hn hd) pa_nil hs) he) (by decide) (by decide) he hpl).imp fun σ H Q h => by
    obtain ⟨ρ, S, env, hR, hE, h⟩ := h
    refine ⟨ρ, S, env, hR, hE, h.step fun ρ1 S1 H1 x e1 hR1 h1 v rv => ?_⟩
    split at h1
    · rename_i k hk
      obtain ⟨n, h2, h3⟩ := tyx_of hR1 rv hk
      rw [hK]
      exact ⟨v, .ty t.name, .type n, .type t.name, k, rfl, .ty _, h2, kit_ty (h3 t k hk), h1.ok hR1 _ Rep.bl⟩
    · exact h1.elim
/-! ### dicts with texts as keys -/
theorem i_get2 {f : Expr} {mf : XE} {apos cpos : Pos} (hu : X.A.units + 1 < cLine) (ho : PE X o (tI G E mo)) (he : PE X e (tI G E me)) (hf : PE X f (tI G E mf)) (m : M2 X o "get" apos e f cpos) : PE X (.Call (.Attribute o "get" apos) [e, f] [] cpos) (tI G E (eGet2 mo me mf)) :=
  (pe_dget2 hu ho he hf m).imp fun σ H Q h => by
    obtain ⟨ρ, S, env, hR, hE, h⟩ := h
    refine ⟨ρ, S, env, hR, hE, h.step fun ρ1 S1 H1 x e1 hR1 h1 v rv => ?_⟩
    split at h1
    · exact h1.elim
    · rename_i kv hkv
      obtain ⟨p, us, rfl, hp, hl, hr⟩ := dks_of hR1 rv hkv
      refine ⟨p, rfl, .inl ⟨_, hp⟩, ρ1, S1, env, hR1, hE.ext e1, h1.step fun ρ2 S2 H2 y e2 hR2 h2 u ru => ?_⟩
      refine ⟨ρ2, S2, env, hR2, (hE.ext e1).ext e2, h2.step fun ρ3 S3 H3 z e3 hR3 h3 w rw' => ?_⟩
      split at h3
      · rename_i k ks vs hk
        obtain ⟨p', us', e', hp', hl', hr'⟩ := dks_of hR3 (Rep.ext e3 _ _ (Rep.ext e2 _ _ rv)) hk
        cases e'
        rw [(Rep.ext e3 _ _ ru).str_of]
        refine ⟨_, .inl ⟨_, .inr k, hp', rfl, rfl⟩, ?_⟩
        have q := keysV_look hr' hl' k
        cases hz : lookS ks vs k with
        | none =>
          rw [hz] at q h3
          rw [q]
          exact h3.ok hR3 _ rw'
        | some z =>
          rw [hz] at q h3
          obtain ⟨w, hw, rw2⟩ := q
          rw [hw]
          exact h3.ok hR3 _ rw2
      · exact h3.elim
end
section
open PySem PySem.Spec PyProof.Rows
variable {X : Cx} {e : Expr}
/-- .. of a dict that the module's top has made -/
def tKGet (es : Array DictEntry) (ty : TE) : TE := fun σ H Q => ty σ H fun y H1 => ∃ k, y = .str k ∧ ∀ v, RelV v ((PySem.findBy Value.isStrOf es k).getD .none) → Q v H1
theorem pe_kget {x : Str} {p apos cpos : Pos} {a : Addr} {es : Array DictEntry} {n : Nat} {ty : TE} (hg : Gl X x) (hm : X.mg x = some (.ref a)) (hl : X.K.lookup a = some ⟨.type "dict", none, .dict es n, #[]⟩) (hk : PySem.W.KeysLit X.w.params es.toList) (hs : (a == sysModules) = false)
    (he : PE X e ty) (m : M1 X (.Name x p) "get" apos e cpos) (hd : (x == ("__debug__" : Str)) = false := by decide) (hv : ∀ k, ∃ v, RelV v ((PySem.findBy Value.isStrOf es k).getD .none)) : PE X (.Call (.Attribute (.Name x p) "get" apos) [e] [] cpos) (tKGet es ty) := by
  refine ⟨fun pins s σ H Q I h => ?_⟩
  refine wpAny_Call_method m.base m.few m.line PySem.F.plainAttrs_dict PySem.F.slot_dict_get PySem.F.type_dict_get (ld_glob I hg hm ?_ hd)
  have hM := PySem.W.mapOf_K (prog := X.prog) (w := X.w) I.kIn hl hk
  refine ⟨hM.typeIs, fun b q => ?_, ?_⟩
  · cases q
    exact ⟨_, I.kIn _ _ hl, rfl⟩
  · rw [m.trees]
    refine Calls.callWith_builtin rfl (Calls.evalArgs_plain (Calls.spliced_cons (thn (he.run pins s σ H _ I h) fun iv s2 ⟨y, H2, I2, ry, k, ey, q2⟩ => Calls.spliced_nil ?_)))
    subst ey
    obtain ⟨t, rfl⟩ := (show ∃ t, iv = Value.str k t from ry)
    have hM2 := PySem.W.mapOf_K (prog := X.prog) (w := X.w) I2.kIn hl hk
    obtain ⟨v, hv⟩ := hv k
    refine call_meetsIn PySem.F.slot_dict_get hM2.typeIs PySem.F.entry_dict_get (PySem.F.args_dict_get_2 _ _) (meets_dict_get (strKind X.prog X.w) a (strKind_is X.prog X.w k t) hs) ⟨_, hM2, ⟨v, H2, I2.tok _, hv, q2 v hv⟩⟩
end
end

/-! Mini7 -/
/-! Mini7: a dict of the top, dicts written out, stores, attributes, methods of lists. -/
section
open PySem L2
section
variable {w : World} {K : PySem.W.Frag} {ρ : Rho} {H : Hp} {S : Store}
theorem Out.adopt {p a : Addr} (h : (ρ.hide p).Out a) : (ρ.add p).Out a := by
  refine ⟨fun z => ?_, fun z => h.2 (List.mem_cons_of_mem _ z)⟩
  rcases List.mem_append.mp (show a ∈ ρ.lb ++ [p] from z) with z | z
  · exact h.1 z
  · exact h.2 (by rw [List.mem_singleton.mp z]; exact List.mem_cons_self)
mutual
theorem Rep.adopt {p : Addr} : ∀ (x : PV) (v : V), Rep K (ρ.hide p) H x v → Rep K (ρ.add p) H x v
  | .non, _, h => by unfold Rep at h ⊢; exact h
  | .bl _, _, h => by unfold Rep at h ⊢; exact h
  | .int _, _, h => by unfold Rep at h ⊢; exact h
  | .str _, _, h => by unfold Rep at h ⊢; exact h
  | .tup xs, v, h => by
    unfold Rep at h ⊢
    obtain ⟨a, vs, rfl, h1, h3⟩ := h
    refine ⟨a, vs, rfl, ?_, Reps.adopt xs vs h3⟩
    rcases h1 with ⟨h1, h2⟩ | h1
    · exact .inl ⟨h1, Out.adopt h2⟩
    · exact .inr h1
  | .ls xs, v, h => by
    unfold Rep at h ⊢
    obtain ⟨a, vs, rfl, ⟨h1, h2⟩, h3⟩ := h
    exact ⟨a, vs, rfl, ⟨h1, Out.adopt h2⟩, Reps.adopt xs vs h3⟩
  | .fz xs, v, h => by
    unfold Rep at h ⊢
    obtain ⟨a, vs, rfl, h1, h3⟩ := h
    refine ⟨a, vs, rfl, ?_, Reps.adopt xs vs h3⟩
    rcases h1 with ⟨h1, h2⟩ | h1
    · exact .inl ⟨h1, Out.adopt h2⟩
    · exact .inr h1
  | .dc ks xs, v, h => by
    unfold Rep at h ⊢
    obtain ⟨a, vs, rfl, ⟨h1, h2⟩, hl, hn, h3⟩ := h
    exact ⟨a, vs, rfl, ⟨h1, Out.adopt h2⟩, hl, hn, Reps.adopt xs vs h3⟩
  | .loc l, v, h => by
    unfold Rep at h ⊢
    obtain ⟨a, h1, rfl⟩ := h
    have h1 : ρ.lb[l]? = some a := h1
    refine ⟨a, ?_, rfl⟩
    show (ρ.lb ++ [p])[l]? = some a
    rw [List.getElem?_append_left (List.getElem?_eq_some_iff.mp h1).1]
    exact h1
theorem Reps.adopt {p : Addr} : ∀ (xs : List PV) (vs : List V), Reps K (ρ.hide p) H xs vs → Reps K (ρ.add p) H xs vs
  | [], _, h => by unfold Reps at h ⊢; exact h
  | x :: r, vs, h => by
    unfold Reps at h ⊢
    obtain ⟨v, s, rfl, h1, h2⟩ := h
    exact ⟨v, s, rfl, Rep.adopt x v h1, Reps.adopt r s h2⟩
end
theorem Flds.adopt {p : Addr} : ∀ {fs : List (Str × PV)} {gs : List (Str × V)}, Flds K (ρ.hide p) H fs gs → Flds K (ρ.add p) H fs gs
  | [], _, h => h
  | (f, x) :: r, _, h => by
    obtain ⟨v, s, rfl, h1, h2⟩ := h
    exact ⟨v, s, rfl, Rep.adopt x v h1, Flds.adopt h2⟩
/-- what was hidden joins the store -/
theorem Rel.adopt {p : Addr} {c : Cell} (q : Rel w K (ρ.hide p) S H) (nh : p ∉ ρ.hid) (hc : CellAt w K (ρ.add p) H c p) : Rel w K (ρ.add p) (S ++ [c]) H := by
  have np : p ∉ ρ.lb := (q.hd p (List.mem_cons_self ..)).2
  refine ⟨by simp [Rho.add]; exact q.len, ?_, fun l d a h1 h2 => ?_, fun a ha => ?_, q.tabs⟩
  · show (ρ.lb ++ [p]).Nodup
    rw [List.nodup_append]
    exact ⟨q.nd, by simp, fun a ha b hb e => np (by rw [List.mem_singleton.mp hb] at e; exact e ▸ ha)⟩
  · have h2 : (ρ.lb ++ [p])[l]? = some a := h2
    have ql : ρ.lb.length = S.length := q.len
    by_cases hl : l < S.length
    · rw [List.getElem?_append_left hl] at h1
      rw [List.getElem?_append_left (by rw [ql]; exact hl)] at h2
      have c1 := q.at_ l d a h1 h2
      cases d with
      | lst xs => obtain ⟨vs, h1, h2⟩ := c1; exact ⟨vs, h1, Reps.adopt _ _ h2⟩
      | dks ks xs => obtain ⟨vs, h1, h2, h3, h4⟩ := c1; exact ⟨vs, h1, h2, h3, Reps.adopt _ _ h4⟩
      | dki ks xs => obtain ⟨vs, h1, h2, h3, h4⟩ := c1; exact ⟨vs, h1, h2, h3, Reps.adopt _ _ h4⟩
      | fki ks xs => obtain ⟨od, vs, h1, h2, h3, h4⟩ := c1; exact ⟨od, vs, h1, h2, h3, Reps.adopt _ _ h4⟩
      | dkn ks xs => obtain ⟨kvs, h1, h2⟩ := c1; exact ⟨kvs, h1, h2.imp (fun x v _ _ => Rep.adopt x v) fun x v _ => Rep.adopt x v⟩
      | fkn ks xs => obtain ⟨od, kvs, h1, h2⟩ := c1; exact ⟨od, kvs, h1, h2.imp (fun x v _ _ => Rep.adopt x v) fun x v _ => Rep.adopt x v⟩
      | ins C fs => obtain ⟨dx, gs, h1, h2, h3, h4⟩ := c1; exact ⟨dx, gs, h1, h2, Out.adopt h3, Flds.adopt h4⟩
    · have e : l = S.length := by
        have := (List.getElem?_eq_some_iff.mp h1).1
        rw [List.length_append] at this
        simp at this
        omega
      subst e
      rw [List.getElem?_append_right (Nat.le_refl _)] at h1
      rw [List.getElem?_append_right (by rw [ql]; exact Nat.le_refl _)] at h2
      simp [ql] at h1 h2
      subst h1 h2
      exact hc
  · obtain ⟨⟨u, hu⟩, n⟩ := q.hd a (List.mem_cons_of_mem _ ha)
    refine ⟨⟨u, hu⟩, fun z => ?_⟩
    rcases List.mem_append.mp (show a ∈ ρ.lb ++ [p] from z) with z | z
    · exact n z
    · exact nh (by rw [← List.mem_singleton.mp z]; exact ha)
theorem Ext.adopt {ρ' : Rho} {H' : Hp} {p : Addr} (e : Ext ρ H ρ' H') (hp : H p = none) : Ext ρ H (ρ'.add p) H' := by
  obtain ⟨m, em, hm⟩ := e.more
  refine ⟨⟨m ++ [p], by show ρ'.lb ++ [p] = _; rw [em, List.append_assoc], fun a ha => ?_⟩, e.hid, e.keep, e.dom, e.fz⟩
  rcases List.mem_append.mp ha with z | z
  · exact hm a z
  · rw [List.mem_singleton.mp z]; exact .of hp
end
section
variable {G : Gx} {E : XK} {X : Cx} {a b c e o i : Expr} {ma mb mc me mo mi : XE} {pos : Pos}
/-- the table of a dict of the top -/
def Tab (K : PySem.W.Frag) (es : Array DictEntry) (ks : List Str) (xs : List PV) : Prop := ∀ k, ∃ v, RelV v ((PySem.findBy Value.isStrOf es k).getD .none) ∧ ∀ ρ H, Rep K ρ H ((lookS ks xs k).getD .non) v
theorem relV_inj {x y : V} {u : Value} (r : RelV x u) (q : RelV y u) : x = y := r.inj q
theorem i_kget {x : Str} {p apos cpos : Pos} {a : Addr} {es : Array DictEntry} {n : Nat} {ks : List Str} {xs : List PV} (hg : Gl X x) (hm : X.mg x = some (.ref a)) (hl : X.K.lookup a = some ⟨.type "dict", none, .dict es n, #[]⟩) (hk : PySem.W.KeysLit X.w.params es.toList) (hs : (a == sysModules) = false)
    (hv : Tab G.K es ks xs) (he : PE X e (tI G E me)) (m : M1 X (.Name x p) "get" apos e cpos) (hd : (x == ("__debug__" : Str)) = false := by decide) : PE X (.Call (.Attribute (.Name x p) "get" apos) [e] [] cpos) (tI G E (eGetS ks xs me)) :=
  (pe_kget hg hm hl hk hs he m hd (fun k => let ⟨v, h, _⟩ := hv k; ⟨v, h⟩)).imp fun σ H Q h => by
    obtain ⟨ρ, S, env, hR, hE, h⟩ := h
    refine ⟨ρ, S, env, hR, hE, h.step fun ρ1 S1 H1 y e1 hR1 h1 u ru => ?_⟩
    split at h1
    · rename_i k
      refine ⟨k, ru.str_of, fun v rv => ?_⟩
      obtain ⟨v', rv', hr⟩ := hv k
      rw [relV_inj rv rv']
      exact h1.ok hR1 _ (hr ρ1 H1)
    · exact h1.elim
/-! ### a dict written out -/
theorem keysV_any : ∀ {ks : List Str} {vs : List V} {k : Str}, k ∉ ks → ((keysV ks vs).any fun kv => decide (kv.1 = (.inr k : Key))) = false
  | [], _, _, _ => rfl
  | _ :: _, [], _, _ => rfl
  | k0 :: ks, v :: vs, k, h => by
    have e : keysV (k0 :: ks) (v :: vs) = (.inr k0, v) :: keysV ks vs := rfl
    rw [e, List.any_cons, keysV_any (fun z => h (List.mem_cons_of_mem _ z)), Bool.or_false]
    exact decide_eq_false fun z => h (by rw [← Sum.inr.inj z]; exact List.mem_cons_self)
theorem keysV_append : ∀ {ks js : List Str} {vs us : List V}, ks.length = vs.length → keysV (ks ++ js) (vs ++ us) = keysV ks vs ++ keysV js us
  | [], _, [], _, _ => rfl
  | k :: ks, js, v :: vs, us, h => by
    show (.inr k, v) :: keysV (ks ++ js) (vs ++ us) = (.inr k, v) :: (keysV ks vs ++ keysV js us)
    rw [keysV_append (by simpa using h)]
  | [], _, _ :: _, _, h => by simp at h
  | _ :: _, _, [], _, h => by simp at h
theorem merge_keys : ∀ (js : List Str) (us : List V) (ks : List Str) (vs : List V), (ks ++ js).Nodup → ks.length = vs.length → js.length = us.length → mergeK (keysV ks vs) (keysV js us) = keysV (ks ++ js) (vs ++ us)
  | [], us, ks, vs, _, hl, h2 => by
    have : us = [] := List.eq_nil_of_length_eq_zero h2.symm
    subst this
    simp [keysV, mergeK]
  | j :: js, u :: us, ks, vs, hn, hl, h2 => by
    have e : keysV (j :: js) (u :: us) = (.inr j, u) :: keysV js us := rfl
    have nj : j ∉ ks := fun z => by
      rw [List.nodup_append] at hn
      exact hn.2.2 j z j (List.mem_cons_self) rfl
    have e2 : mergeK (keysV ks vs) ((.inr j, u) :: keysV js us) = mergeK (putK (keysV ks vs) (.inr j) u) (keysV js us) := rfl
    rw [e, e2]
    have e3 : putK (keysV ks vs) (.inr j : Key) u = keysV (ks ++ [j]) (vs ++ [u]) := by
      unfold putK
      rw [if_neg (by rw [keysV_any nj]; exact Bool.false_ne_true), keysV_append hl]
      rfl
    rw [e3, merge_keys js us (ks ++ [j]) (vs ++ [u]) (by rw [List.append_assoc]; exact hn) (by simp [hl]) (by simpa using h2)]
    rw [List.append_assoc, List.append_assoc]
    rfl
  | _ :: _, [], _, _, _, _, h => by simp at h
/-- pairs with written keys -/
structure PDs (G : Gx) (E : XK) (X : Cx) (pos : Pos) (keys : List (Option Expr)) (values : List Expr) (ks : List Str) (ms : XA) : Prop where
  it : ∃ trs, PPs X pos keys values trs ∧ ∀ σ H Q, (∃ ρ S env, Rel G.w G.K ρ S H ∧ EnvR G.K ρ H env σ ∧ Aft G E ρ H (ms env S) (fun ρ' _ H' xs => ∀ vs, Reps G.K ρ' H' xs vs → xs.length = ks.length → Q ((ks.zip vs).map fun p => (V.str p.1, p.2)) H')) → tPairs trs σ H Q
theorem d_nil : PDs G E X pos [] [] [] aNil := ⟨⟨[], pps_nil, fun σ H Q ⟨ρ, S, env, hR, hE, h⟩ => h.ok hR [] Reps.nil rfl⟩⟩
theorem d_cons {k : Str} {kj kp} {v : Expr} {mv : XE} {keys : List (Option Expr)} {values : List Expr} {ks : List Str} {ms : XA} (hv : PE X v (tI G E mv)) (hr : PDs G E X pos keys values ks ms) : PDs G E X pos (some (.Constant (.str k) kj kp) :: keys) (v :: values) (k :: ks) (aCons mv ms) := by
  obtain ⟨trs, h1, h2⟩ := hr.it
  refine ⟨⟨_, pps_cons pe_str hv h1, fun σ H Q ⟨ρ, S, env, hR, hE, h⟩ => ?_⟩⟩
  refine ⟨ρ, S, env, hR, hE, h.step fun ρ1 S1 H1 x e1 hR1 h1 u ru => ?_⟩
  refine h2 _ _ _ ⟨ρ1, S1, env, hR1, hE.ext e1, h1.step fun ρ2 S2 H2 xs e2 hR2 h2 vs rvs hl => ?_⟩
  exact h2.ok hR2 (u :: vs) (.cons (Rep.ext e2 _ _ ru) rvs) (by simp [hl])
theorem zip_keys : ∀ (ks : List Str) (vs : List V), (ks.zip vs).map (fun p => (V.str p.1, p.2)) = (keysV ks vs).map fun kv => (L2.kV kv.1, kv.2)
  | [], _ => rfl
  | _ :: _, [] => rfl
  | k :: ks, v :: vs => by
    show (V.str k, v) :: _ = (V.str k, v) :: _
    exact congrArg _ (zip_keys ks vs)
theorem keysV_length {ks : List Str} {vs : List V} (h : ks.length = vs.length) : (keysV ks vs).length = ks.length := by
  unfold keysV
  rw [List.length_map, List.length_zip]
  omega
theorem disp_read {keys : List (Option Expr)} {values : List Expr} {ks : List Str} {ms : XA} {trs : List (TE × TE)} {σ : L2.St} {H : Hp} {Q : VK} {ρ : Rho} {S : Store} {env : Env}
    (ht : ∀ σ H Q, (∃ ρ S env, Rel G.w G.K ρ S H ∧ EnvR G.K ρ H env σ ∧ Aft G E ρ H (ms env S) (fun ρ' _ H' xs => ∀ vs, Reps G.K ρ' H' xs vs → xs.length = ks.length → Q ((ks.zip vs).map fun p => (V.str p.1, p.2)) H')) → tPairs trs σ H Q)
    (hR : Rel G.w G.K ρ S H) (hE : EnvR G.K ρ H env σ) (hbad : ms env S ≠ .bad) (hexc : ∀ e S', ms env S = .exc e S' → ∀ ρ' H' cls d, Ext ρ H ρ' H' → Rel G.w G.K ρ' S' H' → ExcR G ρ' H' e cls d → E cls d H')
    (hok : ∀ xs S', ms env S = .ok xs S' → (ks.length = xs.length ∧ ks.length ≤ 15 ∧ ks.Nodup) ∧ ∀ p ρ' H' vs, H p = none → Ext ρ H ρ' H' → Rel G.w G.K (ρ'.hide p) S' H' → Reps G.K (ρ'.hide p) H' xs vs → Q (.ref p) (upd H' p (.dK (keysV ks vs)))) : tDisp trs σ H Q := by
  intro p hp
  refine ht _ _ _ ⟨ρ.hide p, S, env, hR.hide hp, ⟨hE.len, fun i x hx => by
    obtain ⟨v, h1, h2⟩ := hE.at_ i x hx
    exact ⟨v, h1, Rep.hide hp x v h2⟩⟩, ?_⟩
  have under : ∀ {ρ' : Rho} {H' : Hp}, Ext (ρ.hide p) (upd H p (.dK [])) ρ' H' → ∃ ρ2 : Rho, ρ' = ρ2.hide p ∧ Ext ρ H ρ2 H' := fun {ρ' H'} e => by
    obtain ⟨ρ2, rfl, f⟩ := e.ofHide
    refine ⟨ρ2, rfl, ?_⟩
    obtain ⟨m, em, hm⟩ := f.more
    refine ⟨⟨m, em, fun a ha => ?_⟩, f.hid, fun a u ha nt n => f.keep a u (by rw [upd_ne (ne_of_none ha hp)]; exact ha) nt n, fun a ha => ?_, fun a od u ha => f.fz a od u (by rw [upd_ne (ne_of_none ha hp)]; exact ha)⟩
    · have q := hm a ha
      by_cases e : a = p
      · rw [e]; exact .of hp
      · exact fun o z => q o (by rw [upd_ne e]; exact z)
    · have q := f.dom a ha
      by_cases e : a = p
      · rw [e]; exact .of hp
      · exact fun o z => q o (by rw [upd_ne e]; exact z)
  cases hm : ms env S with
  | bad => exact absurd hm hbad
  | exc e S' =>
    intro ρ' H' cls d e' q x
    obtain ⟨ρ2, rfl, f⟩ := under e'
    refine hexc e S' hm ρ2 H' cls d f q.unhide ⟨x.1, ?_⟩
    rcases x.2 with z | ⟨a, gs, z1, z0, z2, z3, z4⟩
    · exact .inl z
    · exact .inr ⟨a, gs, z1, z0, z2, Out.show' z3, Flds.unhide z4⟩
  | ok xs S' =>
    obtain ⟨⟨hl, h15, hn⟩, k⟩ := hok xs S' hm
    intro ρ' H' e' q vs rvs _
    obtain ⟨ρ2, rfl, f⟩ := under e'
    have hl2 := rvs.length
    have np : p ∉ ρ.lb := hR.out1 hp
    refine ⟨e'.keep p _ upd_same Plain.dK.1 np, keysV ks vs, zip_keys ks vs, by rw [keysV_length (by omega)]; exact h15, ?_⟩
    rw [show mergeK [] (keysV ks vs) = keysV ks vs from merge_keys ks vs [] [] hn rfl (by omega)]
    exact k p ρ2 H' vs hp f q rvs
theorem i_dc {keys : List (Option Expr)} {values : List Expr} {ks : List Str} {ms : XA} (hd : PDs G E X pos keys values ks ms) (hall : keys.all (·.isSome) = true := by rfl) (hl : keys.length = values.length := by rfl) (h0 : keys ≠ [] := by simp) (h15 : keys.length ≤ 15 := by decide) :
    PE X (.Dict keys values pos) (tI G E (eDc ks ms)) := by
  obtain ⟨trs, h1, h2⟩ := hd.it
  refine (pe_disp h1 hall hl h0 h15).imp fun σ H Q h => ?_
  obtain ⟨ρ, S, env, hR, hE, h⟩ := h
  unfold eDc at h
  refine disp_read (keys := keys) (values := values) h2 hR hE (fun z => ?_) (fun e S' z => ?_) fun xs S' z => ?_
  · rw [z] at h; exact h
  · rw [z] at h; exact h
  · rw [z] at h
    simp only [R.bind_ok] at h
    split at h
    · rename_i hc
      refine ⟨hc, fun p ρ' H' vs hp e q rvs => ?_⟩
      have mp : p ∈ (ρ'.hide p).hid := List.mem_cons_self ..
      refine h ρ' _ (e.wr hp) ((q.hw mp).unhide) _ ?_
      unfold Rep
      refine ⟨p, vs, rfl, ⟨.inl upd_same, (q.hd p mp).2, fun z => ?_⟩, hc.1, hc.2.2, Reps.unhide _ _ (Reps.hw mp _ _ rvs)⟩
      rw [e.hid] at z
      obtain ⟨⟨o, ho, _⟩, _⟩ := hR.hd p z
      rw [hp] at ho; cases ho
    · exact h.elim
theorem i_dks {keys : List (Option Expr)} {values : List Expr} {ks : List Str} {ms : XA} (hd : PDs G E X pos keys values ks ms) (hall : keys.all (·.isSome) = true := by rfl) (hl : keys.length = values.length := by rfl) (h0 : keys ≠ [] := by simp) (h15 : keys.length ≤ 15 := by decide) :
    PE X (.Dict keys values pos) (tI G E (eDks ks ms)) := by
  obtain ⟨trs, h1, h2⟩ := hd.it
  refine (pe_disp h1 hall hl h0 h15).imp fun σ H Q h => ?_
  obtain ⟨ρ, S, env, hR, hE, h⟩ := h
  unfold eDks at h
  refine disp_read (keys := keys) (values := values) h2 hR hE (fun z => ?_) (fun e S' z => ?_) fun xs S' z => ?_
  · rw [z] at h; exact h
  · rw [z] at h; exact h
  · rw [z] at h
    simp only [R.bind_ok] at h
    split at h
    · rename_i hc
      refine ⟨hc, fun p ρ' H' vs hp e q rvs => ?_⟩
      have mp : p ∈ (ρ'.hide p).hid := List.mem_cons_self ..
      have nh : p ∉ ρ'.hid := fun z => by
        rw [e.hid] at z
        obtain ⟨⟨o, ho, _⟩, _⟩ := hR.hd p z
        rw [hp] at ho; cases ho
      refine h (ρ'.add p) _ ((e.wr hp).adopt hp) ((q.hw mp).adopt nh ⟨vs, upd_same, hc.1, hc.2.2, Reps.adopt _ _ (Reps.hw mp _ _ rvs)⟩) _ ?_
      unfold Rep
      refine ⟨p, ?_, rfl⟩
      have ql : ρ'.lb.length = S'.length := q.len
      show (ρ'.lb ++ [p])[S'.length]? = some p
      rw [← ql]
      simp
    · exact h.elim
/-! ### o[i] = v -/
theorem ixOf_N (n : Nat) (i : Int) : ixOf n i = ixN n i := by
  unfold ixOf ixN
  by_cases h0 : 0 ≤ i
  · rw [if_pos h0, if_pos h0]
  · rw [if_neg h0, if_neg h0]
    by_cases h1 : 0 ≤ i + (n : Int)
    · rw [if_pos h1]
      split
      · rename_i h
        first | rfl | (congr 1; omega)
      · exact absurd h1 (by omega)
    · rw [if_neg h1]
      split
      · exact absurd (by omega : 0 ≤ i + (n : Int)) h1
      · rfl
def rSetU : TSet := fun o i v H Q => rSetL o i v H Q ∨ rSetD o i v H Q
theorem set_U (hu : X.A.units + 1 < cLine) : PSet X rSetU := by
  rintro pins s σ H o i v ov iv u Q I ro ri rv (h | h)
  · exact set_list pins s σ H o i v ov iv u Q I ro ri rv h
  · exact set_dict hu pins s σ H o i v ov iv u Q I ro ri rv h
theorem putS_put {K : PySem.W.Frag} {ρ : Rho} {H : Hp} {x : PV} {v : V} {k : Str} (r : Rep K ρ H x v) : ∀ {ks : List Str} {xs : List PV} {vs : List V}, Reps K ρ H xs vs → ks.length = xs.length → ks.Nodup →
    ∃ us, putK (keysV ks vs) (.inr k : Key) v = keysV (putS ks xs k x).1 us ∧ Reps K ρ H (putS ks xs k x).2 us ∧ (putS ks xs k x).1.length = (putS ks xs k x).2.length ∧ (putS ks xs k x).1.Nodup ∧ (∀ j, j ∈ (putS ks xs k x).1 ↔ j = k ∨ j ∈ ks)
  | [], [], _, rs, _, _ => by
    unfold Reps at rs
    subst rs
    exact ⟨[v], rfl, .cons r .nil, rfl, by simp [putS], by simp [putS]⟩
  | k0 :: ks, x0 :: xs, _, rs, hl, hn => by
    obtain ⟨v0, s, rfl, r0, r1⟩ := rs.uncons
    have hn' := List.nodup_cons.mp hn
    have e : keysV (k0 :: ks) (v0 :: s) = (.inr k0, v0) :: keysV ks s := rfl
    by_cases hk : k0 = k
    · subst hk
      have ep : putS (k0 :: ks) (x0 :: xs) k0 x = (k0 :: ks, x :: xs) := by simp [putS]
      rw [ep, e]
      refine ⟨v :: s, ?_, .cons r r1, hl, hn, by simp⟩
      unfold putK
      rw [if_pos (by simp)]
      rw [List.map_cons, if_pos rfl]
      show _ = (.inr k0, v) :: keysV ks s
      congr 1
      have : ∀ (l : List (Key × V)), (l.any fun kv => decide (kv.1 = (.inr k0 : Key))) = false → l.map (fun kv => if kv.1 = (.inr k0 : Key) then (kv.1, v) else kv) = l := by
        intro l
        induction l with
        | nil => intro _; rfl
        | cons q l ih =>
          intro h
          rw [List.any_cons, Bool.or_eq_false_iff] at h
          rw [List.map_cons, if_neg (of_decide_eq_false h.1), ih h.2]
      exact this _ (keysV_any hn'.1)
    · obtain ⟨us, h1, h2, h3, h4, h5⟩ := putS_put (k := k) r r1 (by simpa using hl) hn'.2
      have ep : putS (k0 :: ks) (x0 :: xs) k x = (k0 :: (putS ks xs k x).1, x0 :: (putS ks xs k x).2) := by simp [putS, hk]
      rw [ep, e]
      refine ⟨v0 :: us, ?_, .cons r0 h2, by simp [h3], ?_, fun j => ?_⟩
      · show _ = (.inr k0, v0) :: keysV (putS ks xs k x).1 us
        rw [← h1]
        have hk' : ¬ ((.inr k0 : Key) = .inr k) := fun z => hk (Sum.inr.inj z)
        unfold putK
        rw [List.any_cons, decide_eq_false hk', Bool.false_or]
        split
        · rw [List.map_cons, if_neg hk']
        · rfl
      · rw [List.nodup_cons]
        refine ⟨fun z => ?_, h4⟩
        rcases (h5 k0).mp z with z | z
        · exact hk z
        · exact hn'.1 z
      · rw [List.mem_cons, h5 j, List.mem_cons]
        constructor
        · rintro (z | z | z)
          · exact .inr (.inl z)
          · exact .inl z
          · exact .inr (.inr z)
        · rintro (z | z | z)
          · exact .inr (.inl z)
          · exact .inl z
          · exact .inr (.inr z)
  | [], _ :: _, _, _, hl, _ => by simp at hl
  | _ :: _, [], _, _, hl, _ => by simp at hl
theorem sd_set {ρ : Rho} {S : Store} {H : Hp} {x y z : PV} {o i v : V} {Q : Hp → Prop} {k : Rho → Store → Hp → Unit → Prop} (q : Rel G.w G.K ρ S H) (ro : Rep G.K ρ H x o) (ri : Rep G.K ρ H y i) (rv : Rep G.K ρ H z v) (h : Aft G E ρ H (oSet x y z S) k)
    (m : ∀ ρ' S' H', Ext ρ H ρ' H' → Rel G.w G.K ρ' S' H' → k ρ' S' H' () → Q H') : rSetU o i v H Q := by
  unfold oSet at h
  split at h
  · rename_i l j
    split at h
    · rename_i xs hx
      split at h
      · rename_i n hn
        unfold Rep at ro
        obtain ⟨a, h1, rfl⟩ := ro
        obtain ⟨c, hc, ca⟩ := q.cell h1
        rw [hx] at hc
        cases hc
        obtain ⟨vs, h2, h3⟩ := ca
        rw [ri.int_of]
        refine .inl ⟨a, vs, j, n, rfl, rfl, h2, by rw [← h3.length, ← ixOf_N]; exact hn, ?_⟩
        have ha : a ∈ ρ.lb := List.mem_of_getElem? h1
        have ew : Ext ρ H ρ (upd H a (.lst (vs.set n v))) := Ext.write ha h2
        have qw := q.write h1 (c := .lst (xs.set n z)) (o := .lst (vs.set n v)) ⟨_, upd_same, Reps.set (Rep.ext ew z v rv) n (Reps.ext ew _ _ h3)⟩
        exact m ρ _ _ ew qw (h ρ _ ew qw)
      · exact h.elim
    · exact h.elim
  · rename_i l j
    split at h
    · rename_i ks xs hx
      split at h
      · rename_i hlim
        unfold Rep at ro
        obtain ⟨a, h1, rfl⟩ := ro
        obtain ⟨c, hc, ca⟩ := q.cell h1
        rw [hx] at hc
        cases hc
        obtain ⟨vs, h2, hl, hn, h3⟩ := ca
        rw [ri.str_of]
        have ha : a ∈ ρ.lb := List.mem_of_getElem? h1
        have hlv := h3.length
        obtain ⟨us, e1, e2, e3, e4, e5⟩ := putS_put (k := j) rv h3 hl hn
        refine .inr ⟨a, _, rfl, DPut.k (k := .inr j) h2 (by rw [keysV_length (by omega)]; exact lim_lt hlim), ?_⟩
        rw [e1]
        have ew : Ext ρ H ρ (upd H a (.dK (keysV (putS ks xs j z).1 us))) := Ext.write ha h2
        have qw := q.write h1 (c := .dks (putS ks xs j z).1 (putS ks xs j z).2) (o := .dK (keysV (putS ks xs j z).1 us)) ⟨_, upd_same, e3, e4, Reps.ext ew _ _ e2⟩
        exact m ρ _ _ ew qw (h ρ _ ew qw)
      · exact h.elim
    · exact h.elim
  · exact h.elim
theorem g_sub (hu : X.A.units + 1 < cLine) (ho : PE X o (tI G E mo)) (hi : PE X i (tI G E mi))
    (ha : ∀ v, assign (.Subscript o i pos) X.env v = (do
      let ov ← holding [v] (eval o X.env)
      let iv ← holding [v, ov] (eval i X.env)
      standAt pos
      holding [v, ov, iv] (setItem ov iv v)
      release [v, ov, iv] []) := by intro _; rfl) : PG X (.Subscript o i pos) (tIG G E [] (gSb mo mi)) :=
  (pg_sub ho hi (set_U hu) ha).imp fun v σ H Q h => by
    obtain ⟨ρ, S, env, x, hR, hE, hx, h⟩ := h
    have h : Aft G E ρ H ((mo env S).bind fun ov S => (mi env S).bind fun iv S => (oSet ov iv x S).bind fun _ S => R.ok env S) (fun ρ' S' H' env' => ∀ σ', EnvR G.K ρ' H' env' σ' → Wp [] σ σ' → Q σ' H') := h
    refine ⟨ρ, S, env, hR, hE, h.step fun ρ1 S1 H1 ov e1 hR1 h1 vo ro => ?_⟩
    refine ⟨ρ1, S1, env, hR1, hE.ext e1, h1.step fun ρ2 S2 H2 iv e2 hR2 h2 vi ri => ?_⟩
    refine sd_set hR2 (Rep.ext e2 _ _ ro) ri (Rep.ext e2 _ _ (Rep.ext e1 _ _ hx)) (Aft.bind h2) fun ρ3 S3 H3 e3 hR3 h3 => ?_
    exact h3.ok hR3 σ (((hE.ext e1).ext e2).ext e3) fun _ _ => rfl
/-! ### methods of lists -/
theorem loc_list {ρ : Rho} {S : Store} {H : Hp} (q : Rel G.w G.K ρ S H) {l : Nat} {xs : List PV} {v : V} (r : Rep G.K ρ H (.loc l) v) (h : S[l]? = some (.lst xs)) : ∃ p vs, v = .ref p ∧ ρ.lb[l]? = some p ∧ H p = some (.lst vs) ∧ Reps G.K ρ H xs vs := by
  unfold Rep at r
  obtain ⟨p, h1, rfl⟩ := r
  obtain ⟨c, hc, ca⟩ := q.cell h1
  rw [h] at hc
  cases hc
  obtain ⟨vs, h2, h3⟩ := ca
  exact ⟨p, vs, rfl, h1, h2, h3⟩
/-- a list of the store is written -/
theorem lst_write {ρ : Rho} {S : Store} {H : Hp} (q : Rel G.w G.K ρ S H) {l : Nat} {p : Addr} {ys : List PV} {us ws : List V} (h1 : ρ.lb[l]? = some p) (h0 : H p = some (.lst ws)) (r : Reps G.K ρ H ys us) : Ext ρ H ρ (upd H p (.lst us)) ∧ Rel G.w G.K ρ (S.set l (.lst ys)) (upd H p (.lst us)) := by
  have ew : Ext ρ H ρ (upd H p (.lst us)) := Ext.write (List.mem_of_getElem? h1) h0
  exact ⟨ew, q.write h1 ⟨us, upd_same, Reps.ext ew _ _ r⟩⟩
section
variable {apos cpos : Pos}
theorem i_append (ho : PE X o (tI G E mo)) (ha : PE X a (tI G E ma)) (hK : X.K = G.K := by rfl) (hs : starEach (a :: []) X.env = (false, eval a X.env) :: starEach [] X.env := by rfl)
    (hbase : attributeBase o "append" X.env (eval o X.env) = eval o X.env := by rfl)
    (hfew : ((backTo cpos (starEach (a :: []) X.env)).all (fun x => !x.1) && (backToKw cpos (keywordEach [] X.env)).all (fun x => x.1.isSome)
      && decide ((a :: []).length + ([] : List Keyword).length + (if ([] : List Keyword).isEmpty then 0 else 1) < 30)) = true := by rfl)
    (hline : (apos.endLine == cpos.line) = true := by rfl) (hplain : (backTo cpos (starEach [] X.env)).any (·.1) = false := by rfl) :
    PE X (.Call (.Attribute o "append" apos) [a] [] cpos) (tI G E (eMeth1 mAppend mo ma)) :=
  (pe_bm PySem.F.plainAttrs_list PySem.F.slot_list_append PySem.F.type_list_append mt_append ho (pa_cons ha pa_nil hs) hbase hfew hline hs hplain).imp fun σ H Q h => by
    obtain ⟨ρ, S, env, hR, hE, h⟩ := h
    refine ⟨ρ, S, env, hR, hE, Aft.step (f := fun x S => _) h fun ρ1 S1 H1 x e1 hR1 h1 v rv => ?_⟩
    cases x with
    | loc l =>
      simp only at h1
      split at h1
      · rename_i xs hx
        obtain ⟨p, vs, rfl, hp, h2, h3⟩ := loc_list hR1 rv hx
        refine ⟨.inl ⟨rfl, vs, SqL.of h2⟩, ρ1, S1, env, hR1, hE.ext e1, h1.step fun ρ2 S2 H2 y e2 hR2 h4 u ru => ?_⟩
        unfold mAppend at h4
        split at h4
        · rename_i ys hy
          split at h4
          · rename_i hl
            obtain ⟨p', us, e', hp', h5, h6⟩ := loc_list hR2 (Rep.ext e2 _ _ rv) hy
            cases e'
            obtain ⟨w1, w2⟩ := lst_write hR2 hp' h5 (h6.append (.cons ru .nil))
            exact ⟨p, us, u, rfl, rfl, h5, by rw [← h6.length]; exact lim_lt hl, h4 ρ2 _ w1 w2 _ Rep.non⟩
          · exact h4.elim
        · exact h4.elim
      · exact h1.elim
    | _ => exact h1.elim
theorem i_extend (ho : PE X o (tI G E mo)) (ha : PE X a (tI G E ma)) (hK : X.K = G.K := by rfl) (hs : starEach (a :: []) X.env = (false, eval a X.env) :: starEach [] X.env := by rfl)
    (hbase : attributeBase o "extend" X.env (eval o X.env) = eval o X.env := by rfl)
    (hfew : ((backTo cpos (starEach (a :: []) X.env)).all (fun x => !x.1) && (backToKw cpos (keywordEach [] X.env)).all (fun x => x.1.isSome)
      && decide ((a :: []).length + ([] : List Keyword).length + (if ([] : List Keyword).isEmpty then 0 else 1) < 30)) = true := by rfl)
    (hline : (apos.endLine == cpos.line) = true := by rfl) (hplain : (backTo cpos (starEach [] X.env)).any (·.1) = false := by rfl) :
    PE X (.Call (.Attribute o "extend" apos) [a] [] cpos) (tI G E (eMeth1 mExtend mo ma)) :=
  (pe_bm PySem.F.plainAttrs_list PySem.F.slot_list_extend PySem.F.type_list_extend mt_extend ho (pa_cons ha pa_nil hs) hbase hfew hline hs hplain).imp fun σ H Q h => by
    obtain ⟨ρ, S, env, hR, hE, h⟩ := h
    refine ⟨ρ, S, env, hR, hE, Aft.step (f := fun x S => _) h fun ρ1 S1 H1 x e1 hR1 h1 v rv => ?_⟩
    cases x with
    | loc l =>
      simp only at h1
      split at h1
      · rename_i xs hx
        obtain ⟨p, vs, rfl, hp, h2, h3⟩ := loc_list hR1 rv hx
        refine ⟨.inl ⟨rfl, vs, SqL.of h2⟩, ρ1, S1, env, hR1, hE.ext e1, h1.step fun ρ2 S2 H2 y e2 hR2 h4 u ru => ?_⟩
        unfold mExtend at h4
        split at h4
        · rename_i ys zs hy hz
          split at h4
          · rename_i hl
            obtain ⟨p', us, e', hp', h5, h6⟩ := loc_list hR2 (Rep.ext e2 _ _ rv) hy
            cases e'
            obtain ⟨b, ws, rfl, h7, h8⟩ := lst_of hR2 ru hz
            obtain ⟨w1, w2⟩ := lst_write hR2 hp' h5 (h6.append h8)
            exact ⟨p, b, us, ws, rfl, rfl, h5, h7, by rw [← h6.length, ← h8.length]; exact lim_le hl, h4 ρ2 _ w1 w2 _ Rep.non⟩
          · exact h4.elim
        · exact h4.elim
      · exact h1.elim
    | _ => exact h1.elim
end
/-! ### attributes -/
end
end

/-! Mini8 -/
/-! Mini8: defs and calls. -/
section
open PySem L2
section
variable {w : World} {K : PySem.W.Frag} {ρ ρ' : Rho} {H : Hp}
/-- ρ' has more cells -/
structure Less (n : Nat) (ρ ρ' : Rho) : Prop where
  len : ρ.lb.length = n
  lb : ∃ m, ρ'.lb = ρ.lb ++ m
  hid : ρ'.hid = ρ.hid
theorem Less.out {n : Nat} (h : Less n ρ ρ') {a : Addr} (o : ρ'.Out a) : ρ.Out a := by
  obtain ⟨m, em⟩ := h.lb
  exact ⟨fun z => o.1 (by rw [em]; exact List.mem_append_left _ z), by rw [← h.hid]; exact o.2⟩
mutual
theorem Rep.less {n : Nat} (hl : Less n ρ ρ') : ∀ (x : PV) (v : V), low n x = true → Rep K ρ' H x v → Rep K ρ H x v
  | .non, _, _, h => by unfold Rep at h ⊢; exact h
  | .bl _, _, _, h => by unfold Rep at h ⊢; exact h
  | .int _, _, _, h => by unfold Rep at h ⊢; exact h
  | .str _, _, _, h => by unfold Rep at h ⊢; exact h
  | .tup xs, v, l, h => by
    unfold Rep at h ⊢
    unfold low at l
    obtain ⟨a, vs, rfl, h1, h3⟩ := h
    refine ⟨a, vs, rfl, ?_, Reps.less hl xs vs l h3⟩
    rcases h1 with ⟨h1, h2⟩ | h1
    · exact .inl ⟨h1, hl.out h2⟩
    · exact .inr h1
  | .ls xs, v, l, h => by
    unfold Rep at h ⊢
    unfold low at l
    obtain ⟨a, vs, rfl, ⟨h1, h2⟩, h3⟩ := h
    exact ⟨a, vs, rfl, ⟨h1, hl.out h2⟩, Reps.less hl xs vs l h3⟩
  | .fz xs, v, l, h => by
    unfold Rep at h ⊢
    unfold low at l
    obtain ⟨a, vs, rfl, h1, h3⟩ := h
    refine ⟨a, vs, rfl, ?_, Reps.less hl xs vs l h3⟩
    rcases h1 with ⟨h1, h2⟩ | h1
    · exact .inl ⟨h1, hl.out h2⟩
    · exact .inr h1
  | .dc ks xs, v, l, h => by
    unfold Rep at h ⊢
    unfold low at l
    obtain ⟨a, vs, rfl, ⟨h1, h2⟩, h4, hn, h3⟩ := h
    exact ⟨a, vs, rfl, ⟨h1, hl.out h2⟩, h4, hn, Reps.less hl xs vs l h3⟩
  | .loc i, v, l, h => by
    unfold Rep at h ⊢
    obtain ⟨a, h1, rfl⟩ := h
    obtain ⟨m, em⟩ := hl.lb
    have hi : i < n := by unfold low at l; exact of_decide_eq_true l
    refine ⟨a, ?_, rfl⟩
    rw [em, List.getElem?_append_left (by rw [hl.len]; exact hi)] at h1
    exact h1
theorem Reps.less {n : Nat} (hl : Less n ρ ρ') : ∀ (xs : List PV) (vs : List V), lows n xs = true → Reps K ρ' H xs vs → Reps K ρ H xs vs
  | [], _, _, h => by unfold Reps at h ⊢; exact h
  | x :: r, vs, l, h => by
    unfold Reps at h ⊢
    unfold lows at l
    rw [Bool.and_eq_true] at l
    obtain ⟨v, s, rfl, h1, h2⟩ := h
    exact ⟨v, s, rfl, Rep.less hl x v l.1 h1, Reps.less hl r s l.2 h2⟩
end
theorem Flds.less {n : Nat} (hl : Less n ρ ρ') : ∀ {fs : List (Str × PV)} {gs : List (Str × V)}, lows n (fs.map Prod.snd) = true → Flds K ρ' H fs gs → Flds K ρ H fs gs
  | [], _, _, h => h
  | (f, x) :: r, _, l, h => by
    obtain ⟨v, s, rfl, h1, h2⟩ := h
    have l : (low n x && lows n (r.map Prod.snd)) = true := l
    rw [Bool.and_eq_true] at l
    exact ⟨v, s, rfl, Rep.less hl x v l.1 h1, Flds.less hl l.2 h2⟩
mutual
theorem keyD_low (n : Nat) : ∀ (x : PV) (d : Nat), keyD d x = true → low n x = true
  | .non, _, _ => by unfold low; rfl
  | .int _, _, _ => by unfold low; rfl
  | .str _, _, _ => by unfold low; rfl
  | .tup xs, 0, h => by unfold keyD at h; cases h
  | .tup xs, d + 1, h => by
    unfold keyD at h
    unfold low
    exact keyDs_low n xs d h
  | .bl _, d, h => by cases d <;> (unfold keyD at h; cases h)
  | .ls _, d, h => by cases d <;> (unfold keyD at h; cases h)
  | .fz _, d, h => by cases d <;> (unfold keyD at h; cases h)
  | .dc _ _, d, h => by cases d <;> (unfold keyD at h; cases h)
  | .loc _, d, h => by cases d <;> (unfold keyD at h; cases h)
theorem keyDs_low (n : Nat) : ∀ (xs : List PV) (d : Nat), xs.all (keyD d) = true → lows n xs = true
  | [], _, _ => by unfold lows; rfl
  | x :: r, d, h => by
    rw [List.all_cons, Bool.and_eq_true] at h
    unfold lows
    rw [Bool.and_eq_true]
    exact ⟨keyD_low n x d h.1, keyDs_low n r d h.2⟩
end
theorem lows_mem {n : Nat} : ∀ {xs : List PV} {x : PV}, lows n xs = true → x ∈ xs → low n x = true
  | y :: r, x, h, hx => by
    unfold lows at h
    rw [Bool.and_eq_true] at h
    rcases List.mem_cons.mp hx with rfl | hx
    · exact h.1
    · exact lows_mem h.2 hx
theorem Rel.less {n : Nat} {S : Store} (hl : Less n ρ ρ') (q : Rel w K ρ' S H) (hn : n ≤ S.length) (l : (S.take n).all (Cell.low n) = true) : Rel w K ρ (S.take n) H := by
  obtain ⟨m, em⟩ := hl.lb
  refine ⟨by rw [hl.len, List.length_take]; omega, ?_, fun i c a h1 h2 => ?_, fun a ha => ?_, q.tabs⟩
  · have := q.nd
    rw [em, List.nodup_append] at this
    exact this.1
  · have hi : i < n := by
      have := (List.getElem?_eq_some_iff.mp h2).1
      rw [hl.len] at this
      exact this
    have h1' : S[i]? = some c := by
      rw [List.getElem?_take, if_pos hi] at h1
      exact h1
    have h2' : ρ'.lb[i]? = some a := by
      rw [em, List.getElem?_append_left (by rw [hl.len]; exact hi)]
      exact h2
    have c1 := q.at_ i c a h1' h2'
    have lc : Cell.low n c = true := List.all_eq_true.mp l c (List.mem_of_getElem? h1)
    cases c with
    | lst xs => obtain ⟨vs, g1, g2⟩ := c1; exact ⟨vs, g1, Reps.less hl _ _ lc g2⟩
    | dks ks xs => obtain ⟨vs, g1, g2, g3, g4⟩ := c1; exact ⟨vs, g1, g2, g3, Reps.less hl _ _ lc g4⟩
    | dki ks xs => obtain ⟨vs, g1, g2, g3, g4⟩ := c1; exact ⟨vs, g1, g2, g3, Reps.less hl _ _ lc g4⟩
    | fki ks xs => obtain ⟨od, vs, g1, g2, g3, g4⟩ := c1; exact ⟨od, vs, g1, g2, g3, Reps.less hl _ _ lc g4⟩
    | dkn ks xs => obtain ⟨kvs, g1, g2⟩ := c1; exact ⟨kvs, g1, g2.imp (fun x v _ hk => Rep.less hl x v (keyD_low n x 8 hk)) fun x v hx => Rep.less hl x v (lows_mem lc hx)⟩
    | fkn ks xs => obtain ⟨od, kvs, g1, g2⟩ := c1; exact ⟨od, kvs, g1, g2.imp (fun x v _ hk => Rep.less hl x v (keyD_low n x 8 hk)) fun x v hx => Rep.less hl x v (lows_mem lc hx)⟩
    | ins C fs => obtain ⟨dx, gs, g1, g2, g3, g4⟩ := c1; exact ⟨dx, gs, g1, g2, hl.out g3, Flds.less hl lc g4⟩
  · obtain ⟨u, n1⟩ := q.hd a (by rw [hl.hid]; exact ha)
    exact ⟨u, fun z => n1 (by rw [em]; exact List.mem_append_left _ z)⟩
end
section
variable {G : Gx} {E : XK}
/-- what a def promises: what the small machine does -/
def spI (G : Gx) (m : XF) : Sp := fun vs H Q E => ∃ ρ S args, Rel G.w G.K ρ S H ∧ Reps G.K ρ H args vs ∧ Aft G E ρ H (m args S) (kV G Q)
theorem envR_start {ρ : Rho} {H : Hp} {N : List Str} {args : List PV} {vs : List V} (r : Reps G.K ρ H args vs) : EnvR G.K ρ H (args.map some ++ List.replicate (N.length - args.length) none) (L2.start N vs) := by
  have hl := r.length
  refine ⟨by simp [L2.start, hl], fun i x hx => ?_⟩
  by_cases hi : i < args.length
  · rw [List.getElem?_append_left (by simpa using hi), List.getElem?_map] at hx
    cases e : args[i]? with
    | none => rw [e] at hx; cases hx
    | some y =>
      rw [e] at hx
      cases hx
      obtain ⟨v, h1, h2⟩ := r.get e
      refine ⟨v, ?_, h2⟩
      unfold L2.start
      rw [List.getElem?_append_left (by simp; omega), List.getElem?_map, h1]
      rfl
  · rw [List.getElem?_append_right (by simp; omega)] at hx
    rw [List.getElem?_replicate] at hx
    split at hx <;> cases hx
theorem leave_ok {ρ ρ' : Rho} {H H' : Hp} {S S' : Store} {v : PV} {u : V} {Q : VK} (hR : Rel G.w G.K ρ S H) (e : Ext ρ H ρ' H') (q : Rel G.w G.K ρ' S' H') (r : Rep G.K ρ' H' v u) (h : Aft G E ρ H (leave S.length v S') (kV G Q)) : Q u H' := by
  unfold leave at h
  split at h
  · exact h ρ' H' e q u r
  · split at h
    · rename_i hlow
      obtain ⟨m, em, hm⟩ := e.more
      have hl : Less S.length ρ ρ' := ⟨hR.len, ⟨m, em⟩, e.hid⟩
      have e2 : Ext ρ H ρ H' := ⟨⟨[], by simp⟩, rfl, e.keep, e.dom, e.fz⟩
      have hn : S.length ≤ S'.length := by
        have h1 := q.len
        have h2 := hR.len
        rw [em, List.length_append] at h1
        omega
      have q2 := Rel.less hl q hn hlow
      unfold out1 at h
      split at h
      · rename_i w hw
        refine h ρ H' e2 q2 u ?_
        cases v with
        | loc l =>
          simp only at hw
          split at hw
          · rename_i hlt
            cases hw
            exact Rep.less hl _ _ (decide_eq_true hlt) r
          · rename_i hge
            split at hw
            · rename_i xs hx
              split at hw
              · rename_i hx2
                cases hw
                unfold Rep at r
                obtain ⟨a, h1, rfl⟩ := r
                obtain ⟨c, hc, ca⟩ := q.cell h1
                rw [hx] at hc
                cases hc
                obtain ⟨vs, g1, g2⟩ := ca
                unfold Rep
                refine ⟨a, vs, rfl, ⟨g1, fun z => ?_, fun z => ?_⟩, Reps.less hl _ _ hx2 g2⟩
                · obtain ⟨i, hi, ei⟩ := List.mem_iff_getElem.mp z
                  have hi2 : i < ρ'.lb.length := by rw [em, List.length_append]; omega
                  have e3 : ρ'.lb[i] = a := by simp only [em]; rw [List.getElem_append_left hi]; exact ei
                  obtain ⟨hl2, el⟩ := List.getElem?_eq_some_iff.mp h1
                  have := (List.getElem_inj q.nd).mp (e3.trans el.symm)
                  rw [hR.len] at hi
                  omega
                · exact (q.hd a (by rw [e.hid]; exact z)).2 (List.mem_of_getElem? h1)
              · cases hw
            · cases hw
        | non => simp only [low, if_true] at hw; cases hw; exact Rep.less hl _ _ (by simp [low]) r
        | bl b => simp only [low, if_true] at hw; cases hw; exact Rep.less hl _ _ (by simp [low]) r
        | int b => simp only [low, if_true] at hw; cases hw; exact Rep.less hl _ _ (by simp [low]) r
        | str b => simp only [low, if_true] at hw; cases hw; exact Rep.less hl _ _ (by simp [low]) r
        | tup b =>
          simp only at hw
          split at hw
          · rename_i hx; cases hw; exact Rep.less hl _ _ hx r
          · cases hw
        | ls b =>
          simp only at hw
          split at hw
          · rename_i hx; cases hw; exact Rep.less hl _ _ hx r
          · cases hw
        | fz b =>
          simp only at hw
          split at hw
          · rename_i hx; cases hw; exact Rep.less hl _ _ hx r
          · cases hw
        | dc k b =>
          simp only at hw
          split at hw
          · rename_i hx; cases hw; exact Rep.less hl _ _ hx r
          · cases hw
      · exact h.elim
    · exact h.elim
variable {P : Program} {w : World} {K : PySem.W.Frag} {mg : Str → Option Value} {base : Heap}
end
/-! ### calls -/
section
variable {G : Gx} {E : XK} {X : Cx} {e o : Expr} {es : List Expr} {x m : Str} {p pos apos : Pos} {ms : XA} {mo : XE} {CX : CXT} {k : Nat} {f C : Addr} {fd : FuncData} {ps : List Str} {mf : XF}
theorem i_call (F : FnOk X.prog X.w X.K X.mg X.base CX k f fd ps (spI G mf)) (hr : Room k X.A) (hg : Gl X x) (hm : X.mg x = some (.ref f)) (hk : PySem.W.keepIn X.K (.ref f) = true) (hb : Binds X.K fd ps []) (hx : Passes CX X E) (ha : PA X (e :: es) (tIA G E ms)) (hdb : (x == ("__debug__" : Str)) = false := by decide)
    (hst : starEach (e :: es) X.env = (false, eval e X.env) :: starEach es X.env := by rfl) (hpl : (backTo pos (starEach es X.env)).any (·.1) = false := by rfl) : PE X (.Call (.Name x p) (e :: es) [] pos) (tI G E (eCall mf ms)) :=
  (pe_call F hr hg hm hk hb .nil hx ha hdb hst hpl).imp fun σ H Q h => by
    obtain ⟨ρ, S, env, hR, hE, h⟩ := h
    refine ⟨ρ, S, env, hR, hE, h.step fun ρ1 S1 H1 xs e1 hR1 h1 vs rvs => ?_⟩
    simp only [List.append_nil]
    exact ⟨ρ1, S1, xs, hR1, rvs, h1⟩
end
end

/-! Mini9 -/
/-! Mini9: words in short for a text's own terms; what the first eight lack. -/
section
open PySem L2
section
variable {G : Gx} {E : XK} {X : Cx} {a b c e o : Expr} {ma mb mc me mo : XE} {pos : Pos}
theorem iv (i : Nat) {x : Str} (hN : X.N[i]? = some x := by rfl) (hv : Vis X.env.scope x := by first | exact Or.inl rfl | exact Or.inr (Or.inl rfl) | exact Or.inr (Or.inr rfl)) (hd : (x == ("__debug__" : Str)) = false := by decide) (hcd : (x == ("__classdict__" : Str)) = false := by decide) :
    PE X (.Name x pos) (tI G E (eVar i)) := i_var hN hv hd hcd
theorem gn {i : Nat} {x : Str} (hN : X.N.Nodup) (hi : X.N[i]? = some x := by rfl) (hx : Loc X.env.scope x := by first | exact Or.inl rfl | exact Or.inr rfl) (hf : X.fn x = true ∨ X.env.scope.names.lookup x = some .local := by first | exact .inl rfl | exact .inr rfl | assumption) :
    PG X (.Name x pos) (tIG G E [i] (gNm i)) := g_name hN hi hx hf
theorem i_gi {x : Str} {i : Int} (h : ∃ t, X.mg x = some (.int i t)) (hg : Gl X x := by rfl) (hd : (x == ("__debug__" : Str)) = false := by decide) : PE X (.Name x pos) (tI G E (eC (.int i))) := by
  obtain ⟨t, h⟩ := h
  exact i_c (pe_glob hg h (v := .int i) ⟨t, rfl⟩ hd) fun _ _ => Rep.int
theorem hu64 {A : Around} {k : Nat} (hr : Room k A) : A.units + 64 < cLine := Nat.lt_of_le_of_lt (Nat.add_le_add_left (by decide : 64 ≤ 64) _) hr.units
theorem m1_of {m : Str} {apos cpos : Pos} (h1 : attributeBase o m X.env (eval o X.env) = eval o X.env := by rfl)
    (h2 : ((backTo cpos (starEach [e] X.env)).all (fun x => !x.1) && (backToKw cpos (keywordEach [] X.env)).all (fun x => x.1.isSome) && decide (([e] : List Expr).length + ([] : List Keyword).length + (if ([] : List Keyword).isEmpty then 0 else 1) < 30)) = true := by rfl)
    (h3 : (apos.endLine == cpos.line) = true := by rfl) (h4 : backTo cpos (starEach [e] X.env) = [(false, eval e X.env)] := by rfl) : M1 X o m apos e cpos := ⟨h1, h2, h3, h4⟩
theorem m2_of {m : Str} {f : Expr} {apos cpos : Pos} (h1 : attributeBase o m X.env (eval o X.env) = eval o X.env := by rfl)
    (h2 : ((backTo cpos (starEach [e, f] X.env)).all (fun x => !x.1) && (backToKw cpos (keywordEach [] X.env)).all (fun x => x.1.isSome) && decide (([e, f] : List Expr).length + ([] : List Keyword).length + (if ([] : List Keyword).isEmpty then 0 else 1) < 30)) = true := by rfl)
    (h3 : (apos.endLine == cpos.line) = true := by rfl) (h4 : backTo cpos (starEach [e, f] X.env) = [(false, eval e X.env), (false, eval f X.env)] := by rfl) : M2 X o m apos e f cpos := ⟨h1, h2, h3, h4⟩
/-! a op1 b op2 c -/
theorem chain_read {o1 o2 : Op2} {r1 r2 : R2} (s1 : Sd2 G E r1 o1) (s2 : Sd2 G E r2 o2) {σ : L2.St} {H : Hp} {Q : VK} (h : tI G E (eChain o1 o2 ma mb mc) σ H Q) : tChain r1 r2 (tI G E ma) (tI G E mb) (tI G E mc) σ H Q := by
  obtain ⟨ρ, S, env, hR, hE, h⟩ := h
  refine ⟨ρ, S, env, hR, hE, h.step fun ρ1 S1 H1 x e1 hR1 h1 v rv => ?_⟩
  refine ⟨ρ1, S1, env, hR1, hE.ext e1, h1.step fun ρ2 S2 H2 y e2 hR2 h2 u ru => ?_⟩
  refine s1 ρ2 S2 H2 x y v u _ hR2 (Rep.ext e2 _ _ rv) ru (h2.step fun ρ3 S3 H3 z e3 hR3 h3 w rw' => ?_)
  split at h3
  · refine ⟨true, rw'.bl_of, ?_⟩
    rw [if_pos rfl]
    refine ⟨ρ3, S3, env, hR3, ((hE.ext e1).ext e2).ext e3, h3.step fun ρ4 S4 H4 z' e4 hR4 h4 w2 rw2 => ?_⟩
    exact s2 ρ4 S4 H4 y z' u w2 _ hR4 (Rep.ext e4 _ _ (Rep.ext e3 _ _ ru)) rw2 h4
  · refine ⟨false, rw'.bl_of, ?_⟩
    rw [if_neg Bool.false_ne_true]
    exact h3.ok hR3 _ Rep.bl
  · exact h3.elim
theorem i_chain {p q : CmpOp} {r1 r2 : R2} {o1 o2 : Op2} (h1 : OpR X (compareOp p) r1) (s1 : Sd2 G E r1 o1) (h2 : OpR X (compareOp q) r2) (s2 : Sd2 G E r2 o2) (ha : PE X a (tI G E ma)) (hb : PE X b (tI G E mb)) (hc : PE X c (tI G E mc))
    (hm : lastMarks [p, q] [b, c] = false := by with_unfolding_all rfl) : PE X (.Compare a [p, q] [b, c] pos) (tI G E (eChain o1 o2 ma mb mc)) :=
  (pe_chain h1 h2 ha hb hc hm).imp fun σ H Q h => chain_read s1 s2 h
theorem j_chain {p q : CmpOp} {r1 r2 : R2} {o1 o2 : Op2} (h1 : OpR X (compareOp p) r1) (s1 : Sd2 G E r1 o1) (h2 : OpR X (compareOp q) r2) (s2 : Sd2 G E r2 o2) (ha : PE X a (tI G E ma)) (hb : PE X b (tI G E mb)) (hc : PE X c (tI G E mc))
    (hm : lastMarks [p, q] [b, c] = false := by with_unfolding_all rfl) : PT X (.Compare a [p, q] [b, c] pos) (tIB G E (bVal (eChain o1 o2 ma mb mc))) :=
  (pt_chain h1 h2 ha hb hc hm).imp fun σ H Q h => chain_read s1 s2 (Q := fun x H' => ∃ k, x = .bl k ∧ Q k H') (by
    obtain ⟨ρ, S, env, hR, hE, h⟩ := h
    refine ⟨ρ, S, env, hR, hE, h.step fun ρ1 S1 H1 x e1 hR1 h1 v rv => ?_⟩
    split at h1
    · rw [rv.bl_of]
      exact ⟨_, rfl, h1.ok hR1⟩
    · exact h1.elim)
/-! reversed -/
theorem i_rev {tg : Expr} {p : Pos} (hg : Gl X "reversed") (hm : X.mg "reversed" = none) (hl : PE X e (tI G E me)) (hK : X.K = G.K := by rfl) (hs : starEach [e] X.env = [(false, eval e X.env)] := by rfl) :
    PI X tg (.Call (.Name "reversed" p) [e] [] pos) (tII G E (iRev me)) :=
  (pi_reversed hg hm (pa_cons hl pa_nil hs) hs).imp fun σ H R h => by
    obtain ⟨ρ, S, env, hR, hE, h⟩ := h
    refine ⟨ρ, S, env, hR, hE, h.step fun ρ1 S1 H1 x e1 hR1 h1 v rv => ?_⟩
    obtain ⟨⟨all, ha⟩, k⟩ := h1.ok hR1
    simp only [It.items] at ha
    cases x with
    | ls zs =>
      have r1 := rv
      unfold Rep at r1
      obtain ⟨a, vs, rfl, ⟨h2, h3⟩, h4⟩ := r1
      have sq : SqL X.K H1 a vs := .inl (.inl h2)
      refine ⟨a, vs, rfl, sq, ?_⟩
      rw [hK]
      refine k _ (src_rev fun ρ2 ρh S2 H2 ys e2 hd q h => ?_)
      cases h
      have r2 := Rep.extH e2 hd rv
      unfold Rep at r2
      obtain ⟨a', vs', e', ⟨g1, g2⟩, g3⟩ := r2
      cases e'
      exact ⟨h4.length, vs', .inl (.inl g1), g3⟩
    | _ => simp [lsOf] at ha
/-! new lists of the store -/
theorem sd_mulN : Sd2 G E (rMulU G.K) oMulN := fun ρ S H x y v u Q q rx ry h => by
  unfold oMulN at h
  split at h
  · rename_i j
    split at h
    · rename_i a h1
      split at h
      · rename_i hl
        rw [ry.int_of]
        obtain ⟨p, vs, rfl, t1, r1⟩ := lst_of q rx h1
        refine .inr (.inr (.inr ⟨p, j, vs, rfl, rfl, t1, by omega, by omega, ?_, put_new q (r1.rep _) h⟩))
        rw [← r1.length]
        exact Nat.le_trans (Nat.mul_le_mul hl.2.2 (by omega : j.toNat ≤ 1000)) (by rw [sizeLine_eq]; decide)
      · exact h.elim
    · exact h.elim
  · exact h.elim
theorem fin_new {Q : VK} : Fin G E (fun xs S => R.ok (PV.loc S.length) (S ++ [.lst xs])) Q := by
  intro ρ1 H1 ρ2 S1 S2 H2 D acc vs hD hR1 e2 hR2 hD2 nD ra h2
  have nh : D ∉ ρ2.hid := fun z => by
    rw [e2.hid] at z
    obtain ⟨⟨o, ho, _⟩, _⟩ := hR1.hd D z
    rw [hD] at ho; cases ho
  refine h2 (ρ2.add D) H2 (e2.adopt hD) (hR2.adopt nh ⟨vs, hD2, Reps.adopt _ _ ra⟩) _ ?_
  unfold Rep
  refine ⟨D, ?_, rfl⟩
  have ql : ρ2.lb.length = S2.length := hR2.len
  show (ρ2.lb ++ [D])[S2.length]? = some D
  rw [← ql]
  simp
variable {iter tg : Expr} {mi : XI} {is : List Nat} {g : XG}
theorem i_lcN {elt tg iter : Expr} {ifs : List Expr} {scope : Scope} {own : List (Str × Nat)} {pos : Pos} {mt : XB} {me : XE} (hc : X.calm = true) (hN : X.N.Nodup) (hi : PI X tg iter (tII G E mi)) (ok : BlkOk X.N X.env.scope scope own)
    (hg : ∀ (s : Shared) (H : Hp) (C : Addr) (cl : List (Str × Addr)) (fp : List Addr), PG (X.blk s H scope (compEnvC scope cl C X.env) fp) tg (tIG G E0 is g)) (ht : ∀ (s : Shared) (H : Hp) (C : Addr) (cl : List (Str × Addr)) (fp : List Addr), PTs (X.blk s H scope (compEnvC scope cl C X.env) fp) ifs (tIB G E0 mt))
    (he : ∀ (s : Shared) (H : Hp) (C : Addr) (cl : List (Str × Addr)) (fp : List Addr), PE (X.blk s H scope (compEnvC scope cl C X.env) fp) elt (tI G E0 me)) (hown : ∀ i ∈ is, i ∈ own.map (·.2) := by decide) (hs : ∀ x, foldedSetIterable iter X.env x = pure x := by intro _; rfl) :
    PE X (.ListComp elt [⟨tg, iter, ifs, 0⟩] scope pos) (tI G E (eLcN mi g mt me (own.map (·.2)))) :=
  (pe_lc hc hN hi ok hg ht he hs).imp fun σ H Q h => lc_readF fin_new (fun _ _ _ q => q) (fun _ _ _ _ q => q) (fun _ _ _ q => q) (fun _ _ _ q => q) hown h
/-! a, b = x, y -/
theorem s_par {i j : Nat} {x y : Str} {ms : XA} {px py pt : Pos} {kt k2 pt2} (hc : X.calm = true) (hN : X.N.Nodup) (hi : X.N[i]? = some x) (hj : X.N[j]? = some y) (hij : i ≠ j)
    (hx : X.env.scope.names.lookup x = some .local) (hy : X.env.scope.names.lookup y = some .local) (ha : PA X [a, b] (tIA G E ms))
    (hw : swappedStores [.Tuple [.Name x px, .Name y py] kt pt] (.Tuple [a, b] k2 pt2) X.env = pure (some [x, y]))
    (hs : swapsWithSole [.Tuple [.Name x px, .Name y py] kt pt] (.Tuple [a, b] k2 pt2) pos.line X.env = pure false := by rfl) :
    PS X (.Assign [.Tuple [.Name x px, .Name y py] kt pt] (.Tuple [a, b] k2 pt2) pos) (tIS G E (sPar i j ms)) :=
  (ps_par hc hN hi hj hij hx hy ha hw hs).imp fun D σ H h => by
    obtain ⟨ρ, S, env, hR, hE, h⟩ := h
    refine ⟨ρ, S, env, hR, hE, h.step fun ρ1 S1 H1 xs e1 hR1 h1 vs rvs => ?_⟩
    split at h1
    · obtain ⟨v, u, rfl, rv, ru⟩ := two_of rvs
      exact ⟨v, u, rfl, h1.ok hR1 _ (((hE.ext e1).set i rv).set j ru)⟩
    · exact h1.elim
end
/-! ### defs by their data, calls -/
section
variable {G : Gx} {P : Program} {w : World} {K : PySem.W.Frag} {mg : Str → Option Value} {base : Heap} {xc : Str → Option Value}
theorem def_PD {x qual : Str} {params : Arguments} {body : List Stmt} {scope : Scope} {dvs : List V} {kws : List (Str × V)} {f : Addr} {fd : FuncData} {N ps : List Str} {k : Nat} {mb : XS} (F : FunD K x qual params body scope dvs kws f fd) (sc : FnScope N ps scope)
    (hb : ∀ (cdv : Value) (A : Around) (outer : List PySem.Env) (s : Shared) (H : Hp) (E : XK), Room k (A.deeper (PyProof.Rows.envOfC qual scope s.heap.objs.size f cdv)) →
      PSs (cxOf (L2.CX P w) P w K mg base N qual scope f cdv A outer s H E) body (tIS G E mb)) : FnOk P w K mg base (L2.CX P w) (k + 1) f fd ps (spI G (fnP ps.length N.length mb)) := by
  refine F.ok sc (fun vs H Q E h => ?_) (fun cdv A outer s H vs Q E hr h => ⟨_, hb cdv A outer s H E hr, ?_⟩)
  · obtain ⟨ρ, S, args, hR, ra, h⟩ := h
    unfold fnP at h
    split at h
    · rename_i hl
      rw [← ra.length, hl]
    · exact h.elim
  · obtain ⟨ρ, S, args, hR, ra, h⟩ := h
    unfold fnP at h
    split at h
    · refine ⟨ρ, S, _, hR, envR_start ra, ?_⟩
      cases hm : mb (args.map some ++ List.replicate (N.length - args.length) none) S with
      | bad => rw [hm] at h; exact h
      | exc e S' => rw [hm] at h; exact h
      | ok p S' =>
        rw [hm] at h
        simp only [R.bind_ok] at h
        obtain ⟨fl, env'⟩ := p
        intro ρ' H' e q
        cases fl with
        | rt v => exact fun u ru => leave_ok hR e q ru h
        | nx => exact fun σ' hE' => leave_ok hR e q Rep.non h
        | bk => exact h.elim
        | ct => exact h.elim
    · exact h.elim
theorem def_KD {x qual : Str} {params : Arguments} {body : List Stmt} {scope : Scope} {dvs : List V} {kws : List (Str × V)} {f : Addr} {fd : FuncData} {N ps : List Str} {k : Nat} {mb : XS} (F : FunD K x qual params body scope dvs kws f fd) (sc : FnScope N ps scope)
    (hb : ∀ (cdv : Value) (A : Around) (outer : List PySem.Env) (s : Shared) (H : Hp) (E : XK), Room k (A.deeper (PyProof.Rows.envOfC qual scope s.heap.objs.size f cdv)) →
      PSs (cxOf (L2.CX P w) P w K mg base N qual scope f cdv A outer s H E) body (tIS G E mb)) : FnOk P w K mg base (L2.CX P w) (k + 1) f fd ps (spI G (fnK ps.length N.length mb)) := by
  refine F.ok sc (fun vs H Q E h => ?_) (fun cdv A outer s H vs Q E hr h => ⟨_, hb cdv A outer s H E hr, ?_⟩)
  · obtain ⟨ρ, S, args, hR, ra, h⟩ := h
    unfold fnK at h
    split at h
    · rename_i hl
      rw [← ra.length, hl]
    · exact h.elim
  · obtain ⟨ρ, S, args, hR, ra, h⟩ := h
    unfold fnK at h
    split at h
    · refine ⟨ρ, S, _, hR, envR_start ra, ?_⟩
      cases hm : mb (args.map some ++ List.replicate (N.length - args.length) none) S with
      | bad => rw [hm] at h; exact h
      | exc e S' => rw [hm] at h; exact h
      | ok p S' =>
        rw [hm] at h
        simp only [R.bind_ok] at h
        obtain ⟨fl, env'⟩ := p
        intro ρ' H' e q
        cases fl with
        | rt v => exact fun u ru => h ρ' H' e q u ru
        | nx => exact fun σ' hE' => h ρ' H' e q _ Rep.non
        | bk => exact h.elim
        | ct => exact h.elim
    · exact h.elim
/-- what a caller needs of a def -/
def Cl (P : Program) (w : World) (K : PySem.W.Frag) (mg : Str → Option Value) (base : Heap) (xc : Str → Option Value) (x : Str) (ps : List Str) (k : Nat) (m : XF) : Prop :=
  ∃ fd, FnOk P w K mg base (L2.CX P w) k (He.ga K x) fd ps (spI ⟨K, xc, w⟩ m) ∧ mg x = some (.ref (He.ga K x)) ∧ PySem.W.keepIn K (.ref (He.ga K x)) = true ∧ Binds K fd ps [] ∧ ∃ oc od osl, K.lookup (He.ga K x) = some ⟨oc, od, .func fd, osl⟩
theorem lkF {x qual : Str} {params : Arguments} {body : List Stmt} {scope : Scope} {dvs : List V} {kws : List (Str × V)} {f : Addr} {fd : FuncData} (F : FunD K x qual params body scope dvs kws f fd) : ∃ oc od osl, K.lookup f = some ⟨oc, od, .func fd, osl⟩ := by
  obtain ⟨oc, od, dV, kV, doc, pm, an, cdv, ct, osl, e1, l1, _⟩ := F.ex
  exact ⟨oc, od, osl, l1⟩
end
section
variable {E : XK} {X : Cx} {e o : Expr} {es : List Expr} {x m C : Str} {p pos apos : Pos} {ms : XA} {mo : XE} {k : Nat} {ps : List Str} {mf : XF} {xc : Str → Option Value}
theorem i_callC (c : Cl X.prog X.w X.K X.mg X.base xc x ps k mf) (hr : Room k X.A) (hg : Gl X x) (hx : Passes (L2.CX X.prog X.w) X E) (ha : PA X (e :: es) (tIA ⟨X.K, xc, X.w⟩ E ms)) (hdb : (x == ("__debug__" : Str)) = false := by decide)
    (hst : starEach (e :: es) X.env = (false, eval e X.env) :: starEach es X.env := by rfl) (hpl : (backTo pos (starEach es X.env)).any (·.1) = false := by rfl) : PE X (.Call (.Name x p) (e :: es) [] pos) (tI ⟨X.K, xc, X.w⟩ E (eCall mf ms)) := by
  obtain ⟨fd, h1, h2, h3, h4, _⟩ := c
  exact i_call h1 hr hg h2 h3 h4 hx ha hdb hst hpl
end
end

/-! Mini10 -/
/-! Mini10: dicts of the top by their text; a def of which nothing is asked. -/
section
open PySem L2

theorem relP_ok {K : PySem.W.Frag} : ∀ (n : Nat) (x : PV) (u : Value), relP K n x u = true → ∃ v, RelV v u ∧ ∀ ρ H, Rep K ρ H x v
  | n, .int i, u, h => by
    cases u with
    | int j t =>
      unfold relP at h
      have e : i = j := of_decide_eq_true h
      exact ⟨.int i, ⟨t, by rw [e]⟩, fun _ _ => Rep.int⟩
    | _ => unfold relP at h; cases h
  | n, .str x, u, h => by
    cases u with
    | str y t =>
      unfold relP at h
      have e : x = y := of_decide_eq_true h
      exact ⟨.str x, ⟨t, by rw [e]⟩, fun _ _ => Rep.str⟩
    | _ => unfold relP at h; cases h
  | n + 1, .tup xs, u, h => by
    cases u with
    | ref a =>
      unfold relP at h
      split at h
      · rename_i c o its m sl hl
        simp only [Bool.and_eq_true, decide_eq_true_eq] at h
        obtain ⟨rfl, h2, h3, h4⟩ := h
        have key : ∀ (xs : List PV) (us : List Value), xs.length = us.length → (∀ p ∈ xs.zip us, relP K n p.1 p.2 = true) → ∃ vs, Vals vs us ∧ ∀ ρ H, Reps K ρ H xs vs := by
          intro xs
          induction xs with
          | nil =>
            intro us hl _
            have : us = [] := List.eq_nil_of_length_eq_zero hl.symm
            subst this
            exact ⟨[], .nil, fun _ _ => Reps.nil⟩
          | cons x r ih =>
            intro us hl hz
            cases us with
            | nil => cases hl
            | cons u us =>
              obtain ⟨v, r1, r2⟩ := relP_ok n x u (hz (x, u) (by simp))
              obtain ⟨vs, q1, q2⟩ := ih us (by simpa using hl) fun p hp => hz p (by simp [hp])
              exact ⟨v :: vs, .cons r1 q1, fun ρ H => .cons (r2 ρ H) (q2 ρ H)⟩
        obtain ⟨vs, q1, q2⟩ := key xs its.toList h3 (List.all_eq_true.mp h4)
        refine ⟨.ref a, rfl, fun ρ H => ?_⟩
        unfold Rep
        exact ⟨a, vs, rfl, .inr ⟨_, its, m, hl, rfl, rfl, h2, q1⟩, q2 ρ H⟩
      · cases h
    | _ => unfold relP at h; cases h
  | 0, .tup xs, u, h => by cases u <;> (unfold relP at h; cases h)
  | n, .non, u, h => by cases u <;> (unfold relP at h; cases h)
  | n, .bl _, u, h => by cases u <;> (unfold relP at h; cases h)
  | n, .ls _, u, h => by cases u <;> (unfold relP at h; cases h)
  | n, .fz _, u, h => by cases u <;> (unfold relP at h; cases h)
  | n, .dc _ _, u, h => by cases u <;> (unfold relP at h; cases h)
  | n, .loc _, u, h => by cases u <;> (unfold relP at h; cases h)


theorem tab_of {K : PySem.W.Frag} {k : Str} : ∀ (es : List DictEntry) (ks : List Str) (xs : List PV), es.map keyStr = ks.map some → xs.length = es.length → (∀ p ∈ xs.zip es, relP K 4 p.1 p.2.val = true) →
    ∃ v, RelV v (((es.find? fun e => Value.isStrOf k e.key).map (·.val)).getD .none) ∧ ∀ ρ H, Rep K ρ H ((lookS ks xs k).getD .non) v
  | [], ks, xs, h1, h2, h3 => by
    have : ks = [] := by cases ks with | nil => rfl | cons a b => cases h1
    subst this
    have : xs = [] := List.eq_nil_of_length_eq_zero h2
    subst this
    exact ⟨.non, rfl, fun ρ H => Rep.non⟩
  | e :: es, ks, xs, h1, h2, h3 => by
    cases ks with
    | nil => cases h1
    | cons y ks =>
      cases xs with
      | nil => cases h2
      | cons x xs =>
        have a1 : keyStr e = some y := (List.cons.inj h1).1
        have a2 := (List.cons.inj h1).2
        obtain ⟨v, ih1, ih2⟩ := tab_of es ks xs a2 (by simpa using h2) fun p hp => h3 p (by simp [hp])
        obtain ⟨v0, r1, r2⟩ := relP_ok 4 x e.val (h3 (x, e) (by simp))
        have ek : ∃ t, e.key = .str y t := by
          unfold keyStr at a1
          split at a1
          · rename_i z t hz
            cases a1
            exact ⟨t, hz⟩
          · cases a1
        obtain ⟨t, ek⟩ := ek
        by_cases hy : y = k
        · refine ⟨v0, ?_, fun ρ H => ?_⟩
          · rw [List.find?_cons_of_pos (by rw [ek]; show (Value.isStrOf k (.str y t)) = true; simp [Value.isStrOf, hy])]
            exact r1
          · unfold lookS
            rw [if_pos hy]
            exact r2 ρ H
        · refine ⟨v, ?_, fun ρ H => ?_⟩
          · rw [List.find?_cons_of_neg (by rw [ek]; show ¬ (Value.isStrOf k (.str y t)) = true; simp [Value.isStrOf, hy])]
            exact ih1
          · unfold lookS
            rw [if_neg hy]
            exact ih2 ρ H
theorem dictP_ok {K : PySem.W.Frag} {w : World} {a : Addr} {ks : List Str} {xs : List PV} {es : Array DictEntry} {n : Nat} (D : KDict K w a es n) (h : dictP K a ks xs = true) : Tab K es ks xs := by
  unfold dictP at h
  rw [D.at_] at h
  simp only [Bool.and_eq_true, decide_eq_true_eq] at h
  obtain ⟨h1, h2, h3⟩ := h
  intro k
  have q := tab_of (k := k) es.toList ks xs h1 h2 (List.all_eq_true.mp h3)
  unfold findBy
  rw [← Array.find?_toList]
  exact q
theorem i_kgetT {E : XK} {X : Cx} {e : Expr} {me : XE} {xc : Str → Option Value} {x : Str} {p apos cpos : Pos} {ks : List Str} {xs : List PV} (h : ∃ a es n, X.mg x = some (.ref a) ∧ KDict X.K X.w a es n ∧ Tab X.K es ks xs) (hg : Gl X x) (he : PE X e (tI ⟨X.K, xc, X.w⟩ E me))
    (m : M1 X (.Name x p) "get" apos e cpos) (hd : (x == ("__debug__" : Str)) = false := by decide) : PE X (.Call (.Attribute (.Name x p) "get" apos) [e] [] cpos) (tI ⟨X.K, xc, X.w⟩ E (eGetS ks xs me)) := by
  obtain ⟨a, es, n, h1, h2, h3⟩ := h
  exact i_kget hg h1 h2.at_ h2.lit h2.low h3 he m hd
end

/-! MiniU -/
/-! MiniU: d.update(e), e written out, texts the keys. -/
section
open PySem PySem.Spec PyProof.Rows L2
end

/-! Mini11 -/
/-! Mini11: a law's end. -/
section
open PySem L2
/-- a law that is true at every script, by the small machine -/
theorem law_end {l : PySem.W.OpenLaw} {P : Program} {w : World} {K : PySem.W.Frag} {mg : Str → Option Value} {h : Heap} {fa : Addr} {k : Nat} {x : Str} {m : XF} {d : He.DefD} {xc : Str → Option Value}
    (F : ∃ fd, FunD K d.name d.qual d.params d.body d.scope (d.dvs K) (d.kws K) (He.fAd K d.at_) fd) (hmg : mg ("law" : Str) = some (.ref fa)) (hg : mg ("law" : Str) = some (.ref (He.ga K "law")))
    (hT : ∀ p ∈ KD, h.get? (He.cT K p).2 = some { cls := .none, data := .fields #[] } ∧ K.lookup (He.cT K p).2 = none ∧ PySem.W.CodeHd h (He.cT K p).1 (He.cT K p).2)
    (hc : ∀ base, (∀ p ∈ KD, LamX.TabB base mg (He.cT K p).1 (He.cT K p).2) → Cl P w K mg base xc "law" [x] k m) (hm : ∀ ns : List Int, ns.length ≤ 63 → (∀ z ∈ ns, Builtin.Int.intBits z ≤ 1048576) → ∃ S, m [.fz (ns.map .int)] [] = .ok (.bl true) S)
    (hP : l.prog = P := by rfl) (hd0 : He.fAd K d.at_ = He.ga K "law" := by rfl) (hdv : d.dvs K = [] := by rfl) (hkw : d.kws K = [] := by rfl)
    (hbi : ∀ (kV doc pm : Value) (an : Option Addr) (cdv ct : Value) (us : List Value), us.length = 1 → bindArgs (PySem.W.fnOf d.name d.qual d.params d.body d.scope .none kV doc pm an cdv ct) ⟨us, []⟩ = pure ([x].zip us) := by exact fun _ _ _ _ _ _ us hl => match us, hl with | [_], _ => rfl) :
    LamX.LawAtS l w K (L2.CX P w) k 63 x mg fa h := by
  subst hP
  have e : fa = He.ga K "law" := by
    rw [hg] at hmg
    cases hmg
    rfl
  subst e
  obtain ⟨fd, F⟩ := F
  rw [hdv, hkw, hd0] at F
  refine ⟨fd, KD.map (He.cT K), spI ⟨K, xc, w⟩ m, ?_, ?_, ?_, fun s u => F.bindsA (ps := [x]) hbi s [u] rfl, ?_, ?_⟩
  · intro p hp
    obtain ⟨q, hq, rfl⟩ := List.mem_map.mp hp
    exact (hT q hq).1
  · intro p hp
    obtain ⟨q, hq, rfl⟩ := List.mem_map.mp hp
    exact (hT q hq).2.1
  · intro p hp
    obtain ⟨q, hq, rfl⟩ := List.mem_map.mp hp
    exact (hT q hq).2.2
  · intro H a ns hl hb hcs hS
    obtain ⟨S, hm⟩ := hm ns hl hb
    refine ⟨⟨[], []⟩, [], [.fz (ns.map .int)], ⟨rfl, List.nodup_nil, fun l c a h1 h2 => (by cases h1), fun a ha => (by cases ha), fun p hp => ?_⟩, ?_, ?_⟩
    · obtain ⟨q, hq, rfl⟩ := List.mem_map.mp hp
      exact LamX.TabS.nil (hcs _ (List.mem_map_of_mem hq))
    · refine Reps.cons ?_ Reps.nil
      unfold Rep
      refine ⟨a, ns.map V.int, rfl, ?_, ?_⟩
      · rcases hS with hS | hS
        · exact .inl ⟨hS, by simp [Rho.Out]⟩
        · exact .inr hS
      · clear hm hS hl hb
        induction ns with
        | nil => exact Reps.nil
        | cons i r ih => exact .cons Rep.int ih
    · show Aft _ _ _ _ (m [.fz (ns.map .int)] []) _
      rw [hm]
      intro ρ' H' e q v rv
      exact rv.bl_of
  · intro base hB hN hTB
    obtain ⟨fd2, h1, _, _, _, oc2, od2, osl2, l2⟩ := hc base fun p hp => hTB _ (List.mem_map_of_mem hp)
    obtain ⟨oc, od, osl, l1⟩ := lkF F
    rw [l1] at l2
    cases l2
    exact h1
end

/-! Mini12 -/
/-! Mini12: f-strings, raise. -/
section
open PySem L2
/-- {e} -/
def eFmt (m : XE) : XE := fun env S => (m env S).bind fun x S1 => match x with
  | .str y => if y.length ≤ lim then .ok (.str y) S1 else .bad
  | .int i => if i.natAbs.log2 < 1920 then .ok (.str (toString i : String)) S1 else .bad
  | _ => .bad
def jGo : List XE → Str → XE
  | [], acc, _, S => .ok (.str acc) S
  | m :: ms, acc, env, S => (m env S).bind fun x S1 => match x with
    | .str y => if (acc ++ y).length ≤ lim then jGo ms (acc ++ y) env S1 else .bad
    | _ => .bad
/-- f'..' of two parts or more -/
def eJoin (ms : List XE) : XE := jGo ms Str.empty
/-- raise C(m), C an own class without own __init__ -/
def sRaise (c : Str) (m : XE) : XS := fun env S => (m env S).bind fun _ S1 => .exc ⟨c, []⟩ S1
section
variable {G : Gx} {E : XK} {X : Cx} {e : Expr} {me : XE} {pos p pos' : Pos}
theorem i_fmt (he : PE X e (tI G E me)) : PE X (.FormattedValue e (-1) none pos) (tI G E (eFmt me)) :=
  (pe_fmt he).imp fun σ H Q h => by
    obtain ⟨ρ, S, env, hR, hE, h⟩ := h
    refine ⟨ρ, S, env, hR, hE, h.step fun ρ1 S1 H1 x e1 hR1 h1 v rv => ?_⟩
    cases x with
    | str y =>
      simp only at h1
      split at h1
      · rename_i hy
        exact .inl ⟨y, rv.str_of, lim_le hy, h1.ok hR1 _ Rep.str⟩
      · exact h1.elim
    | int i =>
      simp only at h1
      split at h1
      · rename_i hi
        exact .inr ⟨i, rv.int_of, hi, h1.ok hR1 _ Rep.str⟩
      · exact h1.elim
    | _ => exact h1.elim
inductive JS (G : Gx) (E : XK) (X : Cx) : List Expr → List XE → Prop where
  | nil : JS G E X [] []
  | cons {e : Expr} {m : XE} {es : List Expr} {ms : List XE} (h : PE X e (tI G E m)) (r : JS G E X es ms) : JS G E X (e :: es) (m :: ms)
theorem JS.pj {es : List Expr} {ms : List XE} (h : JS G E X es ms) : PJ X es (ms.map (tI G E)) := by
  induction h with
  | nil => exact .nil
  | cons h _ ih => exact .cons h ih
theorem js_read {σ : L2.St} {env : Env} {Q : VK} : ∀ (ms : List XE) (acc : Str) (ρ : Rho) (S : Store) (H : Hp), Rel G.w G.K ρ S H → EnvR G.K ρ H env σ → Aft G E ρ H (jGo ms acc env S) (kV G Q) → tJs (ms.map (tI G E)) acc σ H fun out H1 => Q (.str out) H1
  | [], acc, ρ, S, H, hR, hE, h => h.ok hR _ Rep.str
  | m :: ms, acc, ρ, S, H, hR, hE, h => by
    refine ⟨ρ, S, env, hR, hE, Aft.step h fun ρ1 S1 H1 x e1 hR1 h1 v rv => ?_⟩
    cases x with
    | str y =>
      simp only at h1
      split at h1
      · rename_i hy
        exact ⟨y, rv.str_of, lim_le hy, js_read ms _ ρ1 S1 H1 hR1 (hE.ext e1) h1⟩
      · exact h1.elim
    | _ => exact h1.elim
theorem i_join {v1 v2 : Expr} {rest : List Expr} {ms : List XE} (h : JS G E X (v1 :: v2 :: rest) ms) : PE X (.JoinedStr (v1 :: v2 :: rest) pos) (tI G E (eJoin ms)) :=
  (pe_joined h.pj).imp fun σ H Q q => by
    obtain ⟨ρ, S, env, hR, hE, q⟩ := q
    exact js_read ms _ ρ S H hR hE q
/-- what is known of an own class that is raised -/
structure Own (K : PySem.W.Frag) (xc : Str → Option Value) (x : Str) (C : Addr) : Prop where
  q : PySem.W.excIn K C He.veBase "ValueError.__new__" = true
  kC : PySem.W.keepIn K (.ref C) = true
  h1 : PySem.W.subIn K (.ref C) (.type "BaseException") = some true
  h2 : PySem.W.typeIn K (.ref C) = some (.type "type")
  hx : xc x = some (.ref C)
theorem s_raise {x : Str} {C : Addr} (o : Own X.K G.xc x C) (hK : X.K = G.K) (hc : X.calm = true) (tk : Takes X fun cls d _ H => E cls d H) (gC : X.mg x = some (.ref C)) (hg : Gl X x) (he : PE X e (tI G E me))
    (hs : starEach [e] X.env = (false, eval e X.env) :: starEach [] X.env := by rfl) (hdb : (x == ("__debug__" : Str)) = false := by decide) : PS X (.Raise (some (.Call (.Name x p) [e] [] pos)) none pos') (tIS G E (sRaise x me)) :=
  (ps_raise hc tk (SkE.pmk_own1 PySem.F.excBase_ValueError o.q gC o.kC (raises_own o.h1 o.h2) hg he hs hdb)).imp fun D σ H h => by
    obtain ⟨ρ, S, env, hR, hE, h⟩ := h
    refine ⟨ρ, S, env, hR, hE, h.step fun ρ1 S1 H1 y e1 hR1 h1 v rv => ?_⟩
    exact h1 ρ1 H1 _ none (Ext.refl _ _) hR1 ⟨o.hx, .inl ⟨rfl, rfl⟩⟩
end
end

/-! Mini13 -/
/-! Mini13: list.count of truth values; a def that tells the class of what its lambda lets out. -/
section
open PySem L2
section
variable {X : Cx}
end
end

/-! Mini14 -/
/-! Mini14: a def that tells, by a word, which own error its argument lets out. -/
section
open PySem PySem.Spec PyProof.Rows L2
section
variable {X : Cx} {a C D : Addr} {oe : Obj} {pn : List (Addr × Obj)} {ie ik : Nat} {e k c : Str} {b : Bool} {bs : List Bool} {x : Expr} {es : List Expr} {p p1 p2 p3 p4 pos : Pos}
variable {Y : Cx}
theorem atI_nat {α : Type} {xs : List α} {m : Nat} {v : α} (h : xs[m]? = some v) : atI xs (m : Int) = some v := by
  have hm := (List.getElem?_eq_some_iff.mp h).1
  unfold atI ixN
  rw [if_pos (by omega), if_pos (by omega)]
  exact h
end
def kindNames : List Str := ["BadProgram", "BadNumber", "TooMany", "NotLet", "BadStates", "BadGiven", "BadFuel", "BadNoise", "BadSaves", "BadText"]
/-- C is the class number j -/
structure KindC (K : PySem.W.Frag) (C : Addr) (j : Nat) : Prop where
  ex : ExcC K C
  is_ : ∀ (m : Nat) (c : Str), kindNames[m]? = some c → PySem.W.kitOne K (.ref C) (.ref (He.ga K c)) = some (decide (m = j))
  ve : PySem.W.kitOne K (.ref C) (.type "ValueError") = some true
  pa : PySem.W.exmOne K (.ref C) (.ref (He.ga K "PactError")) = some true
def Keeps (H H' : Hp) : Prop := ∀ b o, H b = some o → H' b = some o
theorem Keeps.new {H H' : Hp} {p : Addr} {o : HO} (k : Keeps H H') (h : H' p = none) : Keeps H (upd H' p o) := fun b u e => by rw [upd_ne (ne_of_none (k b u e) h)]; exact k b u e
end

/-! Mini15 -/
/-! Mini15: the class, by its word, of what a lambda lets out. -/
section
open PySem PySem.Spec PyProof.Rows L2
section
variable {w : World} {K : PySem.W.Frag} {ρ : Rho} {S : Store} {H H' : Hp} {G : Gx} {E : XK} {mb : XE}
theorem Rel.over (q : Rel w K ρ S H) (e : Ext ρ H ρ H') (kp : ∀ a o, H a = some o → Plain o → H' a = some o) (t : LamX.Tabs (KT K) H') : Rel w K ρ S H' :=
  ⟨q.len, q.nd, fun l c a h1 h2 => let ⟨o, ho, po⟩ := (q.at_ l c a h1 h2).thereP; (q.at_ l c a h1 h2).ext e (by rw [ho]; exact kp a o ho po), fun a ha => let ⟨⟨o, ho, po⟩, n⟩ := q.hd a ha; ⟨⟨o, kp a o ho po, po⟩, n⟩, t⟩
end
/-! ### what is known of the classes, as a look into the written part -/
/-- an error's word is its class -/
def xcK (K : PySem.W.Frag) : Str → Option Value := fun w => some (.ref (He.ga K w))
end

/-! MiniD -/
/-! MiniD: dicts of the store whose keys are tuples of any depth. -/
section
open PySem PySem.Spec PyProof.Rows L2
/-! ### the machine -/
def isKey : PV → Bool
  | .tup xs => keyD 8 (.tup xs)
  | _ => false
def lookN : List PV → List PV → PV → Option PV
  | k :: ks, v :: vs, x => if k = x then some v else lookN ks vs x
  | _, _, _ => none
def replN : List PV → List PV → PV → PV → List PV
  | k :: ks, v :: vs, x, y => (if k = x then y else v) :: replN ks vs x y
  | _, _, _, _ => []
def putN (ks vs : List PV) (x y : PV) : List PV × List PV := if (lookN ks vs x).isSome = true then (ks, replN ks vs x y) else (ks ++ [x], vs ++ [y])
def dnOf (S : Store) : PV → Option (List PV × List PV)
  | .loc l => match S[l]? with
    | some (.dkn ks vs) => some (ks, vs)
    | _ => none
  | _ => none
def oNotInD : Op2 := fun x y S => match dnOf S y with
  | some (ks, vs) => if isKey x = true then .ok (.bl (!(lookN ks vs x).isSome)) S else .bad
  | none => .bad
def oIxD : Op2 := fun o i S => match dnOf S o with
  | some (ks, vs) => if isKey i = true then match lookN ks vs i with
      | some v => .ok v S
      | none => .bad
    else .bad
  | none => .bad
def oSetD (o i v : PV) (S : Store) : R Unit := match o with
  | .loc l => match S[l]? with
    | some (.dkn ks vs) => if isKey i = true ∧ ks.length < lim then .ok () (S.set l (.dkn (putN ks vs i v).1 (putN ks vs i v).2)) else .bad
    | _ => .bad
  | _ => .bad
def gSbD (o i : XE) : XG := fun x env S => (o env S).bind fun ov S => (i env S).bind fun iv S => (oSetD ov iv x S).bind fun _ S => .ok env S
def bLenD : Bf := fun xs S => match xs with
  | [x] => match dnOf S x with
    | some (ks, _) => if ks.length ≤ lim then .ok (.int ks.length) S else .bad
    | none => .bad
  | _ => .bad
/-- {k: v} -/
def eDn (k v : XE) : XE := fun env S => (k env S).bind fun x S => (v env S).bind fun y S => if isKey x = true then .ok (.loc S.length) (S ++ [.dkn [x] [y]]) else .bad
/-! ### keys in the heap -/
section
variable {X : Cx} {pins : List (Addr × Obj)} {σ : L2.St} {H : Hp} {s : Shared} {ρ : Rho}
theorem isKey_of {x : PV} (h : isKey x = true) : keyD 8 x = true := by
  cases x with
  | tup xs => exact h
  | _ => cases h
mutual
theorem nk_is (I : Inv X pins σ H s) : ∀ (x : PV) (d : Nat) (v : V) (u : Value), keyD d x = true → Rep X.K ρ H x v → RelV v u → NestedIs s.heap (nk x) u ∧ (nk x).depth ≤ d
  | .non, d, v, u, _, r, q => by
    rw [r.non_of] at q
    cases q
    exact ⟨.none, Nat.zero_le _⟩
  | .int i, d, v, u, _, r, q => by
    rw [r.int_of] at q
    obtain ⟨t, rfl⟩ := q
    exact ⟨.int i t, Nat.zero_le _⟩
  | .str x, d, v, u, _, r, q => by
    rw [r.str_of] at q
    obtain ⟨t, rfl⟩ := q
    exact ⟨.text x t, Nat.zero_le _⟩
  | .tup xs, 0, v, u, h, _, _ => by unfold keyD at h; cases h
  | .tup xs, d + 1, v, u, h, r, q => by
    unfold keyD at h
    unfold Rep at r
    obtain ⟨a, vs, rfl, h1, h2⟩ := r
    cases q
    obtain ⟨its, rv, ⟨o, ho, hc, n, hd⟩, _⟩ := I.tuple h1.sq
    obtain ⟨k1, k2⟩ := nks_is I xs d vs its h h2 rv
    refine ⟨.tup ho hc hd (by simpa using k1), ?_⟩
    show NestedKey.depthAll (nks xs) + 1 ≤ d + 1
    omega
  | .bl _, d, v, u, h, _, _ => by cases d <;> (unfold keyD at h; cases h)
  | .ls _, d, v, u, h, _, _ => by cases d <;> (unfold keyD at h; cases h)
  | .fz _, d, v, u, h, _, _ => by cases d <;> (unfold keyD at h; cases h)
  | .dc _ _, d, v, u, h, _, _ => by cases d <;> (unfold keyD at h; cases h)
  | .loc _, d, v, u, h, _, _ => by cases d <;> (unfold keyD at h; cases h)
theorem nks_is (I : Inv X pins σ H s) : ∀ (xs : List PV) (d : Nat) (vs : List V) (us : List Value), xs.all (keyD d) = true → Reps X.K ρ H xs vs → Vals vs us → NestedAll s.heap (nks xs) us ∧ NestedKey.depthAll (nks xs) ≤ d
  | [], d, vs, us, _, r, q => by
    unfold Reps at r
    subst r
    cases q
    exact ⟨.nil, Nat.zero_le _⟩
  | x :: xs, d, vs, us, h, r, q => by
    rw [List.all_cons, Bool.and_eq_true] at h
    obtain ⟨v, t, rfl, r1, r2⟩ := r.uncons
    cases q with
    | cons q1 q2 =>
      obtain ⟨a1, a2⟩ := nk_is I x d v _ h.1 r1 q1
      obtain ⟨b1, b2⟩ := nks_is I xs d t _ h.2 r2 q2
      exact ⟨.cons a1 b1, Nat.max_le.mpr ⟨a2, b2⟩⟩
end
mutual
theorem nk_inj : ∀ (x y : PV) (d e : Nat), keyD d x = true → keyD e y = true → nk x = nk y → x = y
  | .non, y, d, e, _, hy, h => by
    cases y with
    | non => rfl
    | int j => unfold nk at h; cases h
    | str t => unfold nk at h; cases h
    | tup ys => unfold nk at h; cases h
    | _ => cases e <;> (unfold keyD at hy; cases hy)
  | .int i, y, d, e, _, hy, h => by
    cases y with
    | int j => unfold nk at h; injection h with h; rw [h]
    | non => unfold nk at h; cases h
    | str t => unfold nk at h; cases h
    | tup ys => unfold nk at h; cases h
    | _ => cases e <;> (unfold keyD at hy; cases hy)
  | .str i, y, d, e, _, hy, h => by
    cases y with
    | str j => unfold nk at h; injection h with h; rw [h]
    | non => unfold nk at h; cases h
    | int t => unfold nk at h; cases h
    | tup ys => unfold nk at h; cases h
    | _ => cases e <;> (unfold keyD at hy; cases hy)
  | .tup xs, y, d, e, hx, hy, h => by
    cases y with
    | tup ys =>
      cases d with
      | zero => unfold keyD at hx; cases hx
      | succ d =>
        cases e with
        | zero => unfold keyD at hy; cases hy
        | succ e =>
          unfold keyD at hx hy
          unfold nk at h
          injection h with h
          rw [nks_inj xs ys d e hx hy h]
    | non => unfold nk at h; cases h
    | int j => unfold nk at h; cases h
    | str t => unfold nk at h; cases h
    | _ => cases e <;> (unfold keyD at hy; cases hy)
  | .bl _, y, d, e, h, _, _ => by cases d <;> (unfold keyD at h; cases h)
  | .ls _, y, d, e, h, _, _ => by cases d <;> (unfold keyD at h; cases h)
  | .fz _, y, d, e, h, _, _ => by cases d <;> (unfold keyD at h; cases h)
  | .dc _ _, y, d, e, h, _, _ => by cases d <;> (unfold keyD at h; cases h)
  | .loc _, y, d, e, h, _, _ => by cases d <;> (unfold keyD at h; cases h)
theorem nks_inj : ∀ (xs ys : List PV) (d e : Nat), xs.all (keyD d) = true → ys.all (keyD e) = true → nks xs = nks ys → xs = ys
  | [], [], _, _, _, _, _ => rfl
  | [], y :: ys, _, _, _, _, h => by unfold nks at h; cases h
  | x :: xs, [], _, _, _, _, h => by unfold nks at h; cases h
  | x :: xs, y :: ys, d, e, hx, hy, h => by
    rw [List.all_cons, Bool.and_eq_true] at hx hy
    unfold nks at h
    injection h with h1 h2
    rw [nk_inj x y d e hx.1 hy.1 h1, nks_inj xs ys d e hx.2 hy.2 h2]
end
/-- the entries as they stand, behind the ones that are known -/
abbrev EnR : List (NestedKey × Addr × V) → List (NestedKey × Addr × Value) → Prop := Paired fun p q => p.1 = q.1 ∧ p.2.1 = q.2.1 ∧ RelV p.2.2 q.2.2
theorem dk_all (I : Inv X pins σ H s) : ∀ {ks xs : List PV} {kvs : List (NestedKey × Addr × V)} {es : List (NestedKey × Addr × Value)}, DkAt X.K ρ H ks xs kvs → EnR kvs es → ∀ x ∈ es, (nestedKind X.prog X.w).is s.heap x.1 x.2.1
  | [], [], _, es, k, e, x, hx => by
    have k : _ = [] := k
    rw [k] at e
    cases e
    cases hx
  | k0 :: ks, x0 :: xs, _, es, k, e, x, hx => by
    obtain ⟨b, v, r, rfl, h1, h2, h3, h4⟩ := k
    cases e with
    | @cons p q ps qs e1 e2 =>
      rcases List.mem_cons.mp hx with rfl | hx
      · have := nk_is I k0 8 (.ref b) (.ref b) h1 h2 rfl
        obtain ⟨e3, e4, _⟩ := e1
        show NestedIs s.heap x.1 (.ref x.2.1) ∧ x.1.depth ≤ 8
        rw [← e3, ← e4]
        exact this
      · exact dk_all I h4 e2 x hx
  | [], _ :: _, _, _, k, _, _, _ => k.elim
  | _ :: _, [], _, _, k, _, _, _ => k.elim
theorem dn_of (I : Inv X pins σ H s) {a : Addr} {ks xs : List PV} {kvs : List (NestedKey × Addr × V)} (h : H a = some (DnO X.w a kvs)) (k : DkAt X.K ρ H ks xs kvs) : (a == sysModules) = false ∧ ∃ es, EnR kvs es ∧ s.heap.DictOfH (nestedKind X.prog X.w) a es := by
  obtain ⟨⟨es, e1, e2, o, en, ep, e3, e4, e5, e6, e7⟩, _, _⟩ := I.hok a _ h
  exact ⟨e2, es, e1, o, en, ep, e3, e4, e5, e6, dk_all I k e1, e7⟩
theorem dk_len : ∀ {K : PySem.W.Frag} {ks xs : List PV} {kvs : List (NestedKey × Addr × V)}, DkAt K ρ H ks xs kvs → kvs.length = ks.length ∧ xs.length = ks.length
  | K, [], [], _, k => by
    have k : _ = [] := k
    rw [k]
    exact ⟨rfl, rfl⟩
  | K, k0 :: ks, x0 :: xs, _, k => by
    obtain ⟨b, v, r, rfl, h1, h2, h3, h4⟩ := k
    obtain ⟨a1, a2⟩ := dk_len h4
    exact ⟨congrArg Nat.succ a1, congrArg Nat.succ a2⟩
  | K, [], _ :: _, _, k => k.elim
  | K, _ :: _, [], _, k => k.elim
theorem dk_look {x : PV} (hx : keyD 8 x = true) : ∀ {K : PySem.W.Frag} {ks xs : List PV} {kvs : List (NestedKey × Addr × V)} {es : List (NestedKey × Addr × Value)}, DkAt K ρ H ks xs kvs → EnR kvs es →
    match lookN ks xs x with
    | some y => ∃ b v u, atKey es (nk x) = some (b, u) ∧ RelV v u ∧ Rep K ρ H y v
    | none => atKey es (nk x) = none
  | K, [], [], _, es, k, e => by
    have k : _ = [] := k
    rw [k] at e
    cases e
    exact rfl
  | K, k0 :: ks, x0 :: xs, _, es, k, e => by
    obtain ⟨b, v, r, rfl, h1, h2, h3, h4⟩ := k
    cases e with
    | @cons p q ps qs e1 e2 =>
      obtain ⟨e3, e4, e5⟩ := e1
      by_cases hk : k0 = x
      · subst hk
        have e3 : nk k0 = q.1 := e3
        unfold lookN
        rw [if_pos rfl]
        refine ⟨q.2.1, v, q.2.2, ?_, e5, h3⟩
        unfold atKey
        rw [List.find?_cons, decide_eq_true e3.symm]
        rfl
      · have e3 : nk k0 = q.1 := e3
        have hne : ¬ q.1 = nk x := fun z => hk (nk_inj k0 x 8 8 h1 hx (by rw [e3, z]))
        unfold lookN
        rw [if_neg hk]
        have ih := dk_look hx h4 e2
        have ea : atKey (q :: qs) (nk x) = atKey qs (nk x) := by
          unfold atKey
          rw [List.find?_cons, decide_eq_false hne]
        rw [ea]
        exact ih
  | K, [], _ :: _, _, _, k, _ => k.elim
  | K, _ :: _, [], _, _, k, _ => k.elim
theorem dk_app {x y : PV} {b : Addr} {v : V} (hx : keyD 8 x = true) : ∀ {K : PySem.W.Frag} {ks xs : List PV} {kvs : List (NestedKey × Addr × V)}, Rep K ρ H x (.ref b) → Rep K ρ H y v → DkAt K ρ H ks xs kvs → DkAt K ρ H (ks ++ [x]) (xs ++ [y]) (kvs ++ [(nk x, b, v)])
  | K, [], [], _, rx, ry, k => by
    have k : _ = [] := k
    rw [k]
    exact ⟨b, v, [], rfl, hx, rx, ry, rfl⟩
  | K, k0 :: ks, x0 :: xs, _, rx, ry, k => by
    obtain ⟨b, v, r, rfl, h1, h2, h3, h4⟩ := k
    exact ⟨b, v, _, rfl, h1, h2, h3, dk_app hx rx ry h4⟩
  | K, [], _ :: _, _, _, _, k => k.elim
  | K, _ :: _, [], _, _, _, k => k.elim
theorem dk_repl {x y : PV} {v : V} {u : Value} (hx : keyD 8 x = true) : ∀ {K : PySem.W.Frag} {ks xs : List PV} {kvs : List (NestedKey × Addr × V)} {es : List (NestedKey × Addr × Value)}, Rep K ρ H y v → RelV v u → DkAt K ρ H ks xs kvs → EnR kvs es →
    ∃ kvs', DkAt K ρ H ks (replN ks xs x y) kvs' ∧ EnR kvs' (es.map (putAt (nk x) u))
  | K, [], [], _, es, ry, rv, k, e => by
    have k : _ = [] := k
    rw [k] at e
    cases e
    exact ⟨[], rfl, .nil⟩
  | K, k0 :: ks, x0 :: xs, _, es, ry, rv, k, e => by
    obtain ⟨b, v0, r, rfl, h1, h2, h3, h4⟩ := k
    cases e with
    | @cons p q ps qs e1 e2 =>
      obtain ⟨e3, e4, e5⟩ := e1
      have e3 : nk k0 = q.1 := e3
      have e4 : b = q.2.1 := e4
      obtain ⟨kvs', g1, g2⟩ := dk_repl hx ry rv h4 e2
      by_cases hk : k0 = x
      · subst hk
        refine ⟨(nk k0, b, v) :: kvs', ⟨b, v, _, rfl, h1, h2, ?_, g1⟩, ?_⟩
        · rw [if_pos rfl]
          exact ry
        · rw [List.map_cons]
          refine .cons ?_ g2
          unfold putAt
          rw [if_pos e3.symm]
          exact ⟨e3, e4, rv⟩
      · have hne : ¬ q.1 = nk x := fun z => hk (nk_inj k0 x 8 8 h1 hx (by rw [e3, z]))
        refine ⟨(nk k0, b, v0) :: kvs', ⟨b, v0, _, rfl, h1, h2, ?_, g1⟩, ?_⟩
        · rw [if_neg hk]
          exact h3
        · rw [List.map_cons]
          refine .cons ?_ g2
          unfold putAt
          rw [if_neg hne]
          exact ⟨e3, e4, e5⟩
  | K, [], _ :: _, _, _, _, _, k, _ => k.elim
  | K, _ :: _, [], _, _, _, _, k, _ => k.elim
theorem dk_put {x y : PV} {b : Addr} {v : V} {u : Value} (hx : keyD 8 x = true) {K : PySem.W.Frag} {ks xs : List PV} {kvs : List (NestedKey × Addr × V)} {es : List (NestedKey × Addr × Value)} (rx : Rep K ρ H x (.ref b)) (ry : Rep K ρ H y v) (rv : RelV v u) (k : DkAt K ρ H ks xs kvs) (e : EnR kvs es) :
    ∃ kvs', DkAt K ρ H (putN ks xs x y).1 (putN ks xs x y).2 kvs' ∧ EnR kvs' (storedH es (nk x) b u) := by
  have q := dk_look hx k e
  unfold putN
  cases hl : lookN ks xs x with
  | some z =>
    rw [hl] at q
    obtain ⟨b', v', u', q1, _, _⟩ := q
    rw [if_pos (show (some z).isSome = true from rfl), storedH_old q1]
    exact dk_repl hx ry rv k e
  | none =>
    rw [hl] at q
    rw [if_neg (by decide), storedH_new q]
    exact ⟨_, dk_app hx rx ry k, Paired.snoc e ⟨rfl, rfl, rv⟩⟩
end

/-! ### readings -/
section
variable {X : Cx}
/-- a dict of the store and a key -/
def AtD (w : World) (K : PySem.W.Frag) (H : Hp) (d k : V) (P : Rho → List PV → List PV → PV → Addr → Prop) : Prop := ∃ ρ a b ks xs kvs x, d = .ref a ∧ k = .ref b ∧ H a = some (DnO w a kvs) ∧ DkAt K ρ H ks xs kvs ∧ keyD 8 x = true ∧ Rep K ρ H x (.ref b) ∧ P ρ ks xs x a
def rNotInD (w : World) (K : PySem.W.Frag) : R2 := fun x y H Q => AtD w K H y x fun _ ks xs k _ => Q (.bl (!(lookN ks xs k).isSome)) H
def rIxDn (w : World) (K : PySem.W.Frag) : R2 := fun x y H Q => AtD w K H x y fun ρ ks xs k _ => ∃ z, lookN ks xs k = some z ∧ ∀ v, Rep K ρ H z v → Q v H
def rSetDn (w : World) (K : PySem.W.Frag) : TSet := fun o i v H Q => AtD w K H o i fun ρ ks xs k a => ks.length < lim ∧ ∃ z, Rep K ρ H z v ∧ ∀ kvs, DkAt K ρ H (putN ks xs k z).1 (putN ks xs k z).2 kvs → Q (upd H a (DnO w a kvs))
theorem look_some {w : World} {P : Program} {H : Hp} {h : Heap} {ρ : Rho} {K : PySem.W.Frag} {ks xs : List PV} {kvs : List (NestedKey × Addr × V)} {es : List (NestedKey × Addr × Value)} {x : PV} (hx : keyD 8 x = true) (k : DkAt K ρ H ks xs kvs) (e : EnR kvs es) : (atKey es (nk x)).isSome = (lookN ks xs x).isSome := by
  have q := dk_look hx k e
  cases hl : lookN ks xs x with
  | some z =>
    rw [hl] at q
    obtain ⟨b', v', u', q1, _, _⟩ := q
    rw [q1]
    rfl
  | none =>
    rw [hl] at q
    rw [q]
    rfl
theorem op_notInD (hu : X.A.units + 10 < cLine) : OpR X (compareOp .NotIn) (rNotInD X.w X.K) := by
  intro pins s σ H x y v u Q I rx ry h
  obtain ⟨ρ, a, b, ks, xs, kvs, k, rfl, rfl, ha, hk, hd, hr, q⟩ := h
  cases rx
  cases ry
  obtain ⟨hs, es, e1, dd⟩ := dn_of I ha hk
  refine wpAny_notIn_heap (knd := nestedKind X.prog X.w) (show X.A.units + 1 + 8 < cLine by omega) (nk_is I k 8 _ _ hd hr rfl) hs dd ?_
  rw [look_some (w := X.w) (P := X.prog) (h := s.heap) hd hk e1]
  exact ⟨.bl _, H, I.tok _, rfl, q⟩
theorem ix_Dn (hu : X.A.units + 10 < cLine) : IxR X (rIxDn X.w X.K) := by
  intro value slice pins s σ H x y v u Q I rx ry h hs
  obtain ⟨ρ, a, b, ks, xs, kvs, k, rfl, rfl, ha, hk, hd, hr, z, hz, q⟩ := h
  cases rx
  cases ry
  obtain ⟨_, es, e1, dd⟩ := dn_of I ha hk
  have hl := dk_look hd hk e1
  rw [hz] at hl
  obtain ⟨b', v', u', q1, q2, q3⟩ := hl
  exact PyProof.Rows.tail_any dd.typeIs PySem.F.slot_dict_getitem.lookup (wpAny_getItem_heap (knd := nestedKind X.prog X.w) (show X.A.units + 1 + 8 < cLine by omega) (nk_is I k 8 _ _ hd hr rfl) dd q1 ⟨v', H, I.tok _, q2, q v' q3⟩) hs
theorem set_Dn (hu : X.A.units + 10 < cLine) : PSet X (rSetDn X.w X.K) := by
  intro pins s σ H o i v ov iv u Q I ro ri rv h
  obtain ⟨ρ, a, b, ks, xs, kvs, k, rfl, rfl, ha, hk, hd, hr, hl, z, rz, q⟩ := h
  cases ro
  cases ri
  obtain ⟨hs, es, e1, dd⟩ := dn_of I ha hk
  obtain ⟨kvs', g1, g2⟩ := dk_put hd hr rz rv hk e1
  have hz : es.length ≤ sizeLine := by
    have z1 := Paired.length e1
    have z2 := (dk_len hk).1
    have := lim_line
    omega
  refine wpAny_setItem_heap (knd := nestedKind X.prog X.w) (show X.A.units + 1 + 8 < cLine by omega) (nk_is I k 8 _ _ hd hr rfl) dd (fun h' dd' sb => ?_) hz
  obtain ⟨ob, en, ep, h1, h2, h3, h4, _, h5⟩ := dd'
  refine ⟨_, d_write I (by rw [ha]; exact True.intro) sb ⟨ob, h1⟩ ?_, q kvs' g1⟩
  refine ⟨⟨_, g2, hs, ob, en, ep, h1, h2, h3, h4, h5⟩, ⟨ob, h1⟩, fun m1 m2 hm st => ?_⟩
  obtain ⟨xs', a1, a2, o', en', ep', a3, a4⟩ := hm
  exact ⟨xs', a1, a2, o', en', ep', st _ a3, a4⟩
def rLenDn (w : World) (K : PySem.W.Frag) : List V → Hp → VK → Prop := fun vs H Q => ∃ ρ a ks xs kvs, vs = [.ref a] ∧ H a = some (DnO w a kvs) ∧ DkAt K ρ H ks xs kvs ∧ ks.length ≤ lim ∧ Q (.int ks.length) H
theorem call_lenDn : CallR X (.builtin "len") (rLenDn X.w X.K) := by
  intro pins s σ H xs us Q I r h
  obtain ⟨ρ, a, ks, ys, kvs, rfl, ha, hk, hl, q⟩ := h
  obtain ⟨u, rfl, rx⟩ := r.one
  cases rx
  obtain ⟨hs, es, e1, dd⟩ := dn_of I ha hk
  have z1 := Paired.length e1
  have z2 := (dk_len hk).1
  have e : es.length = ks.length := by omega
  have lt : lim < 2 ^ 62 := by decide
  refine call_len_dictH (knd := nestedKind X.prog X.w) hs dd (by rw [e]; omega) ?_
  rw [e]
  exact ⟨.int ks.length, H, I.tok _, ⟨_, rfl⟩, q⟩
end
section
variable {G : Gx} {E : XK} {X : Cx} {a b e o i : Expr} {ma mb me mo mi : XE} {pos : Pos}
theorem dn_cell {ρ : Rho} {S : Store} {H : Hp} (q : Rel G.w G.K ρ S H) {y : PV} {u : V} {ks xs : List PV} (r : Rep G.K ρ H y u) (h : dnOf S y = some (ks, xs)) : ∃ l d kvs, y = .loc l ∧ S[l]? = some (.dkn ks xs) ∧ ρ.lb[l]? = some d ∧ u = .ref d ∧ H d = some (DnO G.w d kvs) ∧ DkAt G.K ρ H ks xs kvs := by
  cases y with
  | loc l =>
    unfold Rep at r
    obtain ⟨d, h1, rfl⟩ := r
    obtain ⟨c, hc, ca⟩ := q.cell h1
    simp only [dnOf, hc] at h
    cases c with
    | dkn js ys =>
      cases h
      obtain ⟨kvs, h3, h4⟩ := ca
      exact ⟨l, d, kvs, rfl, hc, h1, rfl, h3, h4⟩
    | _ => cases h
  | _ => cases h
theorem key_ref {ρ : Rho} {H : Hp} {x : PV} {v : V} (h : isKey x = true) (r : Rep G.K ρ H x v) : ∃ b, v = .ref b := by
  cases x with
  | tup xs => unfold Rep at r; obtain ⟨a, _, rfl, _⟩ := r; exact ⟨a, rfl⟩
  | _ => cases h
theorem sd_notInD : Sd2 G E (rNotInD G.w G.K) oNotInD := fun ρ S H x y v u Q q rx ry h => by
  unfold oNotInD at h
  split at h
  · rename_i ks xs hd
    split at h
    · rename_i hk
      obtain ⟨b, rfl⟩ := key_ref hk rx
      obtain ⟨l, d, kvs, _, _, _, rfl, h3, h4⟩ := dn_cell q ry hd
      exact ⟨ρ, d, b, ks, xs, kvs, x, rfl, rfl, h3, h4, isKey_of hk, rx, h.ok q _ Rep.bl⟩
    · exact h.elim
  · exact h.elim
theorem sd_ixD : Sd2 G E (rIxDn G.w G.K) oIxD := fun ρ S H x y v u Q q rx ry h => by
  unfold oIxD at h
  split at h
  · rename_i ks xs hd
    split at h
    · rename_i hk
      split at h
      · rename_i z hz
        obtain ⟨b, rfl⟩ := key_ref hk ry
        obtain ⟨l, d, kvs, _, _, _, rfl, h3, h4⟩ := dn_cell q rx hd
        exact ⟨ρ, d, b, ks, xs, kvs, y, rfl, rfl, h3, h4, isKey_of hk, ry, z, hz, fun v' rv => h.ok q v' rv⟩
      · exact h.elim
    · exact h.elim
  · exact h.elim
theorem sd_lenD : SdB G E (rLenDn G.w G.K) bLenD := fun ρ S H xs vs Q q r h => by
  unfold bLenD at h
  split at h
  · split at h
    · rename_i ks ys hd
      split at h
      · rename_i hl
        obtain ⟨v, rfl, r1⟩ := one_of r
        obtain ⟨l, d, kvs, _, _, _, rfl, h3, h4⟩ := dn_cell q r1 hd
        exact ⟨ρ, d, ks, ys, kvs, rfl, h3, h4, hl, h.ok q _ Rep.int⟩
      · exact h.elim
    · exact h.elim
  · exact h.elim
theorem i_ixD (hu : X.A.units + 10 < cLine) (ha : PE X a (tI G E ma)) (hb : PE X b (tI G E mb)) (hs : PlainIx b := by intro _ _; rfl) (hK : X.K = G.K := by rfl) (hw : X.w = G.w := by rfl) : PE X (.Subscript a b pos) (tI G E (eOp oIxD ma mb)) :=
  (pe_ix (ix_Dn hu) ha hb hs).imp fun σ H Q h => by
    obtain ⟨ρ, S, env, hR, hE, h⟩ := h
    rw [hK, hw]
    exact two hR hE h fun ρ' S' H' x y v u e' hR' rv ru h' => sd_ixD ρ' S' H' x y v u Q hR' rv ru h'
theorem sd_setD {ρ : Rho} {S : Store} {H : Hp} {o i x : PV} {vo vi v : V} {k : Rho → Store → Hp → Unit → Prop} {Q : Hp → Prop} (q : Rel G.w G.K ρ S H) (ro : Rep G.K ρ H o vo) (ri : Rep G.K ρ H i vi) (rx : Rep G.K ρ H x v) (h : Aft G E ρ H (oSetD o i x S) k)
    (m : ∀ ρ' S' H', Ext ρ H ρ' H' → Rel G.w G.K ρ' S' H' → k ρ' S' H' () → Q H') : rSetDn G.w G.K vo vi v H Q := by
  unfold oSetD at h
  split at h
  · rename_i l
    split at h
    · rename_i ks xs hd
      split at h
      · rename_i hk
        obtain ⟨b, rfl⟩ := key_ref hk.1 ri
        obtain ⟨l', d, kvs, hl, hc, hlb, rfl, h3, h4⟩ := dn_cell (ks := ks) (xs := xs) q ro (by unfold dnOf; simp only [hd])
        cases hl
        refine ⟨ρ, d, b, ks, xs, kvs, i, rfl, rfl, h3, h4, isKey_of hk.1, ri, hk.2, x, rx, fun kvs' g => ?_⟩
        have md : d ∈ ρ.lb := List.mem_of_getElem? hlb
        have ew : Ext ρ H ρ (upd H d (DnO G.w d kvs')) := Ext.write md h3 (fun _ _ z => by unfold DnO at z; cases z) fun ps z => DnO.plain.1 ps z
        have qw := q.write hlb (o := DnO G.w d kvs') (c := .dkn (putN ks xs i x).1 (putN ks xs i x).2) ⟨kvs', upd_same, g.imp (fun x v _ _ => Rep.ext ew x v) fun x v _ => Rep.ext ew x v⟩
        exact m ρ _ _ ew qw (h ρ _ ew qw)
      · exact h.elim
    · exact h.elim
  · exact h.elim
theorem g_subD (hu : X.A.units + 10 < cLine) (ho : PE X o (tI G E mo)) (hi : PE X i (tI G E mi))
    (ha : ∀ v, assign (.Subscript o i pos) X.env v = (do
      let ov ← holding [v] (eval o X.env)
      let iv ← holding [v, ov] (eval i X.env)
      standAt pos
      holding [v, ov, iv] (setItem ov iv v)
      release [v, ov, iv] []) := by intro _; rfl) (hK : X.K = G.K := by rfl) (hw : X.w = G.w := by rfl) : PG X (.Subscript o i pos) (tIG G E [] (gSbD mo mi)) :=
  (pg_sub ho hi (set_Dn hu) ha).imp fun v σ H Q h => by
    obtain ⟨ρ, S, env, x, hR, hE, hx, h⟩ := h
    rw [hK, hw]
    have h : Aft G E ρ H ((mo env S).bind fun ov S => (mi env S).bind fun iv S => (oSetD ov iv x S).bind fun _ S => R.ok env S) (fun ρ' S' H' env' => ∀ σ', EnvR G.K ρ' H' env' σ' → Wp [] σ σ' → Q σ' H') := h
    refine ⟨ρ, S, env, hR, hE, h.step fun ρ1 S1 H1 ov e1 hR1 h1 vo ro => ?_⟩
    refine ⟨ρ1, S1, env, hR1, hE.ext e1, h1.step fun ρ2 S2 H2 iv e2 hR2 h2 vi ri => ?_⟩
    refine sd_setD hR2 (Rep.ext e2 _ _ ro) ri (Rep.ext e2 _ _ (Rep.ext e1 _ _ hx)) (Aft.bind h2) fun ρ3 S3 H3 e3 hR3 h3 => ?_
    exact h3.ok hR3 σ (((hE.ext e1).ext e2).ext e3) fun _ _ => rfl
end

/-! ### {k: v} -/
section
variable {X : Cx}
def tDn1 (w : World) (K : PySem.W.Frag) (tk tv : TE) : TE := fun σ H Q => ∀ p, H p = none → tPairs [(tk, tv)] σ (upd H p (DnO w p [])) fun ps H2 => H2 p = some (DnO w p []) ∧ ∃ ρ kp b y, ps = [(.ref b, y)] ∧ keyD 8 kp = true ∧ Rep K ρ H2 kp (.ref b) ∧ Q (.ref p) (upd H2 p (DnO w p [(nk kp, b, y)]))
theorem dn_ok {P : Program} {w : World} {H : Hp} {h : Heap} {a : Addr} {kvs : List (NestedKey × Addr × V)} {es : List (NestedKey × Addr × Value)} (e : EnR kvs es) (hs : (a == sysModules) = false) (d : h.DictOfH (nestedKind P w) a es) : ObjOk P w H h a (DnO w a kvs) := by
  obtain ⟨ob, en, ep, h1, h2, h3, h4, _, h5⟩ := d
  refine ⟨⟨es, e, hs, ob, en, ep, h1, h2, h3, h4, h5⟩, ⟨ob, h1⟩, fun m1 m2 hm st => ?_⟩
  obtain ⟨xs', a1, a2, o', en', ep', a3, a4⟩ := hm
  exact ⟨xs', a1, a2, o', en', ep', st _ a3, a4⟩
theorem disp_subDict {prog : Program} {w : World} {A : Around} {E : Value → Shared → Prop} {s : Shared} {env : PySem.Env} {keys : List (Option Expr)} {values : List Expr} {pos : Pos} {Q : Value → Shared → Prop} (hall : keys.all (·.isSome) = true) (hl : keys.length = values.length) (h0 : pairTrees keys values env pos ≠ []) (h15 : (pairTrees keys values env pos).length ≤ 15)
    (h : wpAny (model prog w) A (subDict (pairTrees keys values env pos)) (fun d s' => Q (.ref d) s') E s) : wpAny (model prog w) A (eval (.Dict keys values pos) env) Q E s := by
  rw [arm_eval_Dict, zip_pairTrees keys values env pos hall hl, dictDisplay_pairs _ h0 (by omega)]
  refine wpAny_bind (wpAny_standAt ?_)
  refine wpAny_bind (wpAny_mono h (fun d s' q => ?_) fun _ _ z => z)
  exact wpAny_pure q
theorem pe_dn1 {ke ve : Expr} {tk tv : TE} {pos : Pos} (h : PPs X pos [some ke] [ve] [(tk, tv)]) (hu : X.A.units + 10 < cLine) : PE X (.Dict [some ke] [ve] pos) (tDn1 X.w X.K tk tv) := by
  refine ⟨fun pins s σ H Q I q => ?_⟩
  have hn := I.hok.fresh (Nat.le_refl s.heap.objs.size)
  have hne : (s.heap.objs.size == sysModules) = false := beq_eq_false_iff_ne.mpr (Ne.symm (Nat.ne_of_lt I.big))
  have I1 := I.laid (a := s.heap.objs.size) (o := DnO X.w s.heap.objs.size []) (h' := s.heap.push { cls := .type "dict", data := .dict #[] }) (t' := s.toks) (fun _ _ q => Heap.get?_push_of_some _ q) (Nat.le_refl _) (dn_ok (P := X.prog) .nil hne (Heap.DictOfH.new s.heap))
  have hlen : (pairTrees [some ke] [ve] X.env pos).length = 1 := pairTrees_length _ _ _ _ rfl rfl
  refine disp_subDict rfl rfl (fun z => by rw [z] at hlen; cases hlen) (by omega) ?_
  refine wpAny_subDictH (knd := nestedKind X.prog X.w) (show X.A.units + 8 < cLine by omega) (by omega) (thn (h.run pins _ σ _ _ I1 (q _ hn)) fun ws s2 ⟨ps, H2, I2, rel, e, q2⟩ => ?_)
  obtain ⟨ρ, kp, b, y, rfl, hd, hr, q3⟩ := q2
  cases rel with
  | @cons p0 w0 ps0 ws0 e1 e2 =>
    cases e2
    obtain ⟨ku, vu⟩ := w0
    obtain ⟨r1, r2⟩ := e1
    have r1 : ku = .ref b := r1
    have r2 : RelV y vu := r2
    subst r1
    obtain ⟨_, z0, e0, dd⟩ := dn_of (ρ := ρ) (ks := []) (xs := []) I2 e rfl
    cases e0
    refine ⟨[(nk kp, b, vu)], ⟨rfl, rfl, nk_is I2 kp 8 _ _ hd hr rfl, True.intro⟩, dd, fun h' tk dd' sb => ⟨.ref s.heap.objs.size, _, ?_, rfl, q3⟩⟩
    have hx : ∃ o, h'.get? s.heap.objs.size = some o := let ⟨o, _, _, z, _⟩ := dd'; ⟨o, z⟩
    refine d_write I2 (by rw [e]; exact True.intro) sb hx (dn_ok (P := X.prog) (es := [(nk kp, b, vu)]) (.cons ⟨rfl, rfl, r2⟩ .nil) hne ?_)
    exact dd'
end
section
variable {G : Gx} {E : XK} {X : Cx} {ke ve : Expr} {mk mv : XE} {pos : Pos}
/-- a dict of one pair: a name, something constant -/
theorem i_dn {i : Nat} {c : PV} (hk : PE X ke (tI G E (eVar i))) (hv : PE X ve (tI G E (eC c))) (hu : X.A.units + 10 < cLine) (hK : X.K = G.K := by rfl) (hw : X.w = G.w := by rfl) : PE X (.Dict [some ke] [ve] pos) (tI G E (eDn (eVar i) (eC c))) :=
  (pe_dn1 (pps_cons hk hv pps_nil) hu).imp fun σ H Q h => by
    obtain ⟨ρ, S, env, hR, hE, h⟩ := h
    rw [hK, hw]
    intro p hp
    have hidE : EnvR G.K (ρ.hide p) (upd H p (DnO G.w p [])) env σ := ⟨hE.len, fun i x hx => by
      obtain ⟨v, h1, h2⟩ := hE.at_ i x hx
      exact ⟨v, h1, Rep.hide hp x v h2⟩⟩
    have under : ∀ {ρ' : Rho} {H' : Hp}, Ext (ρ.hide p) (upd H p (DnO G.w p [])) ρ' H' → ∃ ρ2 : Rho, ρ' = ρ2.hide p ∧ Ext ρ H ρ2 H' := fun {ρ' H'} e => by
      obtain ⟨ρ2, rfl, f⟩ := e.ofHide
      refine ⟨ρ2, rfl, ?_⟩
      obtain ⟨m, em, hm⟩ := f.more
      have back : ∀ a, FrA (upd H p (DnO G.w p [])) a → FrA H a := fun a q => by
        by_cases e : a = p
        · rw [e]; exact .of hp
        · exact fun o z => q o (by rw [upd_ne e]; exact z)
      exact ⟨⟨m, em, fun a ha => back a (hm a ha)⟩, f.hid, fun a u ha nt n => f.keep a u (by rw [upd_ne (ne_of_none ha hp)]; exact ha) nt n, fun a ha => back a (f.dom a ha), fun a od u ha => f.fz a od u (by rw [upd_ne (ne_of_none ha hp)]; exact ha)⟩
    have np : p ∉ ρ.lb := hR.out1 hp
    refine ⟨ρ.hide p, S, env, hR.hide hp DnO.plain, hidE, ?_⟩
    unfold eDn eVar at h
    unfold eVar
    split at h
    · rename_i x hx
      simp only [eC, R.bind_ok] at h
      split at h
      · rename_i hk
        intro ρ1 H1 e1 q1 v rv
        refine ⟨ρ1, S, env, q1, hidE.ext e1, ?_⟩
        intro ρ3 H3 e3 q3 y ry
        have e := e1.trans e3
        obtain ⟨ρ4, rfl, f⟩ := under e
        have rx := Rep.ext e3 _ _ rv
        obtain ⟨b, rfl⟩ := key_ref hk rx
        refine ⟨e.keep p _ upd_same DnO.plain.1 np, ρ4.hide p, x, b, y, rfl, isKey_of hk, rx, ?_⟩
        have mp : p ∈ (ρ4.hide p).hid := List.mem_cons_self ..
        have nh : p ∉ ρ4.hid := fun z => by
          rw [f.hid] at z
          obtain ⟨⟨o, ho, _⟩, _⟩ := hR.hd p z
          rw [hp] at ho; cases ho
        refine h (ρ4.add p) _ ((f.wr hp).adopt hp) ((q3.hw mp DnO.plain).adopt nh ⟨_, upd_same, b, y, [], rfl, isKey_of hk, Rep.adopt _ _ (Rep.hw mp _ _ rx), Rep.adopt _ _ (Rep.hw mp _ _ ry), rfl⟩) _ ?_
        unfold Rep
        refine ⟨p, ?_, rfl⟩
        have ql : ρ4.lb.length = S.length := q3.len
        show (ρ4.lb ++ [p])[S.length]? = some p
        rw [← ql]
        simp
      · exact h.elim
    · exact h.elim
end
end

/-! MiniS -/
/-! MiniS: starred items, [::-1], sorted ints, pop(i), x += e, tuples compared. -/
section
open PySem PySem.Spec PyProof.Rows L2
def aStar (m : XE) (r : XA) : XA := fun env S => (m env S).bind fun x S1 => match seqOf S1 x with
  | some ys => (r env S1).bind fun zs S2 => .ok (ys ++ zs) S2
  | none => .bad
def oRevN : Op1 := fun x S => match lstOf S x with
  | some xs => .ok (.loc S.length) (S ++ [.lst xs.reverse])
  | none => .bad
def insI (x : Int) : List Int → List Int
  | [] => [x]
  | y :: r => if x ≤ y then x :: y :: r else y :: insI x r
def sortI : List Int → List Int
  | [] => []
  | x :: r => insI x (sortI r)
def toInts : List PV → Option (List Int)
  | [] => some []
  | .int i :: r => (toInts r).map (i :: ·)
  | _ => none
theorem insI_perm (x : Int) : ∀ l, (insI x l).Perm (x :: l)
  | [] => .refl _
  | y :: r => by
    unfold insI
    split
    · exact .refl _
    · exact ((insI_perm x r).cons y).trans (.swap x y r)
theorem sortI_perm : ∀ l, (sortI l).Perm l
  | [] => .refl _
  | x :: r => (insI_perm x (sortI r)).trans ((sortI_perm r).cons x)
theorem insI_sorted (x : Int) : ∀ l, l.Pairwise (· ≤ ·) → (insI x l).Pairwise (· ≤ ·)
  | [], _ => by unfold insI; exact List.pairwise_singleton _ _
  | y :: r, h => by
    obtain ⟨h1, h2⟩ := List.pairwise_cons.mp h
    unfold insI
    split
    · rename_i hx
      refine List.pairwise_cons.mpr ⟨fun z hz => ?_, h⟩
      rcases List.mem_cons.mp hz with rfl | hz
      · exact hx
      · exact Int.le_trans hx (h1 z hz)
    · rename_i hx
      refine List.pairwise_cons.mpr ⟨fun z hz => ?_, insI_sorted x r h2⟩
      rcases List.mem_cons.mp ((insI_perm x r).mem_iff.mp hz) with rfl | hz
      · omega
      · exact h1 z hz
theorem sortI_sorted : ∀ l, (sortI l).Pairwise (· ≤ ·)
  | [] => .nil
  | x :: r => insI_sorted x _ (sortI_sorted r)
theorem sorted_uniq : ∀ {l m : List Int}, l.Perm m → l.Pairwise (· ≤ ·) → m.Pairwise (· ≤ ·) → l = m := fun p h1 h2 =>
  p.eq_of_pairwise (fun a b _ _ h h' => Int.le_antisymm h h') h1 h2
section
variable {G : Gx} {E : XK} {X : Cx} {a b e o : Expr} {es : List Expr} {me ma mo : XE} {ms : XA} {pos p : Pos}
theorem i_star (he : PE X e (tI G E me)) (hr : PA X es (tIA G E ms)) (hK : X.K = G.K := by rfl) (hs : starEach (.Starred e p :: es) X.env = (true, eval e X.env) :: starEach es X.env := by rfl) : PA X (.Starred e p :: es) (tIA G E (aStar me ms)) :=
  (StX.pa_star he hr hs).imp fun σ H Q h => by
    obtain ⟨ρ, S, env, hR, hE, h⟩ := h
    rw [hK]
    refine ⟨ρ, S, env, hR, hE, h.step fun ρ1 S1 H1 x e1 hR1 h1 v rv => ?_⟩
    split at h1
    · rename_i ys hy
      obtain ⟨d, vs, rfl, h2, h3⟩ := seq_of hR1 rv hy
      refine ⟨d, vs, rfl, h2.elim .inr .inl, ρ1, S1, env, hR1, hE.ext e1, h1.step fun ρ2 S2 H2 zs e2 hR2 h4 us rus => ?_⟩
      exact h4.ok hR2 _ ((Reps.ext e2 _ _ h3).append rus)
    · exact h1.elim
theorem i_revN {k : Nat} {p1 p2 p3 : Pos} (he : PE X e (tI G E me)) (hK : X.K = G.K := by rfl) : PE X (.Subscript e (.Slice none none (some (.UnaryOp .USub (.Constant (.int 1) k p1) p2)) p3) pos) (tI G E (eUn oRevN me)) :=
  (pe_revL he).imp fun σ H Q h => by
    obtain ⟨ρ, S, env, hR, hE, h⟩ := h
    rw [hK]
    refine ⟨ρ, S, env, hR, hE, h.step fun ρ1 S1 H1 x e1 hR1 h1 v rv => ?_⟩
    unfold oRevN at h1
    split at h1
    · rename_i xs hx
      obtain ⟨d, vs, rfl, h2, h3⟩ := lst_of hR1 rv hx
      exact ⟨d, vs, rfl, .of h2, put_new hR1 h3.reverse h1⟩
    · exact h1.elim
theorem ints_rep {K : PySem.W.Frag} {ρ : Rho} {H : Hp} : ∀ {xs : List PV} {ns : List Int} {vs : List V}, toInts xs = some ns → Reps K ρ H xs vs → vs = ns.map V.int ∧ xs = ns.map PV.int
  | [], ns, vs, h, r => by
    cases h
    unfold Reps at r
    exact ⟨r, rfl⟩
  | x :: xs, ns, vs, h, r => by
    obtain ⟨v, t, rfl, r1, r2⟩ := r.uncons
    cases x with
    | int i =>
      have h : (toInts xs).map (i :: ·) = some ns := h
      cases hx : toInts xs with
      | none => rw [hx] at h; cases h
      | some ms =>
        rw [hx] at h
        cases h
        obtain ⟨h1, h2⟩ := ints_rep hx r2
        rw [r1.int_of, h1]
        exact ⟨rfl, by rw [h2]; rfl⟩
    | _ => cases h
theorem reps_ints {K : PySem.W.Frag} {ρ : Rho} {H : Hp} : ∀ ns : List Int, Reps K ρ H (ns.map PV.int) (ns.map V.int)
  | [] => .nil
  | i :: r => .cons Rep.int (reps_ints r)
section
variable {apos cpos : Pos}
end
end
end

/-! MiniZ -/
/-! MiniZ: sets of ints that are sorted at once. -/
section
open PySem PySem.Spec PyProof.Rows L2
/-- the ints of a list, rising, each once -/
def dedI : List Int → List Int
  | [] => []
  | x :: r => if x ∈ dedI r then dedI r else x :: dedI r
def setI (l : List Int) : List Int := sortI (dedI l)
/-- sorted({a, b}) -/
def eSet2 (a b : XE) : XE := fun env S => (a env S).bind fun x S1 => (b env S1).bind fun y S2 => match x, y with
  | .int i, .int j => .ok (.ls ((setI [i, j]).map .int)) S2
  | _, _ => .bad
theorem mem_ded (k : Int) : ∀ l, k ∈ dedI l ↔ k ∈ l
  | [] => Iff.rfl
  | x :: r => by
    have ih := mem_ded k r
    unfold dedI
    split
    · rename_i h
      rw [ih, List.mem_cons]
      exact ⟨.inr, fun z => z.elim (fun e => by rw [e]; exact (mem_ded x r).mp h) id⟩
    · rw [List.mem_cons, List.mem_cons, ih]
theorem nodup_ded : ∀ l, (dedI l).Nodup
  | [] => List.nodup_nil
  | x :: r => by
    unfold dedI
    split
    · exact nodup_ded r
    · rename_i h
      exact List.nodup_cons.mpr ⟨h, nodup_ded r⟩
theorem setI_uniq {l ns : List Int} (h : ns.Pairwise (· < ·)) (m : ∀ k, k ∈ ns ↔ k ∈ l) : ns = setI l := by
  have nd : ns.Nodup := h.imp fun hab => Int.ne_of_lt hab
  have p : ns.Perm (dedI l) := (List.perm_ext_iff_of_nodup nd (nodup_ded l)).mpr fun k => by rw [m k, mem_ded]
  exact sorted_uniq (p.trans (sortI_perm _).symm) (h.imp fun hab => Int.le_of_lt hab) (sortI_sorted _)
section
variable {P : Program} {w : World} {A : Around} {E : Value → Shared → Prop} {s : Shared}
theorem new_set {Q : Value → Shared → Prop} (h : ∀ h', (∀ b o, s.heap.get? b = some o → h'.get? b = some o) → SetR w h' s.heap.objs.size (fun _ => false) 0 → Q (.ref s.heap.objs.size) { s with heap := h' }) : wpAny (model P w) A (newSet (.type "set")) Q E s := by
  unfold newSet
  refine wpAny_bind (wpAny_byText ?_)
  simp only [newObj]
  refine wpAny_bind (wpAny_alloc (wpAny_pure (h _ (fun b o e => Heap.get?_push_of_some _ e) (setR_fresh w))))
theorem add_int {a : Addr} {S : Int → Bool} {n : Nat} {k : Int} {tk : Tok} {Q : Bool → Shared → Prop} (R : SetR w s.heap a S n) (room : n + 1 < scanBound)
    (h : ∀ b h', Heap.SameBut a s.heap h' → SetR w h' a (fun j => S j || decide (j = k)) (if S k = true then n else n + 1) → Q b { s with heap := h', toks := s.toks + 1 }) : wpAny (model P w) A (setAdd a (.int k tk)) Q E s := by
  unfold setAdd
  refine wpAny_holding (wpAny_bind ((intKind P w).pyHash (k := k) (intKind_is _ _ _ _) ?_))
  exact setR_add_hashed (s := { s with toks := s.toks + 1 }) R room fun h' sb R' => h _ h' sb R'
end

section
variable {X : Cx} {a b : Expr} {ta tb : TE} {pos : Pos}
def two2 (i j : Int) : Int → Bool := fun k => (false || decide (k = i)) || decide (k = j)
def num2 (i j : Int) : Nat := if (false || decide (j = i)) = true then 1 else 2
def tSet2 (w : World) (ta tb : TE) : TE := fun σ H Q => ∀ p, H p = none → ta σ (upd H p (SetO w p (fun _ => false) 0)) fun x H1 => tb σ H1 fun y H2 => ∃ i j, x = .int i ∧ y = .int j ∧ H2 p = some (SetO w p (fun _ => false) 0) ∧ Q (.ref p) (upd H2 p (SetO w p (two2 i j) (num2 i j)))
theorem pe_set2 (ha : PE X a ta) (hb : PE X b tb) (hcd : PySem.W.kdsCode X.K X.env.code = true) (hs : starEach [a, b] X.env = [(false, eval a X.env), (false, eval b X.env)] := by rfl) : PE X (.Set [a, b] 0 pos) (tSet2 X.w ta tb) := by
  refine ⟨fun pins s σ H Q I q => ?_⟩
  have hn := I.hok.fresh (Nat.le_refl s.heap.objs.size)
  rw [arm_eval_Set, hs]
  refine wpAny_bind (wpAny_standAt (wpAny_bind (PySem.W.kds_main I.kIn hcd fun main => ?_)))
  have road : displayRoad 0 [a, b] = .oneByOne := rfl
  rw [road]
  unfold setDisplay
  dsimp only
  refine wpAny_bind (new_set fun h0 k0 R0 => ?_)
  have I1 := I.laid (a := s.heap.objs.size) (o := SetO X.w s.heap.objs.size (fun _ => false) 0) (h' := h0) (t' := s.toks) k0 (Nat.le_refl _) (setO_new R0)
  have hq := q _ hn
  refine wpAny_bind (wpAny_holding ?_)
  show wpAny _ _ (evalAll [eval a X.env >>= fun v => standAt pos >>= fun _ => pure v, eval b X.env >>= fun v => standAt pos >>= fun _ => pure v] >>= _) _ _ _
  refine wpAny_bind ?_
  unfold evalAll
  refine wpAny_bind (wpAny_bind (thn (ha.run pins _ σ _ _ I1 hq) fun u1 s1 ⟨x, H1, I2, r1, q1⟩ => wpAny_bind (wpAny_standAt (wpAny_pure ?_))))
  unfold evalAll
  refine wpAny_bind (wpAny_holding (wpAny_bind (wpAny_bind (thn (hb.run pins _ σ _ _ I2 q1) fun u2 s2 ⟨y, H2, I3, r2, q2⟩ => wpAny_bind (wpAny_standAt (wpAny_pure ?_))))))
  unfold evalAll
  refine wpAny_bind (wpAny_holding (wpAny_pure (wpAny_pure (wpAny_pure ?_))))
  obtain ⟨i, j, rfl, rfl, hp, q3⟩ := q2
  obtain ⟨t1, rfl⟩ := r1
  obtain ⟨t2, rfl⟩ := r2
  have R1 := setO_get I3 hp
  refine wpAny_bind (wpAny_holding (wpAny_bind ?_))
  rw [List.forIn_cons]
  refine wpAny_bind (wpAny_bind (add_int R1 (by decide) fun _ h1 sb1 R2 => wpAny_pure ?_))
  show wpAny _ _ (forIn [Value.int j t2] PUnit.unit _) _ _ _
  rw [List.forIn_cons]
  refine wpAny_bind (wpAny_bind (add_int R2 (by split <;> decide) fun _ h2 sb2 R3 => wpAny_pure ?_))
  show wpAny _ _ (forIn ([] : List Value) PUnit.unit _) _ _ _
  rw [List.forIn_nil]
  refine wpAny_pure ?_
  rw [if_neg (by decide)]
  refine wpAny_pure ?_
  show wpAny _ _ (forIn ([] : List (Bool × Sem Value)) PUnit.unit _ >>= _) _ _ _
  rw [List.forIn_nil]
  refine wpAny_bind (wpAny_pure (wpAny_pure (wpAny_pure ?_)))
  refine ⟨.ref s.heap.objs.size, _, ?_, rfl, q3⟩
  have hx : ∃ o, h2.get? s.heap.objs.size = some o := let ⟨o, _, _, _, z, _⟩ := R3; ⟨o, z⟩
  exact d_write (s := s2) I3 (by rw [hp]; exact True.intro) (sb1.trans sb2) hx (setO_new R3)
end
section
variable {G : Gx} {E : XK} {X : Cx} {a b : Expr} {ma mb : XE} {pos : Pos}
/-- what is done while something is hidden -/
theorem Ext.under {ρ ρ' : Rho} {H H' : Hp} {p : Addr} {o : HO} (hp : H p = none) (e : Ext (ρ.hide p) (upd H p o) ρ' H') : ∃ ρ2 : Rho, ρ' = ρ2.hide p ∧ Ext ρ H ρ2 H' := by
  obtain ⟨ρ2, rfl, f⟩ := e.ofHide
  refine ⟨ρ2, rfl, ?_⟩
  obtain ⟨m, em, hm⟩ := f.more
  have back : ∀ a, FrA (upd H p o) a → FrA H a := fun a q => by
    by_cases e : a = p
    · rw [e]; exact .of hp
    · exact fun o z => q o (by rw [upd_ne e]; exact z)
  exact ⟨⟨m, em, fun a ha => back a (hm a ha)⟩, f.hid, fun a u ha nt n => f.keep a u (by rw [upd_ne (ne_of_none ha hp)]; exact ha) nt n, fun a ha => back a (f.dom a ha), fun a od u ha => f.fz a od u (by rw [upd_ne (ne_of_none ha hp)]; exact ha)⟩
theorem exc_hide {α β : Type} {ρ : Rho} {H H' : Hp} {p : Addr} {o : HO} {x : PExc} {S : Store} {ρ' : Rho} {k : Rho → Store → Hp → α → Prop} {k' : Rho → Store → Hp → β → Prop} (hp : H p = none) (e0 : Ext (ρ.hide p) (upd H p o) ρ' H') (h : Aft G E ρ H (.exc x S) k) : Aft G E ρ' H' (.exc x S) k' := by
  intro ρ1 H1 cls d e q z
  obtain ⟨ρ2, rfl, f⟩ := (e0.trans e).under hp
  refine h ρ2 H1 cls d f q.unhide ⟨z.1, ?_⟩
  rcases z.2 with z | ⟨a, gs, z1, z0, z2, z3, z4⟩
  · exact .inl z
  · exact .inr ⟨a, gs, z1, z0, z2, Out.show' z3, Flds.unhide z4⟩
theorem setO_plain {w : World} {a : Addr} {S : Int → Bool} {n : Nat} : Plain (SetO w a S n) := by
  refine ⟨fun _ z => (by unfold SetO at z; cases z), fun f hf c q z => ?_⟩
  rw [← hf] at z
  unfold SetO LamX.CodeO at z
  have z := congrFun (HO.ext.inj z) ⟨Array.replicate (c + 1) { cls := .none, data := .fields #[.none, .str q 0] }, {}⟩
  have hc : Heap.get? ⟨Array.replicate (c + 1) { cls := .none, data := .fields #[.none, .str q 0] }, {}⟩ c = some { cls := .none, data := .fields #[.none, .str q 0] } := by
    unfold Heap.get?
    simp only [Array.getElem?_replicate]
    rw [if_pos (Nat.lt_succ_self c)]
  obtain ⟨o, es, ep, t, h1, _, h2, _⟩ := z.mpr ⟨_, _, 0, hc, rfl, rfl⟩
  unfold Heap.get? at h1
  simp only [Array.getElem?_replicate] at h1
  split at h1
  · cases h1
  · split at h1
    · have e := Option.some.inj h1
      rw [← e] at h2
      cases h2
    · cases h1
/-- sorted({a, b}) -/
theorem i_sortSet2 {p pos' : Pos} (hg : Gl X "sorted") (hm : X.mg "sorted" = none) (hc : X.calm = true) (ha : PE X a (tI G E ma)) (hb : PE X b (tI G E mb)) (hcd : PySem.W.kdsCode X.K X.env.code = true) (hK : X.K = G.K := by rfl) (hw : X.w = G.w := by rfl)
    (hs : starEach [a, b] X.env = [(false, eval a X.env), (false, eval b X.env)] := by rfl) : PE X (.Call (.Name "sorted" p) [.Set [a, b] 0 pos] [] pos') (tI G E (eSet2 ma mb)) :=
  (pe_callB (cr_sortedSet hc) hg hm (by decide +kernel) (pa_cons (pe_set2 ha hb hcd hs) pa_nil rfl) (by decide) (by decide)).imp fun σ H Q h => by
    obtain ⟨ρ, S, env, hR, hE, h⟩ := h
    rw [hw]
    intro p hp
    have hidE : EnvR G.K (ρ.hide p) (upd H p (SetO G.w p (fun _ => false) 0)) env σ := ⟨hE.len, fun i x hx => by
      obtain ⟨v, h1, h2⟩ := hE.at_ i x hx
      exact ⟨v, h1, Rep.hide hp x v h2⟩⟩
    have np : p ∉ ρ.lb := hR.out1 hp
    refine ⟨ρ.hide p, S, env, hR.hide hp setO_plain, hidE, ?_⟩
    unfold eSet2 at h
    cases hma : ma env S with
    | bad => rw [hma] at h; exact h.elim
    | exc x S1 => rw [hma] at h; exact exc_hide hp (Ext.refl _ _) h
    | ok x S1 =>
      rw [hma, R.bind_ok] at h
      intro ρ1 H1 e1 hR1 v rv
      refine ⟨ρ1, S1, env, hR1, hidE.ext e1, ?_⟩
      cases hmb : mb env S1 with
      | bad => rw [hmb] at h; exact h.elim
      | exc y S2 => rw [hmb] at h; exact exc_hide hp e1 h
      | ok y S2 =>
        rw [hmb, R.bind_ok] at h
        intro ρ3 H3 e3 hR3 u ru
        have e := e1.trans e3
        obtain ⟨ρ4, rfl, f⟩ := e.under hp
        have p3 : H3 p = some (SetO G.w p (fun _ => false) 0) := e.keep p _ upd_same setO_plain.1 np
        split at h
        · rename_i i j
          rw [rv.int_of, ru.int_of]
          refine ⟨i, j, rfl, rfl, p3, ?_⟩
          have mp : p ∈ (ρ4.hide p).hid := List.mem_cons_self ..
          have q := (hR3.hw (o := SetO G.w p (two2 i j) (num2 i j)) mp setO_plain).unhide
          refine ⟨p, two2 i j, num2 i j, rfl, upd_same, by unfold num2; split <;> decide, fun ns d hs hm _ hd => ?_⟩
          have e : ns = setI [i, j] := setI_uniq hs fun k => by
            rw [hm k]
            unfold two2
            simp
          rw [e]
          exact put_ls q (reps_ints _) (h.shift (f.wr hp)) d hd
        · exact h.elim
end
end

/-! MiniY -/
/-! MiniY: set(a list of ints). -/
section
open PySem PySem.Spec PyProof.Rows L2
/-- a set that was just made -/
def freshS (w : World) : Obj := { cls := .type "set", dict := none, data := .set #[] 0 (.fresh 0 0 (!w.params.followText "set-order")) }
section
variable {P : Program} {w : World} {A : Around} {E : Value → Shared → Prop} {s : Shared} {l d : Addr} {items : Array Value} {ns : List Int}
theorem init_body (hA : A.handled = none) (hS : s.heap.get? d = some (freshS w)) (hne : l ≠ d) (hl : s.heap.IsList l items) (hi : IntsAre items.toList ns) (hb : ns.length + 1 < scanBound) {R : Value → Shared → Prop}
    (h : ∀ h' tk c, SetR w h' d (fun j => decide (j ∈ ns)) c → c ≤ ns.length → (∀ b o, b ≠ d → s.heap.get? b = some o → h'.get? b = some o) → R .none { s with heap := h', toks := tk }) :
    wpAny (model P w) A (Builtin.«set.__init__» ⟨[.ref d, .ref l], []⟩) (fun f s' => ∃ v, f = .done (.ret v) ∧ R v s') E s := by
  have hT : s.TypeIs (.ref d) "set" := ⟨_, hS, rfl⟩
  obtain ⟨o, ho, hc, n, hd⟩ := id hl
  obtain ⟨cl, di, da, sl⟩ := o
  simp only at hc hd
  subst hc
  subst hd
  have q1 := F.sub_list_set
  have q2 := F.sub_list_frozenset
  have q3 : (Value.type "list" == Value.type "dict") = false := by decide
  unfold freshS at hS
  unfold Builtin.«set.__init__» noKeywords Builtin.Frozenset.updateFrom
  generalize hp : pyIter = PI
  wp_walk
  subst hp
  refine wpAny_pyIter_list hl (wpAny_bind (wpAny_runValue ?_))
  have hsz : items.size = ns.length := by
    have := IntsAre.length hi
    rw [Array.length_toList] at this
    exact this
  have lt1 : l < s.heap.objs.size := Heap.lt_size ho
  have lt2 : d < s.heap.objs.size := Heap.lt_size hS
  have hval : ∀ (i : Nat) (v : Value), items[i]? = some v → ∃ k t, ns[i]? = some k ∧ v = .int k t := fun i v hv => by
    have hi2 : i < ns.length := by rw [← hsz]; exact (Array.getElem?_eq_some_iff.mp hv).1
    obtain ⟨t, e⟩ := PyProof.Rows.IntsAre.int_at hi i v (by rw [Array.getElem?_toList]; exact hv)
    refine ⟨ns[i], t, List.getElem?_eq_getElem hi2, ?_⟩
    rw [e, List.getD_eq_getElem?_getD, List.getElem?_eq_getElem hi2]
    rfl
  have hin : A.in1.handled = none := by simp [hA]
  have nd : d ∉ [s.heap.objs.size, l] := by
    intro z
    rcases List.mem_cons.mp z with z | z
    · exact Nat.ne_of_lt lt2 z
    · exact hne (List.mem_singleton.mp z).symm
  refine set_update_ints (P := P) ((Walks.list (by simp [hA]) s.heap.objs.size l (Nat.ne_of_lt lt1) items).toS) d nd ns hsz hb hval items.size 0 _ (by omega) (Nat.zero_le _)
    ⟨⟨_, Heap.get?_push_size _ rfl, rfl, rfl⟩, hl.push _⟩ ⟨0, Nat.le_refl 0, setR_new_at (Heap.get?_push_of_some _ hS)⟩ fun s' c hm hc hS' => ?_
  obtain ⟨h', g2, d', tk', os'⟩ := s'
  have eg : g2 = s.gens := hm.gens
  have ed : d' = s.drawn := hm.drawn
  have eo : os' = s.os := hm.os
  subst eg ed eo
  show wpAny _ _ _ _ _ _
  refine wpAny_pure (wpAny_pure ?_)
  rw [hsz] at hc
  refine ⟨_, rfl, h h' tk' c hS' hc fun b o hb e => hm.heap b o ?_ (Heap.get?_push_of_some _ e)⟩
  have lt := Heap.lt_size e
  intro z
  rcases List.mem_cons.mp z with z | z
  · exact hb z
  · exact Nat.ne_of_lt lt (List.mem_singleton.mp z)

theorem call_setL (hA : A.handled = none) (hl : s.heap.IsList l items) (hi : IntsAre items.toList ns) (hb : ns.length + 1 < scanBound) {Q : Value → Shared → Prop}
    (h : ∀ h' tk c, SetR w h' s.heap.objs.size (fun j => decide (j ∈ ns)) c → c ≤ ns.length → (∀ b o, s.heap.get? b = some o → h'.get? b = some o) → Q (.ref s.heap.objs.size) { s with heap := h', toks := tk }) :
    wpAny (model P w) A (call (.type "set") [.ref l]) Q E s := by
  have lt1 : l < s.heap.objs.size := let ⟨_, e, _⟩ := hl; Heap.lt_size e
  obtain ⟨cc, tl, m1⟩ := F.called_set.mro
  have m2 := F.called_set.made
  have m3 := F.called_set.sub
  have m4 := F.called_set.notType
  have m5 := F.called_set.canCreate
  have m6 := F.typeCall_set_1 (.ref l)
  refine wpAny_call (codeAny_of_tree (wpAny_pure ⟨Code.quiet_builtin _ (by decide +kernel), codeAny_builtin F.entry_type_call ?_⟩))
  rw [Around.under_plain (weight_type_call_type "set" [.ref l] []) rfl]
  repeat (any_goals (first | assumption | wp_step))
  refine codeAny_mono (code_set_led1 (.ref l) (E := E) (Q₁ := fun v t => v = .ref s.heap.objs.size ∧ t = { s with heap := s.heap.push (freshS w) }) ⟨rfl, rfl⟩) fun r t hr => ?_
  cases r with
  | error e => exact hr
  | ok fl =>
    cases fl with
    | ret v =>
      obtain ⟨rfl, rfl⟩ := hr
      have at0 : (s.heap.push (freshS w)).get? s.heap.objs.size = some (freshS w) := Heap.get?_push_size _ rfl
      have ty0 : Shared.TypeIs { s with heap := s.heap.push (freshS w) } (.ref s.heap.objs.size) "set" := ⟨_, at0, rfl⟩
      have m7 := F.called_set.init.lookup
      have m8 := F.called_set.init.bind (.ref s.heap.objs.size)
      repeat (any_goals (first | assumption | wp_step))
      refine codeAny_mono (codeAny_call_builtin (R := wants (fun v t => v = .none ∧ Q (.ref s.heap.objs.size) t) E) F.called_set.init.plain F.entry_set_init (check_set_init_1 ty0 ?_)) fun r2 t2 h2 => ?_
      · refine wpAny_mono (init_body (R := fun v t => v = .none ∧ Q (.ref s.heap.objs.size) t) (by simp [hA]) at0 (Nat.ne_of_lt lt1) (hl.push _) hi hb fun h' tk c a1 a2 a3 => ⟨rfl, h h' tk c a1 a2 fun b o e => a3 b o (Nat.ne_of_lt (Heap.lt_size e)) (Heap.get?_push_of_some _ e)⟩) (fun f t hf => ?_) fun _ _ z => z
        obtain ⟨v, rfl, hv⟩ := hf
        exact hv
      · cases r2 with
        | error e => exact h2
        | ok fl =>
          cases fl with
          | ret v =>
            obtain ⟨rfl, q⟩ := h2
            repeat (any_goals (first | assumption | wp_step))
          | _ => exact h2.elim
    | _ => exact hr.elim
end

/-- sorted(set(x)), x a list of ints -/
def eSortSet (m : XE) : XE := fun env S => (m env S).bind fun x S1 => match (lstOf S1 x).bind toInts with
  | some ns => if ns.length < 60 then .ok (.ls ((setI ns).map .int)) S1 else .bad
  | none => .bad
section
variable {X : Cx}
def rSetL (w : World) (K : PySem.W.Frag) : List V → Hp → VK → Prop := fun xs H Q => ∃ (l : Addr) (ns : List Int), xs = [.ref l] ∧ SqL K H l (ns.map V.int) ∧ ns.length < 60 ∧ ∀ p c, H p = none → c ≤ ns.length → Q (.ref p) (upd H p (SetO w p (fun j => decide (j ∈ ns)) c))
theorem cr_setL (hc : X.calm = true) : CallR X (.type "set") (rSetL X.w X.K) := by
  intro pins s σ H xs us Q I r h
  obtain ⟨l, ns, rfl, hs, h60, q⟩ := h
  rw [Vals.ref1 r]
  obtain ⟨its, rv, hl, _⟩ := I.list hs
  have hi := rv.ints
  refine call_setL (ns := ns) (I.ok.hd hc) hl.isList hi (by unfold scanBound; omega) fun h' tk c R hcn k => ?_
  exact ⟨.ref s.heap.objs.size, _, I.laid (t' := tk) k (Nat.le_refl _) (setO_new R), rfl, q _ c (I.hok.fresh (Nat.le_refl _)) hcn⟩
variable {G : Gx} {E : XK} {a : Expr} {ma : XE} {p p2 pos pos2 : Pos}
theorem i_sortSet (hg : Gl X "sorted") (hm : X.mg "sorted" = none) (hg2 : Gl X "set") (hm2 : X.mg "set" = none) (hc : X.calm = true) (ha : PE X a (tI G E ma)) (hK : X.K = G.K := by rfl) (hw : X.w = G.w := by rfl)
    (hs : starEach [a] X.env = (false, eval a X.env) :: starEach [] X.env := by rfl) : PE X (.Call (.Name "sorted" p) [.Call (.Name "set" p2) [a] [] pos2] [] pos) (tI G E (eSortSet ma)) :=
  (pe_callB (cr_sortedSet hc) hg hm (by decide +kernel) (pa_cons (pe_callTy (cr_setL hc) hg2 hm2 (by decide +kernel) (pa_cons ha pa_nil hs) (by decide) (by decide) hs) pa_nil rfl) (by decide) (by decide)).imp fun σ H Q h => by
    obtain ⟨ρ, S, env, hR, hE, h⟩ := h
    rw [hw, hK]
    refine ⟨ρ, S, env, hR, hE, h.step fun ρ1 S1 H1 x e1 hR1 h1 v rv => ?_⟩
    split at h1
    · rename_i ns hn
      split at h1
      · rename_i h60
        cases hx : lstOf S1 x with
        | none => rw [hx] at hn; cases hn
        | some ys =>
          rw [hx] at hn
          have hn : toInts ys = some ns := hn
          obtain ⟨d, us, rfl, h2, h3⟩ := lst_of hR1 rv hx
          obtain ⟨rfl, _⟩ := ints_rep hn h3
          refine ⟨d, ns, rfl, .of h2, h60, fun q c hq hcn => ⟨q, _, c, rfl, upd_same, by omega, fun ms t hs hm _ ht => ?_⟩⟩
          rw [setI_uniq (l := ns) hs fun k => by rw [hm k, decide_eq_true_iff]]
          exact put_ls (hR1.new hq) (reps_ints _) (h1.shift (Ext.new hq)) t ht
      · exact h1.elim
    · exact h1.elim
end
end

/-! MiniX -/
/-! MiniX: list(range(..)), a def that makes a set. -/
section
open PySem PySem.Spec PyProof.Rows L2
theorem hu10 {A : Around} {k : Nat} (hr : Room k A) : A.units + 10 < cLine := Nat.lt_of_le_of_lt (Nat.add_le_add_left (by decide : 10 ≤ 64) _) (hu64 hr)
theorem kds_of {K : PySem.W.Frag} {cd : Value} {q : Str} (h : PySem.W.codeIn K cd q = true) : PySem.W.kdsCode K cd = true := by
  unfold PySem.W.codeIn at h
  unfold PySem.W.kdsCode
  split at h
  · rename_i c
    simp only []
    split at h
    · rename_i hk
      rw [hk]
    · cases h
  · cases h
section
variable {G : Gx} {E : XK} {X : Cx} {a b e : Expr} {me ma mb : XE} {pos pos2 p p2 : Pos}
theorem i_gs {x z : Str} (h : ∃ t, X.mg x = some (.str z t)) (hg : Gl X x := by rfl) (hd : (x == ("__debug__" : Str)) = false := by decide) : PE X (.Name x pos) (tI G E (eC (.str z))) := by
  obtain ⟨t, h⟩ := h
  exact i_c (pe_glob hg h (v := .str z) ⟨t, rfl⟩ hd) fun _ _ => Rep.str
end
/-- .. a def that makes a set -/
theorem def_PS {P : Program} {w : World} {K : PySem.W.Frag} {mg : Str → Option Value} {base : Heap} {G : Gx} {x qual : Str} {params : Arguments} {body : List Stmt} {scope : Scope} {dvs : List V} {kws : List (Str × V)} {f : Addr} {fd : FuncData} {N ps : List Str} {k : Nat} {mb : XS} (F : FunD K x qual params body scope dvs kws f fd) (sc : FnScope N ps scope)
    (hb : ∀ (cdv : Value) (A : Around) (outer : List PySem.Env) (s : Shared) (H : Hp) (E : XK), PySem.W.kdsCode K cdv = true → Room k (A.deeper (PyProof.Rows.envOfC qual scope s.heap.objs.size f cdv)) →
      PSs (cxOf (L2.CX P w) P w K mg base N qual scope f cdv A outer s H E) body (tIS G E mb)) : FnOk P w K mg base (L2.CX P w) (k + 1) f fd ps (spI G (fnP ps.length N.length mb)) := by
  obtain ⟨oc, od, dV, kV, doc, pm, an, cdv, ct, osl, rfl, lk, hcd, _, _⟩ := F.ex
  refine fn_of lk hcd sc (fun vs H Q E h => ?_) (fun A outer s H vs Q E hr h => ⟨_, hb cdv A outer s H E (kds_of hcd) hr, ?_⟩)
  · obtain ⟨ρ, S, args, hR, ra, h⟩ := h
    unfold fnP at h
    split at h
    · rename_i hl
      rw [← ra.length, hl]
    · exact h.elim
  · obtain ⟨ρ, S, args, hR, ra, h⟩ := h
    unfold fnP at h
    split at h
    · refine ⟨ρ, S, _, hR, envR_start ra, ?_⟩
      cases hm : mb (args.map some ++ List.replicate (N.length - args.length) none) S with
      | bad => rw [hm] at h; exact h
      | exc e S' => rw [hm] at h; exact h
      | ok p S' =>
        rw [hm] at h
        simp only [R.bind_ok] at h
        obtain ⟨fl, env'⟩ := p
        intro ρ' H' e q
        cases fl with
        | rt v => exact fun u ru => leave_ok hR e q ru h
        | nx => exact fun σ' hE' => leave_ok hR e q Rep.non h
        | bk => exact h.elim
        | ct => exact h.elim
    · exact h.elim
end

/-! MiniN -/
/-! MiniN: sorted(..) of keys that are tuples of any depth: of a dict by such keys, of a list. -/
section
open PySem PySem.Spec PyProof.Rows L2
mutual
def pvD : PV → PyData
  | .int i => .int i
  | .str s => .str s
  | .tup xs => .tuple (pvDs xs)
  | _ => .none
def pvDs : List PV → List PyData
  | [] => []
  | x :: r => pvD x :: pvDs r
end
def sortN (ks : List PV) : List PV := ks.mergeSort (PySem.W.dataLe false pvD)
def isTup1 : PV → Bool
  | .tup (_ :: _) => true
  | _ => false
def srtB (ks : List PV) : Bool := ks.all isKey && ks.all isTup1 && (ks.all fun x => ks.all fun y => PySem.W.alike (pvD x) (pvD y)) && decide (ks.length ≤ lim)
theorem srtB_of {ks : List PV} (h1 : ∀ x ∈ ks, isKey x = true) (h2 : ∀ x ∈ ks, isTup1 x = true) (h3 : ∀ x ∈ ks, ∀ y ∈ ks, PySem.W.alike (pvD x) (pvD y) = true) (h4 : ks.length ≤ lim) : srtB ks = true := by
  unfold srtB
  rw [List.all_eq_true.mpr h1, List.all_eq_true.mpr h2, List.all_eq_true.mpr fun x hx => List.all_eq_true.mpr fun y hy => h3 x hx y hy, decide_eq_true h4]
  rfl
theorem of_srtB {ks : List PV} (h : srtB ks = true) : (∀ x ∈ ks, isKey x = true) ∧ (∀ x ∈ ks, isTup1 x = true) ∧ (∀ x ∈ ks, ∀ y ∈ ks, PySem.W.alike (pvD x) (pvD y) = true) ∧ ks.length ≤ lim := by
  unfold srtB at h
  simp only [Bool.and_eq_true, decide_eq_true_eq] at h
  obtain ⟨⟨⟨h1, h2⟩, h3⟩, h4⟩ := h
  exact ⟨List.all_eq_true.mp h1, List.all_eq_true.mp h2, fun x hx y hy => List.all_eq_true.mp (List.all_eq_true.mp h3 x hx) y hy, h4⟩
theorem sortN_perm (ks : List PV) : (sortN ks).Perm ks := List.mergeSort_perm ..
theorem sortN_len (ks : List PV) : (sortN ks).length = ks.length := (sortN_perm ks).length_eq
section
variable {X : Cx} {pins : List (Addr × Obj)} {σ : L2.St} {H : Hp} {s : Shared} {ρ : Rho}
mutual
theorem rd_is (I : Inv X pins σ H s) : ∀ (x : PV) (d : Nat) (v : V) (u : Value), keyD d x = true → Rep X.K ρ H x v → RelV v u → Reads s.heap u (pvD x) [] ∧ (pvD x).depth ≤ d
  | .non, d, v, u, _, r, q => by
    rw [r.non_of] at q
    cases q
    exact ⟨.none, Nat.zero_le _⟩
  | .int i, d, v, u, _, r, q => by
    rw [r.int_of] at q
    obtain ⟨t, rfl⟩ := q
    exact ⟨.int i t, Nat.zero_le _⟩
  | .str x, d, v, u, _, r, q => by
    rw [r.str_of] at q
    obtain ⟨t, rfl⟩ := q
    exact ⟨.str x t, Nat.zero_le _⟩
  | .tup xs, 0, v, u, h, _, _ => by unfold keyD at h; cases h
  | .tup xs, d + 1, v, u, h, r, q => by
    unfold keyD at h
    unfold Rep at r
    obtain ⟨a, vs, rfl, h1, h2⟩ := r
    cases q
    obtain ⟨its, rv, ⟨o, ho, hc, n, hd⟩, _⟩ := I.tuple h1.sq
    obtain ⟨k1, k2⟩ := rds_is I xs d vs its h h2 rv
    refine ⟨.tuple ho hc hd (by simpa using k1), ?_⟩
    show PyData.depth (.tuple (pvDs xs)) ≤ d + 1
    unfold PyData.depth
    omega
  | .bl _, d, v, u, h, _, _ => by cases d <;> (unfold keyD at h; cases h)
  | .ls _, d, v, u, h, _, _ => by cases d <;> (unfold keyD at h; cases h)
  | .fz _, d, v, u, h, _, _ => by cases d <;> (unfold keyD at h; cases h)
  | .dc _ _, d, v, u, h, _, _ => by cases d <;> (unfold keyD at h; cases h)
  | .loc _, d, v, u, h, _, _ => by cases d <;> (unfold keyD at h; cases h)
theorem rds_is (I : Inv X pins σ H s) : ∀ (xs : List PV) (d : Nat) (vs : List V) (us : List Value), xs.all (keyD d) = true → Reps X.K ρ H xs vs → Vals vs us → ReadsAll s.heap us (pvDs xs) [] ∧ PyData.depthAll (pvDs xs) ≤ d
  | [], d, vs, us, _, r, q => by
    unfold Reps at r
    subst r
    cases q
    exact ⟨.nil, Nat.zero_le _⟩
  | x :: xs, d, vs, us, h, r, q => by
    rw [List.all_cons, Bool.and_eq_true] at h
    obtain ⟨v, t, rfl, r1, r2⟩ := r.uncons
    cases q with
    | cons q1 q2 =>
      obtain ⟨a1, a2⟩ := rd_is I x d v _ h.1 r1 q1
      obtain ⟨b1, b2⟩ := rds_is I xs d t _ h.2 r2 q2
      refine ⟨.cons a1 b1, ?_⟩
      unfold pvDs PyData.depthAll
      exact Nat.max_le.mpr ⟨a2, b2⟩
end
/-- v is what x is -/
def Is (K : PySem.W.Frag) (ρ : Rho) (H : Hp) (v : Value) (x : PV) : Prop := ∃ y, RelV y v ∧ Rep K ρ H x y
theorem is_each {K : PySem.W.Frag} : ∀ {xs : List PV} {us : List Value}, PySem.W.EachIs (Is K ρ H) us xs → ∃ vs, Reps K ρ H xs vs ∧ Vals vs us
  | _, _, .nil => ⟨[], .nil, .nil⟩
  | _, _, .cons ⟨y, h1, h2⟩ t => by
    obtain ⟨vs, g1, g2⟩ := is_each t
    exact ⟨y :: vs, .cons h2 g1, .cons h1 g2⟩
theorem each_rd (I : Inv X pins σ H s) {ks : List PV} {us : List Value} (hk : ∀ x ∈ ks, isKey x = true) (e : PySem.W.EachIs (Is X.K ρ H) us ks) : PySem.W.EachIs (fun v x => Reads s.heap v (pvD x) []) us ks :=
  (PySem.W.each_mem e).mono fun v x ⟨⟨y, h1, h2⟩, hm⟩ => (rd_is I x 8 y v (isKey_of (hk x hm)) h2 h1).1
theorem alike_ks {ks : List PV} (h : ∀ x ∈ ks, ∀ y ∈ ks, PySem.W.alike (pvD x) (pvD y) = true) : PySem.W.AllAlike (ks.map pvD) := by
  intro d hd d' hd'
  obtain ⟨b, hb, rfl⟩ := List.mem_map.mp hd
  obtain ⟨b', hb', rfl⟩ := List.mem_map.mp hd'
  exact h b hb b' hb'
theorem sortable_ks {ks : List PV} (h : ∀ x ∈ ks, isTup1 x = true) : PySem.W.Sortable (ks.map pvD) := .inl fun d hd => by
  obtain ⟨b, hb, rfl⟩ := List.mem_map.mp hd
  have := h b hb
  unfold isTup1 at this
  split at this
  · exact ⟨_, _, rfl⟩
  · cases this
mutual
theorem dep_is : ∀ (x : PV) (d : Nat), keyD d x = true → (pvD x).depth ≤ d
  | .non, d, _ => Nat.zero_le _
  | .int i, d, _ => Nat.zero_le _
  | .str x, d, _ => Nat.zero_le _
  | .tup xs, 0, h => by unfold keyD at h; cases h
  | .tup xs, d + 1, h => by
    unfold keyD at h
    have := deps_is xs d h
    show PyData.depth (.tuple (pvDs xs)) ≤ d + 1
    unfold PyData.depth
    omega
  | .bl _, d, h => by cases d <;> (unfold keyD at h; cases h)
  | .ls _, d, h => by cases d <;> (unfold keyD at h; cases h)
  | .fz _, d, h => by cases d <;> (unfold keyD at h; cases h)
  | .dc _ _, d, h => by cases d <;> (unfold keyD at h; cases h)
  | .loc _, d, h => by cases d <;> (unfold keyD at h; cases h)
theorem deps_is : ∀ (xs : List PV) (d : Nat), xs.all (keyD d) = true → PyData.depthAll (pvDs xs) ≤ d
  | [], d, _ => Nat.zero_le _
  | x :: xs, d, h => by
    rw [List.all_cons, Bool.and_eq_true] at h
    unfold pvDs PyData.depthAll
    exact Nat.max_le.mpr ⟨dep_is x d h.1, deps_is xs d h.2⟩
end
end
section
variable {G : Gx} {E : XK}
end
/-! l.clear(), l.reverse() -/
section
variable {G : Gx} {E : XK} {X : Cx} {o : Expr} {mo : XE} {apos cpos : Pos}
end
end

/-! MiniP -/
/-! MiniP: sorted(set(..)) of pairs of ints. -/
section
open PySem PySem.Spec PyProof.Rows L2
section
variable {P : Program} {w : World} {A : Around} {E : Value → Shared → Prop} {s : Shared}
end
section
variable {X : Cx}
end
section
variable {G : Gx} {E : XK} {X : Cx} {a : Expr} {ma : XE} {p p2 pos pos2 : Pos}
end
end

/-! MiniQ -/
/-! MiniQ: in a tuple of tuples. -/
section
open PySem PySem.Spec PyProof.Rows L2
section
variable {G : Gx} {E : XK} {X : Cx}
end
end

/-! MiniI -/
/-! MiniI: dicts by ints. -/
section
open PySem PySem.Spec PyProof.Rows L2
section
variable {w : World} {K : PySem.W.Frag} {ρ : Rho} {H : Hp}
end
section
variable {G : Gx} {E : XK} {X : Cx} {a b c e o i : Expr} {ma mb mc me mo mi : XE} {pos : Pos}
/-! sorted(d) -/
/-! l.index(x), ints -/
variable {apos cpos : Pos}
end
end

/-! MiniL -/
/-! MiniL: dicts that are walked: locked for that time. -/
section
open PySem PySem.Spec PyProof.Rows L2
section
variable {w : World} {K : PySem.W.Frag} {ρ : Rho} {H : Hp}
end
section
variable {G : Gx} {E : XK} {X : Cx} {e : Expr} {me : XE}
end
/-! ### the walk -/
section
variable {X : Cx} {pins : List (Addr × Obj)} {σ : L2.St} {H : Hp} {s : Shared} {d : Addr} {o : Obj} {kvs : List (NestedKey × Addr × V)}
end
section
variable {G : Gx} {E : XK} {X : Cx} {e tg : Expr} {me : XE}
end
end

/-! MiniJ -/
/-! MiniJ: max of a list of ints, in a list of tuples, a tuple * 0, sorted(set(..)) of pairs out of long lists. -/
section
open PySem PySem.Spec PyProof.Rows L2
/-! ### max -/
section
variable {G : Gx} {E : XK} {X : Cx}
/-! ### in a list of tuples -/
/-! ### a tuple * 0 -/
end
section
variable {G : Gx} {E : XK} {X : Cx}
end
end

/-! MiniH0 -/
/-! MiniH0: tables of sets up to 512 slots. -/
section
open PySem PySem.Spec PyProof.Rows L2
/-! masks whose round meets each slot -/
def orbit (m : Nat) : Nat → Nat → List Nat
  | 0, _ => []
  | n + 1, x => x :: orbit m n ((x * 5 + 1) % (m + 1))
theorem turn_shift (m i : Nat) : ∀ k, lcgI m ((i * 5 + 1) % (m + 1)) k = lcgI m i (k + 1)
  | 0 => rfl
  | k + 1 => by
    have e := turn_shift m i k
    unfold lcgI
    rw [e]
theorem orbit_mem {m j : Nat} : ∀ {n x : Nat}, j ∈ orbit m n x → ∃ k, k < n ∧ lcgI m x k = j
  | 0, x, h => by cases h
  | n + 1, x, h => by
    rcases List.mem_cons.mp h with e | h
    · exact ⟨0, Nat.succ_pos _, e.symm⟩
    · obtain ⟨k, h1, h2⟩ := orbit_mem h
      exact ⟨k + 1, Nat.succ_lt_succ h1, by rw [← turn_shift]; exact h2⟩
theorem from_zero (m : Nat) : ∀ k, lcgI m 0 k = lcgN m k
  | 0 => rfl
  | k + 1 => by
    unfold lcgI lcgN
    rw [from_zero m k]
theorem orb_512 : ((List.range 512).all fun j => (orbit 511 512 0).elem j) = true := by decide +kernel
theorem orb_back : lcgN 511 512 = 0 := by decide +kernel
theorem orb_again : ∀ k, lcgN 511 (512 + k) = lcgN 511 k
  | 0 => orb_back
  | k + 1 => by
    have e := orb_again k
    show (lcgN 511 (512 + k) * 5 + 1) % 512 = _
    rw [e]
    rfl
theorem orb_at {j : Nat} (h : j ≤ 511) : ∃ b, b ≤ 511 ∧ lcgN 511 b = j := by
  have h1 := List.all_eq_true.mp orb_512 j (List.mem_range.mpr (by omega))
  obtain ⟨k, h2, h3⟩ := orbit_mem (List.elem_iff.mp h1)
  exact ⟨k, by omega, by rw [← from_zero]; exact h3⟩
structure Rnd (m : Nat) : Prop where
  odd : m % 2 = 1
  top : m ≤ 511
  all : ∀ i j, i ≤ m → j ≤ m → ∃ k, k ≤ m ∧ lcgI m i k = j
theorem rnd_small {m : Nat} (h : MaskOk m) (ht : m ≤ 127) : Rnd m := ⟨mask_odd h, by omega, fun _ _ hi hj => lcgI_all h hi hj⟩
theorem rnd_7 : Rnd 7 := rnd_small (.inl rfl) (by omega)
theorem rnd_31 : Rnd 31 := rnd_small (.inr (.inl rfl)) (by omega)
theorem rnd_127 : Rnd 127 := rnd_small (.inr (.inr rfl)) (by omega)
theorem rnd_511 : Rnd 511 := by
  refine ⟨rfl, Nat.le_refl _, fun i j hi hj => ?_⟩
  obtain ⟨a, a1, rfl⟩ := orb_at hi
  obtain ⟨b, b1, rfl⟩ := orb_at hj
  by_cases c : a ≤ b
  · exact ⟨b - a, by omega, by rw [lcgN_add, Nat.add_sub_cancel' c]⟩
  · refine ⟨512 + b - a, by omega, ?_⟩
    rw [lcgN_add, show a + (512 + b - a) = 512 + b by omega, orb_again]
theorem starts_at {m : Nat} (R : Rnd m) (h : Int) {j : Nat} (hj : j ≤ m) : ∃ n, n ≤ m + 12 ∧ runI m (SetTable.bits h) n = j := by
  obtain ⟨k, k1, k2⟩ := R.all _ j (runI_le m (SetTable.bits h) 12) hj
  refine ⟨12 + k, by omega, ?_⟩
  rw [runI_tail (bits_lt h)]
  exact k2
theorem comes_to {m : Nat} (R : Rnd m) (h : Int) {j : Nat} (hj : j ≤ m) : ∃ k, k < 10 * SetTable.turns m ∧ way m h k = j := by
  obtain ⟨n, n1, n2⟩ := starts_at R h hj
  obtain ⟨k, k1, k2⟩ := run_nth m (SetTable.bits h) n
  refine ⟨k, ?_, ?_⟩
  · unfold SetTable.turns
    omega
  · show (nth m _ k).j = j
    rw [k2]
    exact n2
theorem stays_in (m : Nat) (h : Int) (k : Nat) : way m h k ≤ m := by
  have z : SetTable.bits h % (m + 1) ≤ m := by
    have : SetTable.bits h % (m + 1) < m + 1 := Nat.mod_lt _ (Nat.succ_pos m)
    omega
  have e := runEnd_bd z
  have q := nth_in k (runAt m (SetTable.bits h % (m + 1)) (SetTable.bits h)) (m := m) (by
    unfold runAt
    dsimp only
    omega)
  unfold way
  omega
/-- the table's word: each hash is found again on its way -/
structure TabN (t : SetTable) (hs : List Int) : Prop where
  ris : Ris t.place.toList
  dm : t.dummies = #[]
  sz : t.place.toList.length = hs.length
  rnd : Rnd t.mask
  bd : ∀ j, j ∈ t.place.toList → j ≤ t.mask
  get : ∀ (i : Nat) (h : Int) (j : Nat), hs[i]? = some h → t.place.toList[i]? = some j → ∃ k, way t.mask h k = j ∧ ∀ c, c < k → way t.mask h c ∈ t.place.toList
/-- where the way of a hash first meets nobody -/
def Open (t : SetTable) (h : Int) (K : Nat) : Prop := way t.mask h K ∉ t.place.toList ∧ ∀ c, c < K → way t.mask h c ∈ t.place.toList
theorem TabN.open {t : SetTable} {hs : List Int} (T : TabN t hs) (hl : hs.length ≤ t.mask) (h : Int) : ∃ K, K < 10 * SetTable.turns t.mask ∧ Open t h K := by
  obtain ⟨j, j1, j2⟩ := st_missing t.place.toList (t.mask + 1) (by rw [T.sz]; omega)
  obtain ⟨k, k1, k2⟩ := comes_to T.rnd h (j := j) (by omega)
  obtain ⟨K, a, b, c⟩ := st_least (p := fun k => ¬ way t.mask h k ∈ t.place.toList) k (by show ¬ way t.mask h k ∈ t.place.toList; rw [k2]; exact j2)
  exact ⟨K, by omega, b, fun x hx => Classical.byContradiction fun z => c x hx z⟩
theorem TabN.met {t : SetTable} {hs : List Int} (T : TabN t hs) {h : Int} {K i j : Nat} (o : Open t h K) (hi : hs[i]? = some h) (hj : t.place.toList[i]? = some j) : ∃ k, k < K ∧ way t.mask h k = j := by
  obtain ⟨k, e, b⟩ := T.get i h j hi hj
  refine ⟨k, Nat.lt_of_not_le fun c => o.1 ?_, e⟩
  rcases Nat.lt_or_eq_of_le c with c | rfl
  · exact b K c
  · rw [e]
    exact List.mem_of_getElem? hj
theorem TabN.put {t : SetTable} {hs : List Int} (T : TabN t hs) {h : Int} {K : Nat} (o : Open t h K) : ∃ t' p, t.put (way t.mask h K) = (t', p) ∧ p ≤ hs.length ∧ TabN t' (hs.take p ++ h :: hs.drop p) ∧ t'.mask = t.mask ∧ t'.led = t.led ∧ t'.fill = hs.length + 1 := by
  have top := stays_in t.mask h K
  obtain ⟨no, all⟩ := o
  refine ⟨(t.put (way t.mask h K)).1, (t.put (way t.mask h K)).2, rfl, ?_⟩
  have key : (t.put (way t.mask h K)).2 = SetTable.below t.place (way t.mask h K) := rfl
  rw [key]
  generalize hj : way t.mask h K = j at no top
  have cut := (below_cut T.ris j).1
  have pp := put_place t j
  have c1 : SetTable.below t.place j ≤ t.place.toList.length := cut
  have c2 : SetTable.below t.place j ≤ hs.length := by rw [← T.sz]; exact c1
  have away : t.place[SetTable.below t.place j]? ≠ some j := fun e => no (List.mem_of_getElem? (by rw [Array.getElem?_toList]; exact e))
  have more : ∀ x, x ∈ t.place.toList → x ∈ (t.put j).1.place.toList := fun x hx => by rw [pp]; exact mem_ins.2 (.inr hx)
  have len : (t.put j).1.place.toList.length = hs.length + 1 := by rw [pp, len_ins _ c1, T.sz]
  refine ⟨c2, ⟨ris_insert T.ris away, put_dm T.dm j, by rw [len_ins _ c2]; exact len, T.rnd, fun x hx => ?_, fun i g y h1 h2 => ?_⟩, rfl, rfl, ?_⟩
  · rw [pp] at hx
    exact (mem_ins.1 hx).elim (fun z => z ▸ top) (T.bd x)
  · rw [pp, tins_get _ c1] at h2
    rw [tins_get _ c2] at h1
    show ∃ k, way t.mask g k = y ∧ ∀ c, c < k → _
    have old : ∀ i, hs[i]? = some g → t.place.toList[i]? = some y → ∃ k, way t.mask g k = y ∧ ∀ c, c < k → way t.mask g c ∈ (t.put j).1.place.toList := fun i a b => by
      obtain ⟨k, k1, k2⟩ := T.get i g y a b
      exact ⟨k, k1, fun c hc => more _ (k2 c hc)⟩
    split at h1
    · rename_i c
      rw [if_pos c] at h2
      exact old i h1 h2
    · rename_i c
      rw [if_neg c] at h2
      split at h1
      · rename_i d
        rw [if_pos d] at h2
        cases h1
        cases h2
        exact ⟨K, hj, fun c hc => more _ (all c hc)⟩
      · rename_i d
        rw [if_neg d] at h2
        exact old _ h1 h2
  · unfold SetTable.fill
    rw [put_dm T.dm j, ← Array.length_toList, len]
    rfl
/-! laid anew -/
theorem finds_free {m : Nat} (R : Rnd m) (who : Array (Option Nat)) (h : Int) {j : Nat} (hj : j ≤ m) (hf : oAt who j = none) :
    ∃ K, SetTable.layClean.free m who (SetTable.turns m) (SetTable.bits h % (m + 1)) (SetTable.bits h) = some (way m h K) ∧ oAt who (way m h K) = none ∧ ∀ c, c < K → oAt who (way m h c) ≠ none := by
  obtain ⟨n, n1, n2⟩ := starts_at R h hj
  have at_ : way m h (off m (SetTable.bits h % (m + 1)) (SetTable.bits h) n) = j := by
    unfold way
    rw [nth_off, itL_run, ← n2]
    rfl
  obtain ⟨K, a, b, c⟩ := st_least (p := fun c => oAt who (way m h c) = none) _ (by show oAt who (way m h _) = none; rw [at_]; exact hf)
  refine ⟨K, free_spec m who _ n _ _ K (by unfold SetTable.turns; omega) a (fun c' hc' => ?_) ?_, b, c⟩
  · exact Option.isNone_eq_false_iff.mpr (Option.isSome_iff_ne_none.mpr (c c' hc'))
  · have b : oAt who (nth m _ K).j = none := b
    rw [b]
    rfl
theorem own_next {m : Nat} (R : Rnd m) {done : List Int} {who : Array (Option Nat)} (W : L2.Own m done who) (hl : done.length ≤ m) (h : Int) :
    ∃ j, SetTable.layClean.free m who (SetTable.turns m) (SetTable.bits h % (m + 1)) (SetTable.bits h) = some j ∧ L2.Own m (done ++ [h]) (who.setIfInBounds j (some done.length)) := by
  have ⟨ps, p1, p2⟩ := W.ps
  obtain ⟨j0, j1, j2⟩ := st_missing ps (m + 1) (by omega)
  have none0 : oAt who j0 = none := Classical.byContradiction fun z => j2 (p2 j0 (by omega) z)
  obtain ⟨K, f1, f2, f3⟩ := finds_free R who h (show j0 ≤ m by omega) none0
  have top := stays_in m h K
  generalize hj : way m h K = j at f1 f2 top
  have self := oAt_set_self (owner := who) (some done.length) (j := j) (by rw [W.sz]; omega)
  have keep : ∀ i, oAt who i ≠ none → oAt (who.setIfInBounds j (some done.length)) i ≠ none := fun i hi => by
    by_cases c : i = j
    · subst c
      exact absurd f2 hi
    · rwa [oAt_set_ne _ c]
  refine ⟨j, f1, ?_, fun i k hi e => ?_, fun k hk => ?_, j :: ps, ?_, fun i hi e => ?_⟩
  · rw [Array.size_setIfInBounds, W.sz]
  · by_cases c : i = j
    · subst c
      rw [self] at e
      cases e
      exact ⟨h, K, by simp, hj, fun c hc => keep _ (f3 c hc)⟩
    · rw [oAt_set_ne _ c] at e
      obtain ⟨g, L, a1, a2, a3⟩ := W.at_ i k hi e
      exact ⟨g, L, by rw [List.getElem?_append_left (List.getElem?_eq_some_iff.mp a1).1]; exact a1, a2, fun c hc => keep _ (a3 c hc)⟩
  · rw [List.length_append] at hk
    have hk : k < done.length + 1 := hk
    by_cases c : k = done.length
    · subst c
      exact ⟨j, top, self⟩
    · obtain ⟨i, i1, i2⟩ := W.all k (by omega)
      refine ⟨i, i1, ?_⟩
      rw [oAt_set_ne _ fun z => ?_]
      · exact i2
      · subst z
        rw [f2] at i2
        cases i2
  · simp [p1]
  · by_cases c : i = j
    · exact c ▸ List.mem_cons_self
    · rw [oAt_set_ne _ c] at e
      exact List.mem_cons_of_mem _ (p2 i hi e)
theorem own_all {m : Nat} (R : Rnd m) : ∀ (rest done : List Int) (who : Array (Option Nat)), L2.Own m done who → done.length + rest.length ≤ m →
    ∃ who' n, rest.foldl (stepF m) (some (who, done.length)) = some (who', n) ∧ L2.Own m (done ++ rest) who'
  | [], done, who, W, _ => ⟨who, _, rfl, by rw [List.append_nil]; exact W⟩
  | h :: rest, done, who, W, hl => by
    have hl : done.length + (rest.length + 1) ≤ m := hl
    obtain ⟨j, e, W1⟩ := own_next R W (by omega) h
    have ln : (done ++ [h]).length = done.length + 1 := List.length_append
    obtain ⟨who', n, f, W2⟩ := own_all R rest (done ++ [h]) _ W1 (by omega)
    refine ⟨who', n, ?_, ?_⟩
    · rw [List.foldl_cons, stepF_some e, ← ln]
      exact f
    · rwa [List.append_assoc] at W2
theorem live_ris (m : Nat) (who : Array (Option Nat)) : Ris ((liveOf m who).map (·.1)) ∧ ∀ x ∈ (liveOf m who).map (·.1), x ∈ List.range (m + 1) :=
  ris_live (fun j => who.getD j none) (List.range (m + 1)) (by unfold Ris; exact List.pairwise_lt_range)
theorem anew_ok (t : SetTable) {hs : Array Int} {wanted M : Nat} (hw : SetTable.sizeAbove wanted = M + 1) (R : Rnd M) (hn : hs.size ≤ M) :
    ∃ t' order, t.relaid hs wanted = some (t', order) ∧ order.toList.Perm (List.range hs.size) ∧ TabN t' (order.toList.map fun i => hs.getD i 0) ∧ t'.mask = M ∧ t'.led = t.led := by
  obtain ⟨who, n, f, W⟩ := own_all R hs.toList [] _ (L2.Own.init M) (by simpa using hn)
  rw [List.nil_append] at W
  have f : hs.toList.foldl (stepF M) (some (Array.replicate (M + 1) none, 0)) = some (who, n) := f
  refine ⟨tabOf t M who, ((liveOf M who).map (·.2)).toArray, ?_, ?_⟩
  · rw [relaid_eq, hw, Nat.add_sub_cancel, layClean_eq, f]
    rfl
  obtain ⟨r1, r2⟩ := live_ris M who
  have nd : ((liveOf M who).map (·.1)).Nodup := r1.imp fun h => Nat.ne_of_lt h
  have full : ∀ k, k < hs.size → k ∈ (liveOf M who).map (·.2) := fun k hk => by
    obtain ⟨j, b1, b2⟩ := W.all k (by simpa using hk)
    exact List.mem_map.mpr ⟨(j, k), (mem_live W.sz).2 ⟨b1, b2⟩, rfl⟩
  have len : (liveOf M who).length = hs.size := by
    obtain ⟨ps, p1, p2⟩ := W.ps
    have a := nat_nodup_len _ ps nd fun x hx => by
      obtain ⟨⟨y, k⟩, hq, rfl⟩ := List.mem_map.mp hx
      obtain ⟨b1, b2⟩ := (mem_live W.sz).1 hq
      exact p2 y b1 (by rw [b2]; simp)
    have b := nat_nodup_len _ _ (List.nodup_range (n := hs.size)) fun k hk => full k (List.mem_range.mp hk)
    simp only [List.length_map, List.length_range, Array.length_toList] at a b p1
    omega
  refine ⟨perm_range _ _ (by simpa using len) full, ⟨r1, rfl, by simp [tabOf], R, fun x hx => ?_, fun i h j h1 h2 => ?_⟩, rfl, rfl⟩
  · have := List.mem_range.mp (r2 x hx)
    show x ≤ M
    omega
  · have h1 : (((liveOf M who).map (·.2)).map fun i => hs.getD i 0)[i]? = some h := h1
    have h2 : ((liveOf M who).map (·.1))[i]? = some j := h2
    simp only [List.getElem?_map, Option.map_map, Option.map_eq_some_iff] at h1 h2
    obtain ⟨⟨y, k⟩, hq, rfl⟩ := h2
    obtain ⟨q', hq', rfl⟩ := h1
    rw [hq] at hq'
    cases hq'
    obtain ⟨b1, b2⟩ := (mem_live W.sz).1 (List.mem_of_getElem? hq)
    obtain ⟨g, K, a1, a2, a3⟩ := W.at_ y k b1 b2
    have e : hs.getD k 0 = g := by
      rw [Array.getD_eq_getD_getElem?, ← Array.getElem?_toList, a1]
      rfl
    refine ⟨K, ?_, fun c hc => ?_⟩
    · show way M (hs.getD k 0) K = y
      rw [e]
      exact a2
    · show way M (hs.getD k 0) c ∈ (liveOf M who).map (·.1)
      rw [e]
      obtain ⟨k2, e2⟩ := Option.ne_none_iff_exists'.mp (a3 c hc)
      exact List.mem_map.mpr ⟨(way M g c, k2), (mem_live W.sz).2 ⟨stays_in M g c, e2⟩, rfl⟩
theorem above_5 : SetTable.sizeAbove (SetTable.grown 5) = 32 := by decide +kernel
theorem above_19 : SetTable.sizeAbove (SetTable.grown 19) = 128 := by decide +kernel
theorem above_77 : SetTable.sizeAbove (SetTable.grown 77) = 512 := by decide +kernel
end

/-! MiniH1 -/
/-! MiniH1: sets of nested tuples: questions asked of them, the search. -/
section
open PySem PySem.Spec PyProof.Rows L2
section
variable {P : Program} {w : World}
/-- v is of no class statement, n levels down -/
def PlainAt (P : Program) (w : World) (n : Nat) (s : Shared) (v : Value) : Prop := ∀ (A : Around) (E : Value → Shared → Prop) (Q : Bool → Shared → Prop), Q false s → wpAny (model P w) A (ofAClassStatement n v) Q E s
theorem PlainAt.tup {n : Nat} {s : Shared} {b : Addr} {o : Obj} {vs : Array Value} {m : Nat} (h1 : s.heap.get? b = some o) (h2 : o.cls = .type "tuple") (h3 : o.data = .seq vs m) (all : ∀ v ∈ vs.toList, PlainAt P w n s v) : PlainAt P w (n + 1) s (.ref b) := fun A E Q hq => by
  have ty : s.TypeIs (.ref b) "tuple" := ⟨o, h1, h2⟩
  unfold ofAClassStatement
  refine wpAny_bind (wpAny_typeOf ty ?_)
  have e : (("tuple" : String) == "tuple") = true := by decide
  dsimp only
  simp only [e, Bool.false_eq_true, Bool.not_true, if_true, if_false]
  try refine wpAny_bind (wpAny_pure ?_)
  try simp only [Bool.false_eq_true, Bool.not_true, if_false]
  show wpAny (model P w) A (seqItems? (.ref b) >>= _) Q E s
  refine wpAny_bind (wpAny_seqItems h1 h3 (by
    dsimp only
    refine wpAny_bind ?_
    show wpAny (model P w) A (forIn vs _ _) _ E s
    rw [← Array.forIn_toList]
    refine wpAny_forIn_list _ (fun left acc t => (∀ v ∈ left, PlainAt P w n s v) ∧ t = s ∧ acc.1 = none) _ (fun v left acc t => ?_) (fun acc t => ?_) _ _ ⟨all, rfl, rfl⟩
    · rintro ⟨h, rfl, ha⟩
      refine wpAny_bind (h v List.mem_cons_self _ _ _ ?_)
      simp only [Bool.false_eq_true, if_false]
      exact wpAny_pure ⟨fun u hu => h u (List.mem_cons_of_mem _ hu), rfl, rfl⟩
    · obtain ⟨a1, a2⟩ := acc
      rintro ⟨_, rfl, ha⟩
      have ha : a1 = none := ha
      subst ha
      exact wpAny_pure hq))
theorem PlainAt.leaf {n : Nat} {s : Shared} {v : Value} (h : ∀ b, v ≠ .ref b) : PlainAt P w n s v := fun A E Q hq => by
  cases v with
  | ref b => exact absurd rfl (h b)
  | _ => cases n <;> exact wpAny_pure hq
mutual
theorem plain_key : ∀ (k : NestedKey) (v : Value) (n : Nat) (s : Shared), k.depth ≤ n → NestedIs s.heap k v → PlainAt P w n s v
  | .tup ks, _, 0, _, h, _ => by
    unfold NestedKey.depth at h
    omega
  | .tup ks, _, n + 1, s, h, q => by
    unfold NestedKey.depth at h
    cases q with
    | tup q1 q2 q3 q4 => exact .tup q1 q2 q3 (plain_keys ks _ n s (by omega) q4)
  | .none, _, _, _, _, q => by cases q; exact .leaf fun b e => nomatch e
  | .num _, _, _, _, _, q => by cases q <;> exact .leaf fun b e => nomatch e
  | .text _, _, _, _, _, q => by cases q; exact .leaf fun b e => nomatch e
theorem plain_keys : ∀ (ks : List NestedKey) (vs : List Value) (n : Nat) (s : Shared), NestedKey.depthAll ks ≤ n → NestedAll s.heap ks vs → ∀ v ∈ vs, PlainAt P w n s v
  | [], _, _, _, _, q, v, m => by cases q; cases m
  | k :: ks, _, n, s, h, q, v, m => by
    unfold NestedKey.depthAll at h
    cases q with
    | cons q1 q2 => exact (List.mem_cons.mp m).elim (fun e => e ▸ plain_key k _ n s (by omega) q1) (plain_keys ks _ n s (by omega) q2 v)
end
/-- whether v's hash hangs on its value alone is told, one way or the other -/
def TellsHash (P : Program) (w : World) (n : Nat) (s : Shared) (v : Value) : Prop := ∀ (A : Around) (E : Value → Shared → Prop) (Q : Bool → Shared → Prop), (∀ b, Q b s) → wpAny (model P w) A (hashByValue n v) Q E s
theorem TellsHash.tup {n : Nat} {s : Shared} {b : Addr} {o : Obj} {vs : Array Value} {m : Nat} (h1 : s.heap.get? b = some o) (h2 : o.cls = .type "tuple") (h3 : o.data = .seq vs m) (all : ∀ v ∈ vs.toList, TellsHash P w n s v) : TellsHash P w (n + 1) s (.ref b) := fun A E Q hq => by
  have ty : s.TypeIs (.ref b) "tuple" := ⟨o, h1, h2⟩
  unfold hashByValue
  refine wpAny_bind (wpAny_specialOf ty F.slot_tuple_hash.lookup ?_)
  show wpAny (model P w) A (seqItems? (.ref b) >>= _) Q E s
  refine wpAny_bind (wpAny_seqItems h1 h3 (by
    refine wpAny_bind ?_
    show wpAny (model P w) A (forIn vs _ _) _ E s
    rw [← Array.forIn_toList]
    refine wpAny_forIn_list _ (fun left acc t => (∀ v ∈ left, TellsHash P w n s v) ∧ t = s ∧ acc.1 = none) _ (fun v left acc t => ?_) (fun acc t => ?_) _ _ ⟨all, rfl, rfl⟩
    · rintro ⟨h, rfl, ha⟩
      refine wpAny_bind (h v List.mem_cons_self _ _ _ fun c => ?_)
      cases c with
      | true =>
        simp only [Bool.not_true, Bool.false_eq_true, if_false]
        exact wpAny_pure ⟨fun u hu => h u (List.mem_cons_of_mem _ hu), rfl, rfl⟩
      | false =>
        simp only [Bool.not_false, if_true]
        exact wpAny_pure (wpAny_pure (hq false))
    · obtain ⟨a1, a2⟩ := acc
      rintro ⟨_, rfl, ha⟩
      have ha : a1 = none := ha
      subst ha
      exact wpAny_pure (hq true)))
theorem TellsHash.leaf {n : Nat} {s : Shared} {v : Value} (b : Bool) (h : ∀ n, hashByValue n v = pure b) : TellsHash P w n s v := fun A E Q hq => by
  rw [h n]
  exact wpAny_pure (hq b)
mutual
theorem tells_key : ∀ (k : NestedKey) (v : Value) (n : Nat) (s : Shared), NestedIs s.heap k v → TellsHash P w n s v
  | .tup ks, _, 0, s, q => by
    cases q
    exact fun A E Q hq => wpAny_pure (hq false)
  | .tup ks, _, n + 1, s, q => by
    cases q with
    | tup q1 q2 q3 q4 => exact .tup q1 q2 q3 (tells_keys ks _ n s q4)
  | .none, _, n, _, q => by cases q; exact .leaf true fun n => by cases n <;> rfl
  | .num _, _, n, _, q => by cases q <;> exact .leaf true fun n => by cases n <;> rfl
  | .text _, _, n, _, q => by cases q; exact .leaf false fun n => by cases n <;> rfl
theorem tells_keys : ∀ (ks : List NestedKey) (vs : List Value) (n : Nat) (s : Shared), NestedAll s.heap ks vs → ∀ v ∈ vs, TellsHash P w n s v
  | [], _, _, _, q, v, m => by cases q; cases m
  | k :: ks, _, n, s, q, v, m => by
    cases q with
    | cons q1 q2 => exact (List.mem_cons.mp m).elim (fun e => e ▸ tells_key k _ n s q1) (tells_keys ks _ n s q2 v)
end
variable {A : Around} {E : Value → Shared → Prop} {s : Shared}
abbrev KeyAt (P : Program) (w : World) (h : Heap) (k : NestedKey) (b : Addr) : Prop := (nestedKind P w).is h k b
theorem unseen {k : NestedKey} {b : Addr} {Q : Bool → Shared → Prop} (hb : KeyAt P w s.heap k b) {ys : List Value} (hy : ∀ y ∈ ys, ∃ k' c, y = Value.ref c ∧ KeyAt P w s.heap k' c) (hq : Q false s) :
    wpAny (model P w) A (searchCouldBeSeen (.ref b) ys) Q E s := by
  unfold searchCouldBeSeen
  refine wpAny_bind (wpAny_forIn_list _ (fun left acc t => (∀ y ∈ left, ∃ k' c, y = Value.ref c ∧ KeyAt P w s.heap k' c) ∧ t = s ∧ acc.1 = none) _ (fun y left acc t => ?_) (fun acc t => ?_) _ _ ⟨hy, rfl, rfl⟩)
  · rintro ⟨h, rfl, ha⟩
    obtain ⟨k', c, rfl, hc⟩ := h y List.mem_cons_self
    have on : ∀ y ∈ left, ∃ k' c, y = Value.ref c ∧ KeyAt P w t.heap k' c := fun u hu => h u (List.mem_cons_of_mem _ hu)
    dsimp only
    by_cases same : (b == c || (carriedByValue (.ref b) && carriedByValue (.ref c))) = true
    · exact wp_if_pos same (wpAny_pure ⟨on, rfl, rfl⟩)
    · refine wp_if_neg same (wpAny_bind ((nestedKind P w).quiet hb ?_))
      simp only [Bool.not_true, Bool.false_eq_true, if_false]
      refine wpAny_bind ((nestedKind P w).quiet hc ?_)
      simp only [Bool.not_true, Bool.false_eq_true, if_false]
      refine wpAny_bind (plain_key k _ 8 t hb.2 hb.1 A _ _ ?_)
      simp only [Bool.false_eq_true, if_false]
      refine wpAny_bind (plain_key k' _ 8 t hc.2 hc.1 A _ _ ?_)
      simp only [Bool.false_eq_true, if_false]
      exact wpAny_pure ⟨on, rfl, rfl⟩
  · obtain ⟨a1, a2⟩ := acc
    rintro ⟨_, rfl, ha⟩
    have ha : a1 = none := ha
    subst ha
    exact wpAny_pure hq
/-! the set -/
def rowsN (w : World) (L : List (Addr × NestedKey)) : List (Int × Value) := L.map fun p => (p.2.hash w, Value.ref p.1)
def hashesN (w : World) (L : List (Addr × NestedKey)) : List Int := L.map fun p => p.2.hash w
def FourMasks (m : Nat) : Prop := m = 7 ∨ m = 31 ∨ m = 127 ∨ m = 511
structure SetN (P : Program) (w : World) (h : Heap) (a : Addr) (L : List (Addr × NestedKey)) (es : Array (Int × Value)) (ep : Nat) (t : SetTable) : Prop where
  ob : ∃ o : Obj, h.get? a = some o ∧ o.ExactSet ∧ o.data = .set es ep t
  rows : es.toList = rowsN w L
  tab : TabN t (hashesN w L)
  pow : FourMasks t.mask
  nd : (L.map (·.2)).Nodup
  keys : ∀ p ∈ L, KeyAt P w h p.2 p.1
  led : (w.params.followText "set-order" = true) ∨ t.led = true
  room : (L.length * 5 : Nat) < t.mask * 3
variable {a : Addr} {L : List (Addr × NestedKey)} {es : Array (Int × Value)} {ep : Nat} {t : SetTable}
theorem rows_size (h : es.toList = rowsN w L) : es.size = L.length := by
  rw [← Array.length_toList, h]
  exact List.length_map ..
theorem SetN.size (R : SetN P w s.heap a L es ep t) : es.size = L.length := rows_size R.rows
theorem SetN.places (R : SetN P w s.heap a L es ep t) : t.place.toList.length = L.length := R.tab.sz.trans (List.length_map ..)
theorem fits_of {t : SetTable} {n : Nat} (h1 : t.dummies = #[]) (h2 : t.place.toList.length = n) (h3 : n ≤ t.mask) : t.fits n = true := by
  unfold SetTable.fits SetTable.fill
  rw [h1, Bool.and_eq_true, beq_iff_eq, decide_eq_true_eq]
  rw [Array.length_toList] at h2
  refine ⟨h2, ?_⟩
  show t.place.size + 0 ≤ t.mask
  omega
theorem SetN.fits (R : SetN P w s.heap a L es ep t) : t.fits es.size = true := by
  have := R.room
  exact fits_of R.tab.dm (by rw [R.places, R.size]) (by rw [R.size]; omega)
theorem row_at (h : es.toList = rowsN w L) {i : Nat} {p : Addr × NestedKey} (hp : L[i]? = some p) : es[i]? = some (p.2.hash w, Value.ref p.1) := by
  rw [← Array.getElem?_toList, h]
  show (L.map _)[i]? = _
  rw [List.getElem?_map, hp]
  rfl
theorem SetN.stood (R : SetN P w s.heap a L es ep t) : ¬ t.gaveWay = true := by
  unfold SetTable.gaveWay
  rw [R.tab.rnd.odd]
  decide
abbrev first (m : Nat) (h : Int) : SetTable.Probe := runAt m (SetTable.bits h % (m + 1)) (SetTable.bits h)
theorem no_dummy (m : Nat) : ∀ (n : Nat) (p : SetTable.Probe), p.dummy = none → (nth m p n).dummy = none
  | 0, _, h => h
  | n + 1, p, h => no_dummy m n (adv m p) (by unfold adv; split <;> exact h)
/-- the search from the b-th step on -/
theorem seek (R : SetN P w s.heap a L es ep t) {x : Addr} {k : NestedKey} (hx : KeyAt P w s.heap k x) (hu : A.units + 8 < cLine) {h : Int} (hh : k.hash w = h) {K : Nat} (hf : K < 10 * SetTable.turns t.mask) (op : Open t h K) {Q : SetFound → Shared → Prop}
    (yes : k ∈ L.map (·.2) → Q (.there none) s) (no : k ∉ L.map (·.2) → Q (.free (way t.mask h K) false) s) :
    ∀ (g b : Nat) (z : Option SetTable.Probe), z.getD (t.probeStart h) = nth t.mask (first t.mask h) b → b ≤ K → K < g + b →
      (∀ (i : Nat) p, L[i]? = some p → p.2 = k → ∃ c, b ≤ c ∧ c < K ∧ t.place.toList[i]? = some (way t.mask h c)) →
      wpAny (model P w) A (setSearchFrom a (.ref x) h true g z) Q E s := by
  intro g
  induction g with
  | zero => intro b z _ h1 h2; omega
  | succ g ih =>
    intro b z hz hb hg ahead
    obtain ⟨ob, oa, oe, od⟩ := R.ob
    have sh : ∀ q, nth t.mask (nth t.mask (first t.mask h) b) q = nth t.mask (first t.mask h) (b + q) := fun q => (nth_add t.mask b _ q).symm
    have wj : ∀ q, (nth t.mask (nth t.mask (first t.mask h) b) q).j = way t.mask h (b + q) := fun q => by rw [sh]
    have told := go_spec t R.tab.ris R.tab.dm (fun i => (es[i]?.map (·.1)).getD 0) h (10 * SetTable.turns t.mask) (K - b) (nth t.mask (first t.mask h) b) (no_dummy _ b _ rfl) (by omega)
      (fun q hq => by rw [wj]; exact op.2 _ (by omega)) (by rw [wj, Nat.add_sub_cancel' hb]; exact op.1)
    have hat : ∀ (i : Nat) p, L[i]? = some p → (es[i]?.map (·.1)).getD 0 = p.2.hash w := fun i p hp => by rw [row_at R.rows hp]; rfl
    rw [setSearchFrom_succ]
    refine wpAny_bind (wpAny_setState_of oa od R.fits (by
      dsimp only
      refine wp_if_neg R.stood ?_
      try refine wpAny_bind (wpAny_pure ?_)
      have goal : ∀ met, SetTable.probe.go t (fun i => (es[i]?.map (·.1)).getD 0) h (10 * SetTable.turns t.mask) (nth t.mask (first t.mask h) b) = some met → t.probe (fun i => (es[i]?.map (·.1)).getD 0) h (z.getD (t.probeStart h)) = some met := fun met e => by rw [hz]; exact e
      rcases told with ⟨q, i, q1, q2, q3, q4, q5⟩ | ⟨q4, q5⟩
      · rw [goal _ q5, sh, sh]
        dsimp only
        rw [wj] at q2
        have il : i < L.length := by
          rw [← R.places]
          exact (List.getElem?_eq_some_iff.mp q2).1
        obtain ⟨p, hp⟩ : ∃ p, L[i]? = some p := ⟨_, List.getElem?_eq_getElem il⟩
        have pm := List.mem_of_getElem? hp
        have body : wpAny (model P w) A (searchRest a (.ref x) h true g es t (way t.mask h (b + q)) i (nth t.mask (first t.mask h) (b + (q + 1)))) Q E s := by
          unfold searchRest
          rw [row_at R.rows hp]
          dsimp only
          refine wpAny_bind (wpAny_holding ((nestedKind P w).eqBool hu (R.keys p pm) hx (wpAny_bind (wpAny_setState_of oa od R.fits ?_))))
          dsimp only
          by_cases c : p.2 = k
          · exact wp_if_pos (by simp [c]) (wpAny_pure (yes (List.mem_map.mpr ⟨p, pm, c⟩)))
          · refine wp_if_neg (by simp [c]) ?_
            try refine wpAny_bind (wpAny_pure ?_)
            rw [sameMem]
            dsimp only
            have live := slot_live R.tab.ris q2
            simp only [live, if_true, row_at R.rows hp]
            refine wpAny_bind (wpAny_isSame_ref_self (wpAny_bind (wpAny_pure ?_)))
            simp only [if_true]
            refine wp_if_neg (by simp [c]) (ih (b + (q + 1)) _ rfl (by omega) (by omega) fun i0 p0 h0 k0 => ?_)
            obtain ⟨d, d1, d2, d3⟩ := ahead i0 p0 h0 k0
            have late : ¬ d < b + q := fun lt => q4 (d - b) i0 (by omega) (by rw [wj, Nat.add_sub_cancel' d1]; exact d3) (by
              show (es[i0]?.map (·.1)).getD 0 = h
              rw [hat i0 p0 h0, k0, hh])
            have other : d ≠ b + q := fun e => by
              rw [e] at d3
              have l2 := slot_live R.tab.ris d3
              rw [live] at l2
              cases l2
              rw [hp] at h0
              cases h0
              exact c k0
            exact ⟨d, by omega, d2, d3⟩
        by_cases led : t.led = true
        · refine wp_if_neg (by simp [led]) ?_
          try refine wpAny_bind (wpAny_pure ?_)
          exact body
        · refine wp_if_pos (by simp [led]) (wpAny_bind (unseen hx (fun y hy => ?_) (wp_if_neg (by decide) ?_)))
          · obtain ⟨e, he, rfl⟩ := List.mem_map.mp hy
            have he : e ∈ es := (by simpa using he : e ∈ es ∧ e.1 = h).1
            have he : e ∈ rowsN w L := by rw [← R.rows]; simpa using he
            obtain ⟨p2, m2, rfl⟩ := List.mem_map.mp he
            exact ⟨p2.2, p2.1, rfl, R.keys p2 m2⟩
          · try refine wpAny_bind (wpAny_pure ?_)
            exact body
      · rw [wj, Nat.add_sub_cancel' hb] at q5
        rw [goal _ q5]
        dsimp only
        refine wpAny_pure (no fun hm => ?_)
        obtain ⟨p0, m0, k0⟩ := List.mem_map.mp hm
        obtain ⟨i0, h0⟩ := List.getElem?_of_mem m0
        obtain ⟨d, d1, d2, d3⟩ := ahead i0 p0 h0 k0
        refine q4 (d - b) i0 (by omega) (by rw [wj, Nat.add_sub_cancel' d1]; exact d3) ?_
        show (es[i0]?.map (·.1)).getD 0 = h
        rw [hat i0 p0 h0, k0, hh]))
theorem search_n (R : SetN P w s.heap a L es ep t) {x : Addr} {k : NestedKey} (hx : KeyAt P w s.heap k x) (hu : A.units + 8 < cLine) {Q : SetFound → Shared → Prop} (yes : k ∈ L.map (·.2) → Q (.there none) s)
    (no : ∀ K, k ∉ L.map (·.2) → Open t (k.hash w) K → Q (.free (way t.mask (k.hash w) K) false) s) : wpAny (model P w) A (setSearch a (.ref x) (k.hash w) true) Q E s := by
  have room := R.room
  have top := R.tab.rnd.top
  obtain ⟨K, k1, op⟩ := R.tab.open (by show (hashesN w L).length ≤ _; unfold hashesN; rw [List.length_map]; omega) (k.hash w)
  have k2 : K < 100000 := by
    unfold SetTable.turns at k1
    omega
  refine seek R hx hu rfl k1 op yes (fun z => no K z op) 100000 0 none rfl (Nat.zero_le _) (by omega) fun i p hp e => ?_
  have il : i < t.place.toList.length := by
    rw [R.places]
    exact (List.getElem?_eq_some_iff.mp hp).1
  obtain ⟨c, c1, c2⟩ := R.tab.met op (i := i) (j := t.place.toList[i]) (by
    show (L.map _)[i]? = _
    rw [List.getElem?_map, hp, ← e]
    rfl) (List.getElem?_eq_getElem il)
  exact ⟨c, Nat.zero_le _, c1, by rw [c2]; exact List.getElem?_eq_getElem il⟩
end
end

/-! MiniH2 -/
/-! MiniH2: sets of nested tuples: laid anew, adding, set(a list). -/
section
open PySem PySem.Spec PyProof.Rows L2
section
variable {P : Program} {w : World} {A : Around} {E : Value → Shared → Prop} {s : Shared} {a : Addr} {L : List (Addr × NestedKey)} {es : Array (Int × Value)} {ep : Nat} {t : SetTable}
theorem key_keep {h h' : Heap} {k : NestedKey} {b : Addr} (x : KeyAt P w h k b) (hk : ∀ c o, h.get? c = some o → h'.get? c = some o) : KeyAt P w h' k b := nestedKind_stays.stays (fun c o _ _ e _ => hk c o e) x
theorem key_same {h h' : Heap} {k : NestedKey} {b : Addr} {o : Obj} (x : KeyAt P w h k b) (oa : h.get? a = some o) (od : o.data = .set es ep t) (same : Heap.SameBut a h h') : KeyAt P w h' k b :=
  nestedKind_stays.stays (fun c u vs n e d => (same.2 c (by
    rintro rfl
    rw [oa] at e
    cases e
    rw [od] at d
    cases d)).trans e) x
theorem rows_ins (L : List (Addr × NestedKey)) (p : Nat) (x : Addr × NestedKey) : rowsN w (L.take p ++ x :: L.drop p) = (rowsN w L).take p ++ (x.2.hash w, Value.ref x.1) :: (rowsN w L).drop p := by
  simp [rowsN, List.map_take, List.map_drop]
theorem hashes_ins (L : List (Addr × NestedKey)) (p : Nat) (x : Addr × NestedKey) : hashesN w (L.take p ++ x :: L.drop p) = (hashesN w L).take p ++ x.2.hash w :: (hashesN w L).drop p := by
  simp [hashesN, List.map_take, List.map_drop]
theorem all_found {α : Type} (L : List α) : (List.range L.length).filterMap (fun i => L[i]?) = L := by
  induction L with
  | nil => rfl
  | cons x L ih =>
    rw [List.length_cons, List.range_succ_eq_map, List.filterMap_cons, List.filterMap_map]
    exact congrArg (x :: ·) ih
theorem in_order {order : Array Nat} (hr : es.toList = rowsN w L) (hp : order.toList.Perm (List.range L.length)) :
    ∃ L2, (order.filterMap (es[·]?)).toList = rowsN w L2 ∧ L2.Perm L ∧ hashesN w L2 = order.toList.map fun i => (es.map (·.1)).getD i 0 := by
  have one : ∀ l : List Nat, (∀ i ∈ l, i < L.length) → l.filterMap (fun i => es[i]?) = rowsN w (l.filterMap fun i => L[i]?) ∧ hashesN w (l.filterMap fun i => L[i]?) = l.map fun i => (es.map (·.1)).getD i 0 := by
    intro l
    induction l with
    | nil => exact fun _ => ⟨rfl, rfl⟩
    | cons i l ih =>
      intro hl
      obtain ⟨e1, e2⟩ := ih fun j hj => hl j (List.mem_cons_of_mem _ hj)
      have hi : L[i]? = some (L[i]'(hl i List.mem_cons_self)) := List.getElem?_eq_getElem _
      have ei := row_at hr hi
      rw [List.filterMap_cons_some ei, List.filterMap_cons_some hi, e1]
      refine ⟨rfl, ?_⟩
      rw [List.map_cons, ← e2]
      refine congrArg (· :: _) ?_
      rw [Array.getD_eq_getD_getElem?, Array.getElem?_map, ei]
      rfl
  obtain ⟨e1, e2⟩ := one order.toList fun i hi => List.mem_range.mp (hp.mem_iff.mp hi)
  refine ⟨_, by simpa using e1, ?_, e2⟩
  have := hp.filterMap fun i => L[i]?
  rwa [all_found] at this
theorem relay_n {o : Obj} (oa : s.heap.get? a = some o) (oe : o.ExactSet) (od : o.data = .set es ep t) (hr : es.toList = rowsN w L) (T : TabN t (hashesN w L)) (hl : L.length ≤ t.mask) (nd : (L.map (·.2)).Nodup) (keys : ∀ p ∈ L, KeyAt P w s.heap p.2 p.1)
    (led : w.params.followText "set-order" = true ∨ t.led = true) {wanted M : Nat} (hw : SetTable.sizeAbove wanted = M + 1) (hM : Rnd M) (h4 : FourMasks M) (room : L.length * 5 < M * 3) {Q : Unit → Shared → Prop}
    (hQ : ∀ h' L' es' ep' t', Heap.SameBut a s.heap h' → SetN P w h' a L' es' ep' t' → L'.Perm L → Q () { s with heap := h' }) : wpAny (model P w) A (setRelay a wanted) Q E s := by
  have top := hM.top
  have sz := rows_size hr
  obtain ⟨t', order, e, hp, T', em, el⟩ := anew_ok t (hs := es.map (·.1)) hw hM (by rw [Array.size_map, sz]; omega)
  rw [Array.size_map, sz] at hp
  obtain ⟨L2, r1, r2, r3⟩ := in_order hr hp
  rw [← r3] at T'
  have s2 : (order.filterMap (es[·]?)).size = es.size := by rw [rows_size r1, r2.length_eq, sz]
  have fit : t.fits es.size = true := fits_of T.dm (by rw [T.sz, sz]; exact List.length_map ..) (by rw [sz]; exact hl)
  rw [setRelay_eq]
  refine wpAny_bind (wpAny_setState_of oa od fit (by
    dsimp only
    refine wp_if_neg (by rw [hw, sizeLine_eq]; omega) ?_
    try refine wpAny_bind (wpAny_pure ?_)
    rw [e]
    dsimp only
    refine wpAny_bind (wp_if_neg (by rw [s2]; simp) ?_)
    try refine wpAny_bind (wpAny_pure ?_)
    refine wpAny_pure ?_
    dsimp only
    have same : Heap.SameBut a s.heap (s.heap.update a (Obj.putSet (order.filterMap (es[·]?)) t')) := Heap.SameBut.update ..
    refine wpAny_storeSet_of oa od (hQ _ L2 _ (ep + 1) t' same ⟨⟨_, store_at oa od, ⟨oe.1, oe.2.1, oe.2.2⟩, rfl⟩, r1, T', by rw [em]; exact h4, (r2.map _).nodup_iff.mpr nd, fun p hp => key_same (keys p (r2.mem_iff.mp hp)) oa od same, by rw [el]; exact led, by rw [r2.length_eq, em]; exact room⟩ r2) ?_
    rw [s2, sz, sizeLine_eq]
    omega))
theorem grows {n m : Nat} (h : FourMasks m) (h1 : n * 5 < m * 3) (h2 : (n + 1) * 5 ≥ m * 3) (h3 : n + 1 ≤ 306) : ∃ M, SetTable.sizeAbove (SetTable.grown (n + 1)) = M + 1 ∧ Rnd M ∧ FourMasks M ∧ (n + 1) * 5 < M * 3 := by
  rcases h with rfl | rfl | rfl | rfl
  · obtain rfl : n = 4 := by omega
    exact ⟨31, above_5, rnd_31, .inr (.inl rfl), by omega⟩
  · obtain rfl : n = 18 := by omega
    exact ⟨127, above_19, rnd_127, .inr (.inr (.inl rfl)), by omega⟩
  · obtain rfl : n = 76 := by omega
    exact ⟨511, above_77, rnd_511, .inr (.inr (.inr rfl)), by omega⟩
  · omega
theorem add_n (R : SetN P w s.heap a L es ep t) {x : Addr} {k : NestedKey} (hx : KeyAt P w s.heap k x) (hu : A.units + 8 < cLine) (few : k ∉ L.map (·.2) → L.length + 1 ≤ 306) {Q : Bool → Shared → Prop}
    (hQ : ∀ b h' L' es' ep' t', Heap.SameBut a s.heap h' → SetN P w h' a L' es' ep' t' → (k ∈ L.map (·.2) → L' = L) → (k ∉ L.map (·.2) → L'.Perm ((x, k) :: L)) → Q b { s with heap := h' }) :
    wpAny (model P w) A (setAddHashed a (.ref x) (k.hash w)) Q E s := by
  obtain ⟨o, oa, oe, od⟩ := R.ob
  have sz := R.size
  unfold setAddHashed
  refine wpAny_holding ?_
  rw [show 100000 = Nat.succ 99999 from rfl, setAddHashedIn_succ]
  refine wpAny_bind (wpAny_setState_of oa od R.fits (by
    dsimp only
    refine wp_if_neg (by simp [byScan, Value.scannable]) ?_
    try refine wpAny_bind (wpAny_pure ?_)
    refine wpAny_bind (search_n R hx hu (fun hm => ?_) fun K hm op => ?_)
    · exact wpAny_pure (hQ false s.heap L es ep t (Heap.SameBut.refl a s.heap) R (fun _ => rfl) fun z => absurd hm z)
    obtain ⟨t1, p, ePut, q2, T1, em, el, ef⟩ := R.tab.put op
    dsimp only
    refine wpAny_bind (wpAny_setState_of oa od R.fits ?_)
    dsimp only
    rw [ePut]
    dsimp only
    have pm := put_perm L p (x, k)
    have ln : (L.take p ++ (x, k) :: L.drop p).length = L.length + 1 := pm.length_eq
    rw [← hashes_ins L p (x, k)] at T1
    have r1 : (SetTable.insertAt es p (k.hash w, Value.ref x)).toList = rowsN w (L.take p ++ (x, k) :: L.drop p) := by rw [SetTable.toList_insertAt, R.rows, rows_ins]
    have nd1 : ((L.take p ++ (x, k) :: L.drop p).map (·.2)).Nodup := (pm.map _).nodup_iff.mpr (List.nodup_cons.mpr ⟨hm, R.nd⟩)
    have sz1 := rows_size r1
    rw [ln] at sz1
    have le306 := few hm
    have eLen : (hashesN w L).length = L.length := List.length_map ..
    rw [eLen] at ef
    have room := R.room
    generalize L.take p ++ (x, k) :: L.drop p = L1 at pm ln T1 r1 nd1
    generalize SetTable.insertAt es p (k.hash w, Value.ref x) = es1 at r1 sz1
    -- the table, plain or not
    have fin : ∀ t2 : SetTable, TabN t2 (hashesN w L1) → t2.mask = t.mask → t2.led = t.led → t2.fill = L.length + 1 → wpAny (model P w) A (do
        storeSet a es1 t2
        if !false && t2.tooFull then setRelay a (SetTable.grown (es.size + 1))
        return true) Q E s := fun t2 T2 em el ef => by
      refine wpAny_bind (wpAny_storeSet_of oa od ?_ (by rw [sz1, sizeLine_eq]; omega))
      have same : Heap.SameBut a s.heap (s.heap.update a (Obj.putSet es1 t2)) := Heap.SameBut.update ..
      have o1 := store_at (es' := es1) (t' := t2) oa od
      have k1 : ∀ q ∈ L1, KeyAt P w (s.heap.update a (Obj.putSet es1 t2)) q.2 q.1 := fun q hq => key_same ((List.mem_cons.mp (pm.mem_iff.mp hq)).elim (fun e => e ▸ hx) (R.keys q)) oa od same
      have led1 : w.params.followText "set-order" = true ∨ t2.led = true := by rw [el]; exact R.led
      generalize s.heap.update a (Obj.putSet es1 t2) = h1 at same o1 k1
      have toFull : t2.tooFull = decide ((L.length + 1) * 5 ≥ t.mask * 3) := by
        unfold SetTable.tooFull
        rw [ef, em]
      by_cases full : (L.length + 1) * 5 ≥ t.mask * 3
      · obtain ⟨M, m1, m2, m3, m4⟩ := grows R.pow room full le306
        rw [sz]
        have go : wpAny (model P w) A (setRelay a (SetTable.grown (L.length + 1))) (fun _ s' => wpAny (model P w) A (pure true) Q E s') E { s with heap := h1 } :=
          relay_n (s := { s with heap := h1 }) o1 ⟨oe.1, oe.2.1, oe.2.2⟩ rfl r1 T2 (by rw [ln, em]; rcases R.pow with e | e | e | e <;> omega) nd1 k1 led1 m1 m2 m3 (by rw [ln]; exact m4) fun h2 L2 es2 ep2 t3 same2 R2 pm2 =>
            wpAny_pure (hQ true h2 L2 es2 ep2 t3 (same.trans same2) R2 (fun z => absurd z hm) fun _ => pm2.trans pm)
        first
          | (refine wpAny_bind ?_; exact wp_if_pos (by rw [toFull]; simpa using full) go)
          | exact wp_if_pos (by rw [toFull]; simpa using full) (wpAny_bind go)
      · have last : wpAny (model P w) A (pure true) Q E { s with heap := h1 } := wpAny_pure (hQ true h1 L1 es1 (ep + 1) t2 same ⟨⟨_, o1, ⟨oe.1, oe.2.1, oe.2.2⟩, rfl⟩, r1, T2, by rw [em]; exact R.pow, nd1, k1, led1, by rw [ln, em]; omega⟩ (fun z => absurd z hm) fun _ => pm)
        first
          | (refine wpAny_bind ?_; exact wp_if_neg (by rw [toFull]; simpa using full) (wpAny_pure last))
          | exact wp_if_neg (by rw [toFull]; simpa using full) last
    have both : ∀ b : Bool, wpAny (model P w) A (do
        storeSet a es1 (if b then t1 else { t1 with plain := false })
        if !false && (if b then t1 else { t1 with plain := false } : SetTable).tooFull then setRelay a (SetTable.grown (es.size + 1))
        return true) Q E s := fun b => by
      cases b with
      | true => exact fin t1 T1 em el ef
      | false => exact fin { t1 with plain := false } ⟨T1.ris, T1.dm, T1.sz, T1.rnd, T1.bd, T1.get⟩ em el ef
    by_cases pl : t1.plain = true
    · first
        | (refine wpAny_bind ?_; exact wp_if_pos pl (tells_key k _ 8 s hx.1 A _ _ both))
        | exact wp_if_pos pl (wpAny_bind (tells_key k _ 8 s hx.1 A _ _ both))
    · first
        | (refine wpAny_bind ?_; exact wp_if_neg pl (wpAny_pure (both true)))
        | exact wp_if_neg pl (both true)))
end
end

/-! MiniH3 -/
/-! MiniH3: set(a list of nested tuples). -/
section
open PySem PySem.Spec PyProof.Rows L2
/-- what the set has of the first j -/
structure GotN (xs : List (Addr × NestedKey)) (j : Nat) (L : List (Addr × NestedKey)) : Prop where
  sub : ∀ p ∈ L, p ∈ xs.take j
  all : ∀ p ∈ xs.take j, p.2 ∈ L.map (·.2)
theorem GotN.none (xs : List (Addr × NestedKey)) : GotN xs 0 [] := ⟨fun _ h => (nomatch h), fun _ h => by simp at h⟩
theorem GotN.next {xs L L' : List (Addr × NestedKey)} {j : Nat} {x : Addr × NestedKey} (g : GotN xs j L) (h : xs[j]? = some x) (h1 : x.2 ∈ L.map (·.2) → L' = L) (h2 : x.2 ∉ L.map (·.2) → L'.Perm (x :: L)) : GotN xs (j + 1) L' := by
  have e := take_next h
  by_cases c : x.2 ∈ L.map (·.2)
  · rw [h1 c]
    refine ⟨fun p hp => by rw [e]; exact List.mem_append_left _ (g.sub p hp), fun p hp => ?_⟩
    rw [e] at hp
    exact (List.mem_append.mp hp).elim (g.all p) fun z => by rw [List.mem_singleton.mp z]; exact c
  · have pm := h2 c
    refine ⟨fun p hp => ?_, fun p hp => ?_⟩
    · rw [e]
      exact (List.mem_cons.mp (pm.mem_iff.mp hp)).elim (fun z => z ▸ List.mem_append_right _ (List.mem_singleton.mpr rfl)) fun z => List.mem_append_left _ (g.sub p z)
    · rw [(pm.map _).mem_iff, List.map_cons]
      rw [e] at hp
      exact (List.mem_append.mp hp).elim (fun z => List.mem_cons_of_mem _ (g.all p z)) fun z => by rw [List.mem_singleton.mp z]; exact List.mem_cons_self
/-- whatever is made of the list without a key told twice is short -/
abbrev FewN (xs : List (Addr × NestedKey)) : Prop := ∀ L : List (Addr × NestedKey), (L.map (·.2)).Nodup → (∀ q ∈ L, q ∈ xs) → L.length ≤ 306
section
variable {P : Program} {w : World} {A : Around} {E : Value → Shared → Prop} {s : Shared} {l d : Addr} {items : Array Value} {xs : List (Addr × NestedKey)}
def blankS (w : World) : Obj := { cls := .type "set", dict := none, data := .set #[] 0 (.fresh 0 0 (!w.params.followText "set-order")) }
theorem SetN.moved {h h' : Heap} {a : Addr} {L : List (Addr × NestedKey)} {es : Array (Int × Value)} {ep : Nat} {t : SetTable} (R : SetN P w h a L es ep t) (ha : ∀ o, h.get? a = some o → h'.get? a = some o) (hk : ∀ p ∈ L, KeyAt P w h' p.2 p.1) : SetN P w h' a L es ep t :=
  ⟨let ⟨o, oa, r⟩ := R.ob; ⟨o, ha o oa, r⟩, R.rows, R.tab, R.pow, R.nd, hk, R.led, R.room⟩
theorem blank_is {h : Heap} {a : Addr} (oa : h.get? a = some (blankS w)) : SetN P w h a [] #[] 0 (.fresh 0 0 (!w.params.followText "set-order")) := by
  refine ⟨⟨_, oa, ⟨rfl, rfl, rfl⟩, rfl⟩, rfl, ⟨List.Pairwise.nil, rfl, rfl, rnd_7, fun _ z => (nomatch z), fun i h j z => by simp [hashesN] at z⟩, .inl rfl, List.nodup_nil, fun _ z => (nomatch z), ?_, by show 0 * 5 < 7 * 3; omega⟩
  show _ ∨ (!w.params.followText "set-order") = true
  cases w.params.followText "set-order" <;> simp
theorem feed_n {it : Addr} {own wrt : List Addr} {GG : Array GenState → Array GenState → Prop} {len : Nat} {Told : Nat → Value → Prop} {Here : Nat → Shared → Prop} {Out : Result → Shared → Prop}
    (walk : WalksS P w A.in1 it own wrt GG len Told Here) (apart : d ∉ own) (small : FewN xs)
    (says : ∀ j u, Told j u → ∃ q, xs[j]? = some q ∧ u = .ref q.1) (old : Heap) (keys : ∀ q ∈ xs, KeyAt P w old q.2 q.1) (free : old.get? d = none) (freeW : ∀ b ∈ wrt, old.get? b = none) (room : A.in1.units + 8 < cLine) :
    ∀ (left j : Nat) (t : Shared), len - j = left → j ≤ len → Here j t → (∀ b o, old.get? b = some o → t.heap.get? b = some o) → (∃ L es ep tb, SetN P w t.heap d L es ep tb ∧ GotN xs j L) →
      (∀ t' L es ep tb, Moved (d :: wrt) GG t t' → SetN P w t'.heap d L es ep tb → GotN xs len L → (∀ b o, old.get? b = some o → t'.heap.get? b = some o) → Out (.ok (.ret .none)) t') →
      codeAny (model P w) A (.builtin "set.update.loop" ⟨[.ref d, .ref it], []⟩) Out t := by
  have dw : d ∉ wrt := fun z => apart (walk.sub _ z)
  have sub : ∀ b ∈ wrt, b ∈ d :: wrt := fun b z => List.mem_cons_of_mem _ z
  have still : ∀ {t t' : Shared}, Moved wrt GG t t' → (∀ b o, old.get? b = some o → t.heap.get? b = some o) → ∀ b o, old.get? b = some o → t'.heap.get? b = some o := fun mv k b o e =>
    mv.heap b o (fun z => by rw [freeW b z] at e; cases e) (k b o e)
  intro left
  induction left with
  | zero =>
    rintro j t e le here kept ⟨L, es, ep, tb, R, got⟩ fin
    obtain rfl : j = len := by omega
    refine codeAny_builtin F.entry_set_update_loop (by
      rw [Around.under_plainId F.plain_set_update_loop _]
      show wpAny (model P w) A.in1 (pyNext (.ref it) >>= _) _ _ t
      refine wpAny_bind (walk.done t _ _ here fun t' mv => ?_)
      show wpAny (model P w) A.in1 (ret Value.none) _ _ t'
      have kept' := still mv kept
      exact wpAny_pure (fin t' L es ep tb (mv.mono sub) (R.moved (fun o z => mv.heap d o dw z) fun q z => key_keep (keys q (List.mem_of_mem_take (got.sub q z))) kept') got kept'))
  | succ left ih =>
    rintro j t e le here kept ⟨L, es, ep, tb, R, got⟩ fin
    have lt : j < len := by omega
    have inside : ∀ q ∈ L, q ∈ xs := fun q z => List.mem_of_mem_take (got.sub q z)
    refine codeAny_builtin F.entry_set_update_loop (by
      rw [Around.under_plainId F.plain_set_update_loop _]
      show wpAny (model P w) A.in1 (pyNext (.ref it) >>= _) _ _ t
      refine wpAny_bind (walk.item j t _ _ lt here fun u t' told here' mv => ?_)
      obtain ⟨q, hq, rfl⟩ := says j u told
      have kept' := still mv kept
      have R' : SetN P w t'.heap d L es ep tb := R.moved (fun o z => mv.heap d o dw z) fun q z => key_keep (keys q (inside q z)) kept'
      have kq : KeyAt P w t'.heap q.2 q.1 := key_keep (keys q (List.mem_of_getElem? hq)) kept'
      show wpAny (model P w) A.in1 (holding [Value.ref q.1] (setAdd d (.ref q.1)) >>= _) _ _ t'
      refine wpAny_bind (wpAny_holding (by
        unfold setAdd
        refine wpAny_holding (wpAny_bind ((nestedKind P w).pyHash room kq (add_n (s := { t' with toks := t'.toks + _ }) R' kq room (fun c => ?_) fun k h' L' es' ep' tb' same R2 c1 c2 => wpAny_pure ⟨plainId_quiet F.plain_set_update_loop _, ?_⟩)))
        · exact small (q :: L) (List.nodup_cons.mpr ⟨c, R.nd⟩) fun r hr => (List.mem_cons.mp hr).elim (fun e => e ▸ List.mem_of_getElem? hq) (inside r)
        · have kept2 : ∀ b o, old.get? b = some o → h'.get? b = some o := fun b o e => (same.2 b (fun z => by rw [z, free] at e; cases e)).trans (kept' b o e)
          refine ih (j + 1) _ (by omega) lt (walk.frame _ t' _ _ here' (Nat.le_add_right _ _) fun b hb o e => (same.2 b fun z => apart (z ▸ hb)).trans e) kept2 ⟨L', es', ep', tb', R2, got.next hq c1 c2⟩ fun t2 L2 es2 ep2 tb2 mv2 R3 got2 kept3 => ?_
          exact fin t2 L2 es2 ep2 tb2 (Moved.trans walk.gtrans ((mv.mono sub).then_heap (Nat.le_add_right _ _) fun b o hb e => (same.2 b fun z => hb (z ▸ List.mem_cons_self)).trans e) mv2) R3 got2 kept3)))
theorem init_n (hA : A.handled = none) (hS : s.heap.get? d = some (blankS w)) (hne : l ≠ d) (hl : s.heap.IsList l items) (hi : items.toList = xs.map fun p => Value.ref p.1) (old : Heap) (stays : ∀ b o, old.get? b = some o → s.heap.get? b = some o) (free : old.get? d = none) (fresh : old.get? s.heap.objs.size = none) (keys : ∀ q ∈ xs, KeyAt P w old q.2 q.1) (small : FewN xs) (room : A.units + 12 < cLine) {R : Value → Shared → Prop}
    (h : ∀ h' tk L es ep tb, SetN P w h' d L es ep tb → GotN xs xs.length L → (∀ b o, old.get? b = some o → h'.get? b = some o) → R .none { s with heap := h', toks := tk }) :
    wpAny (model P w) A (Builtin.«set.__init__» ⟨[.ref d, .ref l], []⟩) (fun f s' => ∃ v, f = .done (.ret v) ∧ R v s') E s := by
  have hT : s.TypeIs (.ref d) "set" := ⟨_, hS, rfl⟩
  obtain ⟨o, ho, hc, n, hd⟩ := id hl
  obtain ⟨cl, di, da, sl⟩ := o
  dsimp only at hc hd
  subst hc hd
  have q1 := F.sub_list_set
  have q2 := F.sub_list_frozenset
  have q3 : (Value.type "list" == Value.type "dict") = false := rfl
  unfold blankS at hS
  unfold Builtin.«set.__init__» noKeywords Builtin.Frozenset.updateFrom
  generalize hp : pyIter = PI
  wp_walk
  subst hp
  refine wpAny_pyIter_list hl (wpAny_bind (wpAny_runValue (by
    have hsz : items.size = xs.length := by simpa using congrArg List.length hi
    have lt1 : l < s.heap.objs.size := Heap.lt_size ho
    have lt2 : d < s.heap.objs.size := Heap.lt_size hS
    have hval : ∀ (i : Nat) (v : Value), items[i]? = some v → ∃ q, xs[i]? = some q ∧ v = .ref q.1 := fun i v hv => by
      rw [← Array.getElem?_toList, hi, List.getElem?_map, Option.map_eq_some_iff] at hv
      obtain ⟨q, z1, z2⟩ := hv
      exact ⟨q, z1, z2.symm⟩
    have nd : d ∉ [s.heap.objs.size, l] := fun z => (List.mem_cons.mp z).elim (Nat.ne_of_lt lt2) fun z => hne (List.mem_singleton.mp z).symm
    refine feed_n (P := P) ((Walks.list (by simp [hA]) s.heap.objs.size l (Nat.ne_of_lt lt1) items).toS) nd small hval old keys free (fun b hb => by rw [List.mem_singleton.mp hb]; exact fresh) (by show A.units + 1 + 8 < cLine; omega) items.size 0 _ rfl (Nat.zero_le _)
      ⟨⟨_, Heap.get?_push_size _ rfl, rfl, rfl⟩, hl.push _⟩ (fun b o e => Heap.get?_push_of_some _ (stays b o e)) ⟨[], #[], 0, _, blank_is (Heap.get?_push_of_some _ hS), GotN.none xs⟩ fun s' L es ep tb hm hS' got kept => ?_
    obtain ⟨h', g2, d', tk', os'⟩ := s'
    obtain rfl : g2 = s.gens := hm.gens
    obtain rfl : d' = s.drawn := hm.drawn
    obtain rfl : os' = s.os := hm.os
    show wpAny _ _ _ _ _ _
    refine wpAny_pure (wpAny_pure ?_)
    rw [hsz] at got
    exact ⟨_, rfl, h h' tk' L es ep tb hS' got kept⟩)))
theorem call_setN (hA : A.handled = none) (hl : s.heap.IsList l items) (hi : items.toList = xs.map fun p => Value.ref p.1) (keys : ∀ q ∈ xs, KeyAt P w s.heap q.2 q.1) (small : FewN xs) (room : A.units + 16 < cLine) {Q : Value → Shared → Prop}
    (h : ∀ h' tk L es ep tb, SetN P w h' s.heap.objs.size L es ep tb → GotN xs xs.length L → (∀ b o, s.heap.get? b = some o → h'.get? b = some o) → Q (.ref s.heap.objs.size) { s with heap := h', toks := tk }) :
    wpAny (model P w) A (call (.type "set") [.ref l]) Q E s := by
  have lt1 : l < s.heap.objs.size := let ⟨_, e, _⟩ := hl; Heap.lt_size e
  have beyond : ∀ b, s.heap.objs.size ≤ b → s.heap.get? b = none := fun b hb => Option.eq_none_iff_forall_ne_some.mpr fun o q => Nat.not_lt_of_le hb (Heap.lt_size q)
  obtain ⟨cc, tl, m1⟩ := F.called_set.mro
  have m2 := F.called_set.made
  have m3 := F.called_set.sub
  have m4 := F.called_set.notType
  have m5 := F.called_set.canCreate
  have m6 := F.typeCall_set_1 (.ref l)
  refine wpAny_call (codeAny_of_tree (wpAny_pure ⟨Code.quiet_builtin _ (by decide +kernel), codeAny_builtin F.entry_type_call (by
    rw [Around.under_plain (weight_type_call_type "set" [.ref l] []) rfl]
    repeat (any_goals (first | assumption | wp_step))
    refine codeAny_mono (code_set_led1 (.ref l) (E := E) (Q₁ := fun v t => v = .ref s.heap.objs.size ∧ t = { s with heap := s.heap.push (blankS w) }) ⟨rfl, rfl⟩) fun r t hr => ?_
    cases r with
    | error e => exact hr
    | ok fl =>
      cases fl with
      | ret v =>
        obtain ⟨rfl, rfl⟩ := hr
        have at0 : (s.heap.push (blankS w)).get? s.heap.objs.size = some (blankS w) := Heap.get?_push_size _ rfl
        have ty0 : Shared.TypeIs { s with heap := s.heap.push (blankS w) } (.ref s.heap.objs.size) "set" := ⟨_, at0, rfl⟩
        have m7 := F.called_set.init.lookup
        have m8 := F.called_set.init.bind (.ref s.heap.objs.size)
        repeat (any_goals (first | assumption | wp_step))
        refine codeAny_mono (codeAny_call_builtin (R := wants (fun v t => v = .none ∧ Q (.ref s.heap.objs.size) t) E) F.called_set.init.plain F.entry_set_init (check_set_init_1 ty0 ?_)) fun r2 t2 h2 => ?_
        · refine wpAny_mono (init_n (R := fun v t => v = .none ∧ Q (.ref s.heap.objs.size) t) (by simp [hA]) at0 (Nat.ne_of_lt lt1) (hl.push _) hi s.heap (fun b o e => Heap.get?_push_of_some _ e) (beyond _ (Nat.le_refl _)) (beyond _ (by rw [Heap.size_push]; omega)) keys small (by show A.units + 1 + 1 + 12 < cLine; omega) fun h' tk L es ep tb a1 a2 a3 => ⟨rfl, h h' tk L es ep tb a1 a2 a3⟩) (fun f t ⟨v, z1, hv⟩ => by subst z1; exact hv) fun _ _ z => z
        · cases r2 with
          | error e => exact h2
          | ok fl =>
            cases fl with
            | ret v =>
              obtain ⟨rfl, q⟩ := h2
              repeat (any_goals (first | assumption | wp_step))
            | _ => exact h2.elim
      | _ => exact hr.elim)⟩))
end
end

/-! MiniH4 -/
/-! MiniH4: sorted(set(a list of nested tuples)). -/
section
open PySem PySem.Spec PyProof.Rows L2
/-! the order tells keys apart -/
mutual
theorem eqv_one : ∀ (x y : PV) (d e : Nat), keyD d x = true → keyD e y = true → PyData.eqv (pvD x) (pvD y) = true → x = y
  | .non, y, d, e, _, hy, h => by
    cases y with
    | non => rfl
    | int _ => simp [pvD, PyData.eqv] at h
    | str _ => simp [pvD, PyData.eqv] at h
    | tup _ => simp [pvD, PyData.eqv] at h
    | _ => cases e <;> (unfold keyD at hy; cases hy)
  | .int i, y, d, e, _, hy, h => by
    cases y with
    | int j => simpa [pvD, PyData.eqv] using h
    | non => simp [pvD, PyData.eqv] at h
    | str _ => simp [pvD, PyData.eqv] at h
    | tup _ => simp [pvD, PyData.eqv] at h
    | _ => cases e <;> (unfold keyD at hy; cases hy)
  | .str i, y, d, e, _, hy, h => by
    cases y with
    | str j => simpa [pvD, PyData.eqv] using h
    | non => simp [pvD, PyData.eqv] at h
    | int _ => simp [pvD, PyData.eqv] at h
    | tup _ => simp [pvD, PyData.eqv] at h
    | _ => cases e <;> (unfold keyD at hy; cases hy)
  | .tup xs, y, d, e, hx, hy, h => by
    cases y with
    | tup ys =>
      cases d with
      | zero => unfold keyD at hx; cases hx
      | succ d =>
        cases e with
        | zero => unfold keyD at hy; cases hy
        | succ e =>
          unfold keyD at hx hy
          have h : PyData.eqvAll (pvDs xs) (pvDs ys) = true := by simpa [pvD, PyData.eqv] using h
          rw [eqv_all xs ys d e hx hy h]
    | non => simp [pvD, PyData.eqv] at h
    | int _ => simp [pvD, PyData.eqv] at h
    | str _ => simp [pvD, PyData.eqv] at h
    | _ => cases e <;> (unfold keyD at hy; cases hy)
  | .bl _, _, d, _, h, _, _ => by cases d <;> (unfold keyD at h; cases h)
  | .ls _, _, d, _, h, _, _ => by cases d <;> (unfold keyD at h; cases h)
  | .fz _, _, d, _, h, _, _ => by cases d <;> (unfold keyD at h; cases h)
  | .dc _ _, _, d, _, h, _, _ => by cases d <;> (unfold keyD at h; cases h)
  | .loc _, _, d, _, h, _, _ => by cases d <;> (unfold keyD at h; cases h)
theorem eqv_all : ∀ (xs ys : List PV) (d e : Nat), xs.all (keyD d) = true → ys.all (keyD e) = true → PyData.eqvAll (pvDs xs) (pvDs ys) = true → xs = ys
  | [], [], _, _, _, _, _ => rfl
  | [], _ :: _, _, _, _, _, h => by simp [pvDs, PyData.eqvAll] at h
  | _ :: _, [], _, _, _, _, h => by simp [pvDs, PyData.eqvAll] at h
  | x :: xs, y :: ys, d, e, hx, hy, h => by
    simp only [List.all_cons, Bool.and_eq_true] at hx hy
    have h : PyData.eqv (pvD x) (pvD y) = true ∧ PyData.eqvAll (pvDs xs) (pvDs ys) = true := by simpa [pvDs, PyData.eqvAll] using h
    rw [eqv_one x y d e hx.1 hy.1 h.1, eqv_all xs ys d e hx.2 hy.2 h.2]
end
theorem leN_eq (x y : PV) : PySem.W.dataLe false pvD x y = !PySem.W.dataLt (pvD y) (pvD x) := rfl
theorem leN_trans (a b c : PV) (h1 : PySem.W.dataLe false pvD a b = true) (h2 : PySem.W.dataLe false pvD b c = true) : PySem.W.dataLe false pvD a c = true := by
  rw [leN_eq, Bool.not_eq_true'] at *
  cases h : PySem.W.dataLt (pvD c) (pvD a) with
  | false => rfl
  | true =>
    rcases lex_negTrans (O := itemOrd) _ (PySem.W.keyToks (pvD b)) _ h with z | z
    · exact z.symm.trans h2
    · exact z.symm.trans h1
theorem leN_total (a b : PV) : (PySem.W.dataLe false pvD a b || PySem.W.dataLe false pvD b a) = true := by
  rw [leN_eq, leN_eq]
  cases h1 : PySem.W.dataLt (pvD b) (pvD a) with
  | false => rfl
  | true =>
    cases h2 : PySem.W.dataLt (pvD a) (pvD b) with
    | false => rfl
    | true =>
      have z := lex_trans (O := itemOrd) _ _ _ h1 h2
      rw [lex_irrefl] at z
      cases z
theorem leN_anti {a b : PV} (ka : isKey a = true) (kb : isKey b = true) (al : PySem.W.alike (pvD a) (pvD b) = true) (h1 : PySem.W.dataLe false pvD a b = true) (h2 : PySem.W.dataLe false pvD b a = true) : a = b := by
  rw [leN_eq, Bool.not_eq_true'] at h1 h2
  have tk := lex_total (O := itemOrd) _ _ h1 h2
  refine eqv_one a b 8 8 (isKey_of ka) (isKey_of kb) ?_
  cases e : PyData.eqv (pvD a) (pvD b) with
  | true => rfl
  | false =>
    have z := (PySem.W.toks_eqv (pvD a) (pvD b) al).2 e [] [Sum.inl 0]
    rw [← tk, PySem.W.lex_pre] at z
    have irr : PyProof.Rows.lexLt itemOrd (PySem.W.keyToks (pvD b)) (PySem.W.keyToks (pvD b)) = false := lex_irrefl _
    rw [irr] at z
    exact absurd z (show ¬ (true : Bool) = false from fun z => nomatch z)
theorem sortN_of {a b : List PV} (p : a.Perm b) (h : srtB b = true) : sortN a = sortN b := by
  obtain ⟨g1, _, g3, _⟩ := of_srtB h
  have ma : ∀ x ∈ sortN a, x ∈ b := fun x hx => p.mem_iff.mp ((sortN_perm a).mem_iff.mp hx)
  have mb : ∀ x ∈ sortN b, x ∈ b := fun x hx => (sortN_perm b).mem_iff.mp hx
  exact (((sortN_perm a).trans p).trans (sortN_perm b).symm).eq_of_pairwise (fun x y hx hy h1 h2 => leN_anti (g1 x (ma x hx)) (g1 y (mb y hy)) (g3 x (ma x hx) y (mb y hy)) h1 h2) (List.pairwise_mergeSort leN_trans leN_total a) (List.pairwise_mergeSort leN_trans leN_total b)
def dedN : List PV → List PV
  | [] => []
  | x :: r => if x ∈ r then dedN r else x :: dedN r
theorem mem_dedN {x : PV} : ∀ {l : List PV}, x ∈ dedN l ↔ x ∈ l
  | [] => Iff.rfl
  | y :: r => by
    unfold dedN
    split
    · rename_i h
      rw [mem_dedN, List.mem_cons]
      exact ⟨.inr, fun z => z.elim (fun e => e ▸ h) id⟩
    · rw [List.mem_cons, List.mem_cons, mem_dedN]
theorem nodup_dedN : ∀ (l : List PV), (dedN l).Nodup
  | [] => List.nodup_nil
  | y :: r => by
    unfold dedN
    split
    · exact nodup_dedN r
    · rename_i h
      exact List.nodup_cons.mpr ⟨fun z => h (mem_dedN.mp z), nodup_dedN r⟩
/-- sorted(set(x)), x a list of nested tuples, few of them distinct -/
def eSortSetN (m : XE) : XE := fun env S => (m env S).bind fun x S1 => match lstOf S1 x with
  | some xs => if srtB xs = true ∧ (dedN xs).length ≤ 306 then .ok (.ls (sortN (dedN xs))) S1 else .bad
  | none => .bad
/-! what the set is -/
def nkP (p : Addr × PV) : Addr × NestedKey := (p.1, nk p.2)
structure SetN0 (P : Program) (w : World) (h : Heap) (a : Addr) (L : List (Addr × NestedKey)) : Prop where
  ex : ∃ es ep t, (∃ o, h.get? a = some o ∧ o.ExactSet ∧ o.data = .set es ep t) ∧ es.toList = rowsN w L ∧ TabN t (hashesN w L) ∧ FourMasks t.mask ∧ (L.map (·.2)).Nodup ∧ (w.params.followText "set-order" = true ∨ t.led = true) ∧ L.length * 5 < t.mask * 3
def SetNO (P : Program) (w : World) (a : Addr) (L : List (Addr × NestedKey)) : HO := .ext fun h => SetN0 P w h a L
theorem setNO_ok {P : Program} {w : World} {H : Hp} {h : Heap} {a : Addr} {L : List (Addr × NestedKey)} (R : SetN0 P w h a L) : ObjOk P w H h a (SetNO P w a L) :=
  ⟨R, let ⟨_, _, _, ⟨o, ho, _⟩, _⟩ := R.ex; ⟨o, ho⟩, fun h1 h2 p k => ⟨let ⟨es, ep, t, ⟨o, ho, r⟩, q⟩ := SetN0.ex p; ⟨es, ep, t, ⟨o, k o ho, r⟩, q⟩⟩⟩
theorem perm_of_map {α β : Type} {f : α → β} {out m : List β} (p : out.Perm m) : ∀ {ks : List α}, m = ks.map f → ∃ l : List α, l.Perm ks ∧ out = l.map f := by
  induction p with
  | nil =>
    intro ks e
    exact ⟨[], by rw [List.map_eq_nil_iff.mp e.symm], rfl⟩
  | cons x _ ih =>
    intro ks e
    cases ks with
    | nil => cases e
    | cons k ks =>
      injection e with e1 e2
      obtain ⟨l, p1, e3⟩ := ih e2
      exact ⟨k :: l, p1.cons k, by rw [List.map_cons, ← e3, e1]⟩
  | swap x y l =>
    intro ks e
    match ks, e with
    | k1 :: k2 :: ks, e =>
      injection e with e1 e
      injection e with e2 e3
      exact ⟨k2 :: k1 :: ks, List.Perm.swap k1 k2 ks, by rw [List.map_cons, List.map_cons, e1, e2, e3]⟩
  | trans _ _ ih1 ih2 =>
    intro ks e
    obtain ⟨l2, p2, e2⟩ := ih2 e
    obtain ⟨l1, p1, e1⟩ := ih1 e2
    exact ⟨l1, p1.trans p2, e1⟩
theorem back_map {α β : Type} {f : α → β} {ks : List α} : ∀ {L : List β}, (∀ p ∈ L, p ∈ ks.map f) → ∃ l : List α, L = l.map f ∧ ∀ p ∈ l, p ∈ ks
  | [], _ => ⟨[], rfl, fun _ z => (nomatch z)⟩
  | x :: L, h => by
    obtain ⟨k, hk, e⟩ := List.mem_map.mp (h x List.mem_cons_self)
    obtain ⟨l, e2, hl⟩ := back_map fun p hp => h p (List.mem_cons_of_mem _ hp)
    exact ⟨k :: l, by rw [List.map_cons, e, e2], fun p hp => (List.mem_cons.mp hp).elim (fun z => z ▸ hk) (hl p)⟩
section
variable {X : Cx}
def KeysR (K : PySem.W.Frag) (ρ : Rho) (H : Hp) (ks : List (Addr × PV)) : Prop := ∀ p ∈ ks, keyD 8 p.2 = true ∧ Rep K ρ H p.2 (.ref p.1)
theorem keys_at {pins : List (Addr × Obj)} {σ : L2.St} {H : Hp} {s : Shared} {ρ : Rho} {ks : List (Addr × PV)} (I : Inv X pins σ H s) (h : KeysR X.K ρ H ks) : ∀ q ∈ ks.map nkP, KeyAt X.prog X.w s.heap q.2 q.1 := fun q hq => by
  obtain ⟨p, hp, rfl⟩ := List.mem_map.mp hq
  exact nk_is I p.2 8 (.ref p.1) (.ref p.1) (h p hp).1 (h p hp).2 rfl
def rSetN (K : PySem.W.Frag) (P : Program) (w : World) : List V → Hp → VK → Prop := fun xs H Q => ∃ (l : Addr) (ρ : Rho) (ks : List (Addr × PV)), xs = [V.ref l] ∧ SqL K H l (ks.map fun p => V.ref p.1) ∧ KeysR K ρ H ks ∧ FewN (ks.map nkP) ∧
  ∀ (a : Addr) (l' : List (Addr × PV)), H a = none → (∀ p ∈ l', p ∈ ks) → (∀ p ∈ ks, nk p.2 ∈ l'.map fun q => nk q.2) → (l'.map fun q => nk q.2).Nodup → Q (.ref a) (upd H a (SetNO P w a (l'.map nkP)))
theorem refs_nk : ∀ {ks : List (Addr × PV)} {us : List Value}, Vals (ks.map fun p => V.ref p.1) us → us = (ks.map nkP).map fun p => Value.ref p.1
  | [], _, .nil => rfl
  | p :: ks, _, .cons r t => by
    cases r
    rw [refs_nk t]
    rfl
theorem cr_setN (hc : X.calm = true) (hu : X.A.units + 64 < cLine) : CallR X (.type "set") (rSetN X.K X.prog X.w) := by
  rintro pins s σ H xs us Q I r ⟨l, ρ, ks, rfl, hl, hk, hf, q⟩
  obtain ⟨its, rv, pl, _⟩ := I.list hl
  rw [Vals.ref1 r]
  refine call_setN (P := X.prog) (w := X.w) (xs := ks.map nkP) (I.ok.hd hc) pl.isList (by simpa using refs_nk rv) (keys_at I hk) hf (by omega) fun h' tk L es ep tb R g k => ?_
  obtain ⟨l', rfl, sub⟩ := back_map (f := nkP) (ks := ks) fun p hp => List.mem_of_mem_take (g.sub p hp)
  refine ⟨.ref s.heap.objs.size, upd H s.heap.objs.size (SetNO X.prog X.w s.heap.objs.size (l'.map nkP)), I.laid (t' := tk) k (Nat.le_refl _) (setNO_ok ⟨es, ep, tb, R.ob, R.rows, R.tab, R.pow, R.nd, R.led, R.room⟩), rfl, q _ l' (I.hok.fresh (Nat.le_refl _)) sub (fun p hp => ?_) ?_⟩
  · have z := g.all (nkP p) (by rw [List.take_length]; exact List.mem_map.mpr ⟨p, hp, rfl⟩)
    rw [List.map_map] at z
    exact z
  · have z := R.nd
    rw [List.map_map] at z
    exact z
def rSortS (K : PySem.W.Frag) (P : Program) (w : World) : List V → Hp → VK → Prop := fun vs H Q => ∃ (ρ : Rho) (a : Addr) (ks : List (Addr × PV)), vs = [V.ref a] ∧ H a = some (SetNO P w a (ks.map nkP)) ∧ KeysR K ρ H ks ∧ srtB (ks.map (·.2)) = true ∧
  ∀ (ls : List PV) (p : Addr) (ys : List V), ls.Perm (ks.map (·.2)) → H p = none → Reps K ρ H (sortN ls) ys → Q (.ref p) (upd H p (.lst ys))
theorem cr_sortS (hc : X.calm = true) (hu : X.A.units + 12 < cLine) : CallR X (.builtin "sorted") (rSortS X.K X.prog X.w) := by
  rintro pins s σ H vs us Q I r ⟨ρ, a, ks, rfl, ha, hk, srt, q⟩
  obtain ⟨g1, g2, g3, g4⟩ := of_srtB srt
  obtain ⟨es, ep, t, ob, rows, tab, pow, nd, led, room⟩ := SetN0.ex (I.hok a _ ha).1
  have R : SetN X.prog X.w s.heap a (ks.map nkP) es ep t := ⟨ob, rows, tab, pow, nd, keys_at I hk, led, room⟩
  obtain ⟨o, oa, oe, od⟩ := ob
  have sz := R.size
  have top := tab.rnd.top
  rw [List.length_map] at sz room
  have ev : es.toList.map (·.2) = ks.map fun p => Value.ref p.1 := by
    rw [rows]
    simp [rowsN, nkP, Function.comp_def]
  rw [Vals.ref1 r]
  refine Calls.call_function_entry PyProof.Rows.kind_sorted PyProof.Rows.plain_sorted PyProof.Rows.entry_sorted (PyProof.Rows.args_sorted1 _) (by
    unfold Builtin.«sorted»
    refine wpAny_bind (m := checkCount "sorted" 1 1 _) (wpAny_pure (wpAny_bind (collect_set (A := X.A.in1) (I.ok.hd hc) ⟨o, oa, oe.1, od⟩ R.fits (by unfold scanBound; omega) tab.ris led fun s1 us k1 hz gg oo pm => ?_)))
    rw [ev] at pm
    obtain ⟨l1, p1, rfl⟩ := perm_of_map pm rfl
    have q1 : (l1.map (·.2)).Perm (ks.map (·.2)) := p1.map _
    have len1 : (l1.map (·.2)).length ≤ sizeLine := by rw [q1.length_eq, List.length_map, sizeLine_eq]; omega
    have each : ∀ l : List (Addr × PV), (∀ p ∈ l, p ∈ ks) → PySem.W.EachIs (Is X.K ρ H) (l.map fun p => Value.ref p.1) (l.map (·.2)) := fun l => by
      induction l with
      | nil => exact fun _ => .nil
      | cons p l ih => exact fun h => .cons ⟨.ref p.1, rfl, (hk p (h p List.mem_cons_self)).2⟩ (ih fun x hx => h x (List.mem_cons_of_mem _ hx))
    have e1 := each l1 fun p hp => p1.mem_iff.mp hp
    have kk : ∀ x ∈ l1.map (·.2), isKey x = true := fun x hx => g1 x (q1.mem_iff.mp hx)
    generalize hvs : l1.map (fun p => Value.ref p.1) = vs at e1 pm
    refine wpAny_bind (wpAny_newList ?_ (by rw [← hvs, List.length_map, ← List.length_map (f := (·.2))]; exact len1))
    have at1 : (s1.heap.push (seqObj "list" vs.toArray 0)).get? s1.heap.objs.size = some (seqObj "list" vs.toArray 0) := Heap.get?_push_size _ rfl
    show wpAny _ _ _ _ _ { s1 with heap := s1.heap.push (seqObj "list" vs.toArray 0) }
    refine wpAny_bind (wpAny_holding (PySem.W.list_sort_data (A := X.A.in1) (enc := pvD) (s := { s1 with heap := s1.heap.push (seqObj "list" vs.toArray 0) }) at1 e1 ((each_rd I kk e1).mono fun v x rx => ⟨[], PyProof.Rows.Reads.keeps (fun b u e => Heap.get?_push_of_some _ (k1 b u e)) rx, List.not_mem_nil⟩)
      (alike_ks fun x hx y hy => g3 x (q1.mem_iff.mp hx) y (q1.mem_iff.mp hy)) (sortable_ks fun x hx => g2 x (q1.mem_iff.mp hx)) len1 (fun x hx => ?_) fun out ho eo => ?_))
    · have := dep_is x 8 (isKey_of (kk x hx))
      show X.A.units + 1 + 1 + _ < cLine
      omega
    · obtain ⟨ys, f1, f2⟩ := is_each eo
      obtain ⟨c, hcell⟩ := PyProof.Rows.sortedHeap_at (vs := vs) (out := List.toArray out) at1
      have old : ∀ b u, s.heap.get? b = some u → (sortedHeap (s1.heap.push (seqObj "list" vs.toArray 0)) s1.heap.objs.size vs (List.toArray out)).get? b = some u := fun b u e => by
        have z := k1 b u e
        have lt := Heap.lt_size z
        rw [PyProof.Rows.sortedHeap_old (Nat.ne_of_lt lt) (by rw [size_push']; exact Nat.lt_succ_of_lt lt)]
        exact Heap.get?_push_of_some _ z
      have free : H s1.heap.objs.size = none := I.hok.fresh hz
      have lenY : ys.length ≤ sizeLine := by rw [f2.length, ho]; exact len1
      have J : Inv X pins σ (upd H s1.heap.objs.size (.lst ys)) { s with heap := sortedHeap (s1.heap.push (seqObj "list" vs.toArray 0)) s1.heap.objs.size vs (List.toArray out), gens := s1.gens, drawn := s1.drawn, toks := s1.toks } :=
        I.call (ch := []) (Un.laid old hz free) (I.hok.laid old hz ⟨lenY, out, c, f2, hcell⟩) (by rw [gg]; exact I.bare) (fun _ z => nomatch z)
      have same : ({ s1 with heap := sortedHeap (s1.heap.push (seqObj "list" vs.toArray 0)) s1.heap.objs.size vs (List.toArray out) } : Shared) = { s with heap := sortedHeap (s1.heap.push (seqObj "list" vs.toArray 0)) s1.heap.objs.size vs (List.toArray out), gens := s1.gens, drawn := s1.drawn, toks := s1.toks } := by
        cases s1
        cases s
        cases oo
        rfl
      refine wpAny_pure ⟨_, rfl, ?_⟩
      show ∃ v H', _
      rw [same]
      exact ⟨.ref s1.heap.objs.size, _, J, rfl, q _ _ ys q1 free f1⟩)
end
section
variable {G : Gx} {E : XK} {X : Cx} {a : Expr} {ma : XE} {p p2 pos pos2 : Pos}
theorem tups_refs {K : PySem.W.Frag} {ρ : Rho} {H : Hp} : ∀ {xs : List PV} {vs : List V}, (∀ x ∈ xs, isTup1 x = true) → (∀ x ∈ xs, isKey x = true) → Reps K ρ H xs vs → ∃ ks : List (Addr × PV), vs = ks.map (fun p => V.ref p.1) ∧ xs = ks.map (·.2) ∧ KeysR K ρ H ks
  | [], vs, _, _, r => by
    unfold Reps at r
    exact ⟨[], r, rfl, fun _ z => (nomatch z)⟩
  | x :: xs, vs, h, g, r => by
    obtain ⟨v, t, rfl, r1, r2⟩ := r.uncons
    obtain ⟨ks, rfl, rfl, k3⟩ := tups_refs (fun y hy => h y (List.mem_cons_of_mem _ hy)) (fun y hy => g y (List.mem_cons_of_mem _ hy)) r2
    have hx := h x List.mem_cons_self
    have kx := isKey_of (g x List.mem_cons_self)
    cases x with
    | tup ys =>
      have r0 := r1
      unfold Rep at r0
      obtain ⟨b, us, rfl, _, _⟩ := r0
      exact ⟨(b, .tup ys) :: ks, rfl, rfl, fun q hq => (List.mem_cons.mp hq).elim (fun e => e ▸ ⟨kx, r1⟩) (k3 q)⟩
    | _ => unfold isTup1 at hx; cases hx
theorem few_n {ks : List (Addr × PV)} (hk : ∀ p ∈ ks, keyD 8 p.2 = true) (h : (dedN (ks.map (·.2))).length ≤ 306) : FewN (ks.map nkP) := by
  intro L nd sub
  have z : (L.map (·.2)).length ≤ ((dedN (ks.map (·.2))).map nk).length := by
    obtain ⟨l, rfl, hl⟩ := back_map (f := nkP) sub
    have nd : (l.map fun q => nk q.2).Nodup := by rw [List.map_map] at nd; exact nd
    have ndl : (l.map (·.2)).Nodup := L2.nodup_of_map (f := nk) (by rw [List.map_map]; exact nd)
    have sz : ∀ (l m : List PV), l.Nodup → (∀ x ∈ l, x ∈ m) → l.length ≤ m.length := fun l => by
      induction l with
      | nil => exact fun _ _ _ => Nat.zero_le _
      | cons x l ih =>
        intro m n s
        obtain ⟨n1, n2⟩ := List.nodup_cons.mp n
        have hx := s x List.mem_cons_self
        have := ih (m.erase x) n2 fun y hy => (List.mem_erase_of_ne (fun (e : y = x) => n1 (e ▸ hy))).mpr (s y (List.mem_cons_of_mem _ hy))
        rw [List.length_erase_of_mem hx] at this
        have := List.length_pos_of_mem hx
        rw [List.length_cons]
        omega
    have := sz (l.map (·.2)) (dedN (ks.map (·.2))) ndl fun x hx => by
      obtain ⟨p, hp, rfl⟩ := List.mem_map.mp hx
      exact mem_dedN.mpr (List.mem_map.mpr ⟨p, hl p hp, rfl⟩)
    simpa using this
  rw [List.length_map, List.length_map] at z
  omega
theorem i_sortSetN (hg : Gl X "sorted") (hm : X.mg "sorted" = none) (hg2 : Gl X "set") (hm2 : X.mg "set" = none) (hc : X.calm = true) (hu : X.A.units + 64 < cLine) (ha : PE X a (tI G E ma)) (hK : X.K = G.K := by rfl) (hw : X.w = G.w := by rfl)
    (hs : starEach [a] X.env = (false, eval a X.env) :: starEach [] X.env := by rfl) : PE X (.Call (.Name "sorted" p) [.Call (.Name "set" p2) [a] [] pos2] [] pos) (tI G E (eSortSetN ma)) :=
  (pe_callB (cr_sortS hc (by omega)) hg hm (by decide +kernel) (pa_cons (pe_callTy (cr_setN hc hu) hg2 hm2 (by decide +kernel) (pa_cons ha pa_nil hs) (by decide) (by decide) hs) pa_nil rfl) (by decide) (by decide)).imp fun σ H Q h => by
    obtain ⟨ρ, S, env, hR, hE, h⟩ := h
    rw [hw, hK]
    refine ⟨ρ, S, env, hR, hE, h.step fun ρ1 S1 H1 x e1 hR1 h1 v rv => ?_⟩
    split at h1
    · rename_i xs hx
      split at h1
      · rename_i hb
        obtain ⟨srt, few⟩ := hb
        obtain ⟨g1, g2, g3, g4⟩ := of_srtB srt
        obtain ⟨d, us, rfl, h2, h3⟩ := lst_of hR1 rv hx
        obtain ⟨ks, rfl, rfl, k3⟩ := tups_refs g2 g1 h3
        refine ⟨d, ρ1, ks, rfl, .of h2, k3, few_n (fun p hp => (k3 p hp).1) few, fun q l' hq sub all nd => ?_⟩
        have en := Ext.new (ρ := ρ1) (o := SetNO X.prog G.w q (l'.map nkP)) hq
        have mem : ∀ x, x ∈ l'.map (·.2) ↔ x ∈ ks.map (·.2) := fun x => by
          constructor
          · intro h
            obtain ⟨r, hr, rfl⟩ := List.mem_map.mp h
            exact List.mem_map.mpr ⟨r, sub r hr, rfl⟩
          · intro h
            obtain ⟨r, hr, rfl⟩ := List.mem_map.mp h
            obtain ⟨r', hr', e⟩ := List.mem_map.mp (all r hr)
            exact List.mem_map.mpr ⟨r', hr', nk_inj _ _ 8 8 (k3 r' (sub r' hr')).1 (k3 r hr).1 e⟩
        have nd2 : (l'.map (·.2)).Nodup := L2.nodup_of_map (f := nk) (by rw [List.map_map]; exact nd)
        have pm : (l'.map (·.2)).Perm (dedN (ks.map (·.2))) := (List.perm_ext_iff_of_nodup nd2 (nodup_dedN _)).mpr fun x => (mem x).trans mem_dedN.symm
        have srt2 : ∀ l : List PV, (∀ x ∈ l, x ∈ ks.map (·.2)) → l.length ≤ 306 → srtB l = true := fun l hl hn => srtB_of (fun x hx => g1 x (hl x hx)) (fun x hx => g2 x (hl x hx)) (fun x hx y hy => g3 x (hl x hx) y (hl y hy)) (by unfold lim; omega)
        refine ⟨ρ1, q, l', rfl, upd_same, fun r hr => ⟨(k3 r (sub r hr)).1, Rep.ext en _ _ (k3 r (sub r hr)).2⟩, srt2 _ (fun x hx => (mem x).mp hx) (by rw [pm.length_eq]; exact few), fun ls t ys pl ht rp => ?_⟩
        rw [sortN_of (pl.trans pm) (srt2 _ (fun x hx => mem_dedN.mp hx) few)] at rp
        exact put_ls (hR1.new hq) rp (h1.shift en) t ht
      · exact h1.elim
    · exact h1.elim
end
end

/-! Gk03_m -/
/-! what the program and the law do, as the small machine's text; written by gen.py -/
section
open PySem PySem.Spec PyProof.Rows L2
def m_is_tuple_of : XF := fnP 3 3 (sRet (eAnd (eIsa .tuple (eVar 0)) (eChain oLe oLe (eVar 1) (eBf bLen (aCons (eVar 0) (aNil))) (eVar 2))))
def m_is_below : XF := fnP 2 2 (sRet (eAnd (eIsa .int (eVar 0)) (eAnd (eNot (eIsa .bool (eVar 0))) (eChain oLe oLt (eC (.int 0)) (eVar 0) (eVar 1)))))
def m_are_rising_boxes : XF := fnP 1 4 (sSeq (sIf (bOr (bNot (bVal (eIsa .tuple (eVar 0)))) (bNot (bVal (eBf bAll (aCons (eLc (iSeq (eVar 0)) (gNm 1) (bYes) (eCall (m_is_below) (aCons (eVar 1) (aCons (eC (.int 6)) (aNil)))) [1]) (aNil)))))) (sRet (eC (.bl false))) (sNil)) (sRet (eBf bAll (aCons (eLc (iZip (eVar 0) (eCut (eVar 0) (some (eC (.int 1))) (none))) (gTp [gNm 2, gNm 3]) (bYes) (eOp oLt (eVar 2) (eVar 3)) [2, 3]) (aNil)))))
def m_is_house : XF := fnP 1 5 (sSeq (sIf (bNot (bVal (eCall (m_is_tuple_of) (aCons (eVar 0) (aCons (eC (.int 3)) (aCons (eC (.int 3)) (aNil))))))) (sRet (eC (.bl false))) (sNil)) (sSeq (sAsg (eVar 0) (gTp [gNm 1, gNm 2, gNm 3])) (sSeq (sIf (bOr (bNot (bVal (eCall (m_are_rising_boxes) (aCons (eVar 1) (aNil))))) (bOr (bNot (bVal (eCall (m_is_below) (aCons (eVar 2) (aCons (eC (.int 6)) (aNil)))))) (bNot (bVal (eCall (m_are_rising_boxes) (aCons (eVar 3) (aNil))))))) (sRet (eC (.bl false))) (sNil)) (sRet (eNot (eBf bAny (aCons (eLc (iSeq (eVar 3)) (gNm 4) (bYes) (eOr (eOp oIn (eVar 4) (eVar 1)) (eOp oEq (eVar 4) (eVar 2))) [4]) (aNil))))))))
def m_check_houses : XF := fnP 1 3 (sSeq (sIf (bNot (bVal (eCall (m_is_tuple_of) (aCons (eVar 0) (aCons (eC (.int 1)) (aCons (eC (.int 3)) (aNil))))))) (sBad) (sNil)) (sFor (iEnum (eVar 0)) (gTp [gNm 1, gNm 2]) (sIf (bNot (bVal (eCall (m_is_house) (aCons (eVar 2) (aNil))))) (sBad) (sNil))))
def m_is_row : XF := fnP 2 5 (sSeq (sIf (bOr (bNot (bVal (eIsa .tuple (eVar 0)))) (bOr (bVal (eOp oEq (eBf bLen (aCons (eVar 0) (aNil))) (eC (.int 0)))) (bNot (bVal (eIsa .str (eOp oIx (eVar 0) (eC (.int 0)))))))) (sRet (eC (.bl false))) (sNil)) (sSeq (sAsg (eGetS K_PLACES V_PLACES (eOp oIx (eVar 0) (eC (.int 0)))) (gNm 2)) (sSeq (sIf (bOr (bVal (eOp oIsN (eVar 2) (eC .non))) (bVal (eOp oNe (eBf bLen (aCons (eVar 0) (aNil))) (eOp oAdd (eBf bLen (aCons (eVar 2) (aNil))) (eC (.int 1)))))) (sRet (eC (.bl false))) (sNil)) (sRet (eBf bAll (aCons (eLc (iZip (eCut (eVar 0) (some (eC (.int 1))) (none)) (eVar 2)) (gTp [gNm 3, gNm 4]) (bYes) (eCall (m_is_below) (aCons (eVar 3) (aCons (eOp oIx (eVar 1) (eVar 4)) (aNil)))) [3, 4]) (aNil)))))))
def m_check_rows : XF := fnP 3 6 (sSeq (sAsg (eDks ["box", "number", "row", "routine"] (aCons (eC (.int 6)) (aCons (eC (.int 1000)) (aCons (eBf bLen (aCons (eVar 0) (aNil))) (aCons (eVar 2) (aNil)))))) (gNm 3)) (sSeq (sFor (iEnum (eVar 0)) (gTp [gNm 4, gNm 5]) (sIf (bNot (bVal (eCall (m_is_row) (aCons (eVar 5) (aCons (eVar 3) (aNil)))))) (sBad) (sNil))) (sIf (bVal (eOp oNotIn (eOp oIx (eOp oIx (eVar 0) (eUn oNeg (eC (.int 1)))) (eC (.int 0))) (eTup (aCons (eC (.str "go")) (aCons (eC (.str "back")) (aNil)))))) (sBad) (sNil))))
def m_check_routines : XF := fnP 2 6 (sSeq (sIf (bNot (bVal (eCall (m_is_tuple_of) (aCons (eVar 0) (aCons (eC (.int 1)) (aCons (eC (.int 6)) (aNil))))))) (sBad) (sNil)) (sFor (iEnum (eVar 0)) (gTp [gNm 2, gNm 3]) (sSeq (sIf (bNot (bVal (eCall (m_is_tuple_of) (aCons (eVar 3) (aCons (eC (.int 2)) (aCons (eC (.int 2)) (aNil))))))) (sBad) (sNil)) (sSeq (sAsg (eVar 3) (gTp [gNm 4, gNm 5])) (sSeq (sIf (bOr (bNot (bVal (eCall (m_is_below) (aCons (eVar 4) (aCons (eVar 1) (aNil)))))) (bNot (bVal (eCall (m_is_tuple_of) (aCons (eVar 5) (aCons (eC (.int 1)) (aCons (eC (.int 32)) (aNil)))))))) (sBad) (sNil)) (sDrop (eCall (m_check_rows) (aCons (eVar 5) (aCons (eVar 2) (aCons (eBf bLen (aCons (eVar 0) (aNil))) (aNil)))))))))))
def m_check_program : XF := fnP 1 3 (sSeq (sIf (bNot (bVal (eCall (m_is_tuple_of) (aCons (eVar 0) (aCons (eC (.int 2)) (aCons (eC (.int 2)) (aNil))))))) (sBad) (sNil)) (sSeq (sAsg (eVar 0) (gTp [gNm 1, gNm 2])) (sSeq (sDrop (eCall (m_check_houses) (aCons (eVar 1) (aNil)))) (sDrop (eCall (m_check_routines) (aCons (eVar 2) (aCons (eBf bLen (aCons (eVar 1) (aNil))) (aNil))))))))
def m_check_number : XF := fnP 2 4 (sSeq (sAsg (eVar 0) (gTp [gNm 2, gNm 3])) (sIf (bNot (bVal (eCall (m_is_below) (aCons (eVar 1) (aCons (eBf bLen (aCons (eVar 3) (aNil))) (aNil)))))) (sBad) (sNil)))
def m_house_of : XF := fnP 2 6 (sSeq (sAsg (eVar 0) (gTp [gNm 2, gNm 3])) (sSeq (sAsg (eOp oIx (eVar 3) (eVar 1)) (gTp [gNm 4, gNm 5])) (sRet (eOp oIx (eVar 2) (eVar 4)))))
def m_first_state : XF := fnP 1 6 (sSeq (sAsg (eVar 0) (gTp [gNm 1, gNm 2, gNm 3])) (sSeq (sAsg (eOp oMulN (eLs (aCons (eC (.str "loose")) (aNil))) (eC (.int 6))) (gNm 4)) (sSeq (sFor (iSeq (eVar 1)) (gNm 5) (sAsg (eC (.str "good")) (gSb (eVar 4) (eVar 5)))) (sSeq (sFor (iSeq (eVar 3)) (gNm 5) (sAsg (eBf bStr (aCons (eVar 5) (aNil))) (gSb (eVar 4) (eVar 5)))) (sRet (eTup (aCons (eC (.int 0)) (aCons (eBf bTuple (aCons (eVar 4) (aNil))) (aCons (eTup (aNil)) (aNil))))))))))
def m_rows_of : XF := fnP 2 5 (sSeq (sAsg (eVar 0) (gTp [gNm 2, gNm 3])) (sSeq (sAsg (eOp oIx (eVar 3) (eVar 1)) (gTp [gNm 2, gNm 4])) (sRet (eVar 4))))
def m_looked_at : XF := fnP 2 5 (sSeq (sAsg (eOp oIx (eVar 1) (eC (.int 0))) (gNm 2)) (sSeq (sIf (bVal (eOp oIn (eVar 2) (eTup (aCons (eC (.str "push")) (aCons (eC (.str "say")) (aCons (eC (.str "zero")) (aNil))))))) (sRet (eCut (eVar 1) (some (eC (.int 1))) (some (eC (.int 2))))) (sNil)) (sSeq (sIf (bVal (eOp oIn (eVar 2) (eTup (aCons (eC (.str "move")) (aCons (eC (.str "add")) (aCons (eC (.str "take")) (aNil))))))) (sRet (eCut (eVar 1) (some (eC (.int 2))) (none))) (sNil)) (sSeq (sIf (bVal (eOp oEq (eVar 2) (eC (.str "call")))) (sSeq (sAsg (eCall (m_house_of) (aCons (eVar 0) (aCons (eOp oIx (eVar 1) (eC (.int 1))) (aNil)))) (gTp [gNm 3, gNm 4, gNm 4])) (sRet (eVar 3))) (sNil)) (sRet (eTup (aNil)))))))
def m_first_unfit : XF := fnP 3 4 (sSeq (sFor (iSeq (eVar 1)) (gNm 3) (sSeq (sIf (bVal (eOp oEq (eOp oIx (eVar 0) (eVar 3)) (eC (.str "loose")))) (sRet (eTup (aCons (eC (.str "loose")) (aCons (eVar 3) (aNil))))) (sNil)) (sIf (bAnd (bVal (eOp oNe (eOp oIx (eVar 0) (eVar 3)) (eC (.str "good")))) (bNot (bVal (eVar 2)))) (sRet (eTup (aCons (eC (.str "caller")) (aCons (eVar 3) (aNil))))) (sNil)))) (sRet (eC .non)))
def m_break_of_back : XF := fnP 3 7 (sSeq (sAsg (eVar 0) (gTp [gNm 3, gNm 4, gNm 5])) (sSeq (sIf (bVal (eOp oGt (eBf bLen (aCons (eVar 2) (aNil))) (eC (.int 0)))) (sRet (eTup (aCons (eC (.str "pile")) (aCons (eUn oNeg (eC (.int 1))) (aNil))))) (sNil)) (sSeq (sFor (iSeq (eVar 5)) (gNm 6) (sIf (bVal (eOp oNe (eOp oIx (eVar 1) (eVar 6)) (eBf bStr (aCons (eVar 6) (aNil))))) (sRet (eTup (aCons (eC (.str "kept")) (aCons (eVar 6) (aNil))))) (sNil))) (sRet (eCall (m_first_unfit) (aCons (eVar 1) (aCons (eTup (aCons (eVar 4) (aNil))) (aCons (eC (.bl false)) (aNil)))))))))
def m_break_of : XF := fnP 3 9 (sSeq (sAsg (eVar 2) (gTp [gNm 3, gNm 4, gNm 5])) (sSeq (sAsg (eOp oIx (eCall (m_rows_of) (aCons (eVar 0) (aCons (eVar 1) (aNil)))) (eVar 3)) (gNm 6)) (sSeq (sAsg (eOp oIx (eVar 6) (eC (.int 0))) (gNm 7)) (sSeq (sIf (bVal (eOp oEq (eVar 7) (eC (.str "back")))) (sRet (eCall (m_break_of_back) (aCons (eCall (m_house_of) (aCons (eVar 0) (aCons (eVar 1) (aNil)))) (aCons (eVar 4) (aCons (eVar 5) (aNil)))))) (sNil)) (sSeq (sAsg (eCall (m_first_unfit) (aCons (eVar 4) (aCons (eCall (m_looked_at) (aCons (eVar 0) (aCons (eVar 6) (aNil)))) (aCons (eOp oIn (eVar 7) (eTup (aCons (eC (.str "move")) (aCons (eC (.str "push")) (aNil))))) (aNil))))) (gNm 8)) (sSeq (sIf (bVal (eOp oNotN (eVar 8) (eC .non))) (sRet (eVar 8)) (sNil)) (sSeq (sIf (bAnd (bVal (eOp oEq (eVar 7) (eC (.str "push")))) (bVal (eOp oEq (eBf bLen (aCons (eVar 5) (aNil))) (eC (.int 8))))) (sRet (eTup (aCons (eC (.str "deep")) (aCons (eOp oIx (eVar 6) (eC (.int 1))) (aNil))))) (sNil)) (sSeq (sIf (bAnd (bVal (eOp oEq (eVar 7) (eC (.str "pop")))) (bVal (eOp oEq (eBf bLen (aCons (eVar 5) (aNil))) (eC (.int 0))))) (sRet (eTup (aCons (eC (.str "pile")) (aCons (eOp oIx (eVar 6) (eC (.int 1))) (aNil))))) (sNil)) (sRet (eC .non))))))))))
def m_first_break : XF := fnP 3 7 (sSeq (sFor (iSeq (eVar 2)) (gNm 3) (sSeq (sAsg (eCall (m_break_of) (aCons (eVar 0) (aCons (eVar 1) (aCons (eVar 3) (aNil))))) (gNm 4)) (sIf (bVal (eOp oNotN (eVar 4) (eC .non))) (sSeq (sAsg (eVar 4) (gTp [gNm 5, gNm 6])) (sRet (eTup (aCons (eVar 3) (aCons (eVar 5) (aCons (eVar 6) (aNil))))))) (sNil)))) (sRet (eC .non)))
def m_boxes_behind_call : XF := fnP 2 7 (sSeq (sAsg (eVar 0) (gTp [gNm 2, gNm 3, gNm 4])) (sSeq (sAsg (eOp oMulN (eLs (aCons (eC (.str "loose")) (aNil))) (eC (.int 6))) (gNm 5)) (sSeq (sFor (iSeq (eVar 4)) (gNm 6) (sAsg (eOp oIx (eVar 1) (eVar 6)) (gSb (eVar 5) (eVar 6)))) (sSeq (sAsg (eC (.str "good")) (gSb (eVar 5) (eVar 3))) (sRet (eVar 5))))))
def m_next_rows : XF := fnP 2 3 (sSeq (sAsg (eOp oIx (eVar 0) (eC (.int 0))) (gNm 2)) (sSeq (sIf (bVal (eOp oEq (eVar 2) (eC (.str "back")))) (sRet (eLs (aNil))) (sNil)) (sSeq (sIf (bVal (eOp oEq (eVar 2) (eC (.str "go")))) (sRet (eLs (aCons (eOp oIx (eVar 0) (eC (.int 1))) (aNil)))) (sNil)) (sSeq (sIf (bVal (eOp oEq (eVar 2) (eC (.str "zero")))) (sRet (eSet2 (eOp oAdd (eVar 1) (eC (.int 1))) (eOp oIx (eVar 0) (eC (.int 2))))) (sNil)) (sRet (eLs (aCons (eOp oAdd (eVar 1) (eC (.int 1))) (aNil))))))))
def m_come_of : XF := fnP 3 10 (sSeq (sAsg (eVar 2) (gTp [gNm 3, gNm 4, gNm 5])) (sSeq (sAsg (eOp oIx (eCall (m_rows_of) (aCons (eVar 0) (aCons (eVar 1) (aNil)))) (eVar 3)) (gNm 6)) (sSeq (sAsg (eOp oIx (eVar 6) (eC (.int 0))) (gNm 7)) (sSeq (sAsg (eBf bListN (aCons (eVar 4) (aNil))) (gNm 8)) (sSeq (sIf (bVal (eOp oIn (eVar 7) (eTup (aCons (eC (.str "put")) (aCons (eC (.str "add")) (aCons (eC (.str "take")) (aNil))))))) (sAsg (eC (.str "good")) (gSb (eVar 8) (eOp oIx (eVar 6) (eC (.int 1))))) (sIf (bVal (eOp oEq (eVar 7) (eC (.str "move")))) (sAsg (eOp oIx (eVar 4) (eOp oIx (eVar 6) (eC (.int 2)))) (gSb (eVar 8) (eOp oIx (eVar 6) (eC (.int 1))))) (sIf (bVal (eOp oEq (eVar 7) (eC (.str "push")))) (sAsg (eTup (aStar (eVar 5) (aCons (eOp oIx (eVar 4) (eOp oIx (eVar 6) (eC (.int 1)))) (aNil)))) (gNm 5)) (sIf (bVal (eOp oEq (eVar 7) (eC (.str "pop")))) (sSeq (sAsg (eOp oIx (eVar 5) (eUn oNeg (eC (.int 1)))) (gSb (eVar 8) (eOp oIx (eVar 6) (eC (.int 1))))) (sAsg (eCut (eVar 5) (none) (some (eUn oNeg (eC (.int 1))))) (gNm 5))) (sIf (bVal (eOp oEq (eVar 7) (eC (.str "call")))) (sAsg (eCall (m_boxes_behind_call) (aCons (eCall (m_house_of) (aCons (eVar 0) (aCons (eOp oIx (eVar 6) (eC (.int 1))) (aNil)))) (aCons (eVar 4) (aNil)))) (gNm 8)) (sNil)))))) (sRet (eLc (iSeq (eCall (m_next_rows) (aCons (eVar 6) (aCons (eVar 3) (aNil))))) (gNm 9) (bYes) (eTup (aCons (eVar 9) (aCons (eBf bTuple (aCons (eVar 8) (aNil))) (aCons (eVar 5) (aNil))))) [9])))))))
def m_next_level : XF := fnP 4 7 (sSeq (sAsg (eNew (aNil)) (gNm 4)) (sSeq (sFor (iSeq (eVar 2)) (gNm 5) (sFor (iSeq (eCall (m_come_of) (aCons (eVar 0) (aCons (eVar 1) (aCons (eVar 5) (aNil)))))) (gNm 6) (sIf (bVal (eOp oNotInD (eVar 6) (eVar 3))) (sSeq (sAsg (eVar 5) (gSbD (eVar 3) (eVar 6))) (sDrop (eMeth1 mAppend (eVar 4) (eVar 6)))) (sNil)))) (sRet (eVar 4))))
def m_survey : XF := fnK 2 6 (sSeq (sAsg (eCall (m_first_state) (aCons (eCall (m_house_of) (aCons (eVar 0) (aCons (eVar 1) (aNil)))) (aNil))) (gNm 2)) (sSeq (sAsg (eDn (eVar 2) (eC .non)) (gNm 3)) (sSeq (sAsg (eLs (aCons (eVar 2) (aNil))) (gNm 4)) (sSeq (sAsg (eC .non) (gNm 5)) (sSeq (sWhile (bAnd (bVal (eOp oGt (eBf bLen (aCons (eVar 4) (aNil))) (eC (.int 0)))) (bVal (eOp oIsN (eVar 5) (eC .non)))) (sSeq (sIf (bVal (eOp oGt (eBf bLenD (aCons (eVar 3) (aNil))) (eC (.int 250)))) (sRaise "TooMany" (eJoin [eC (.str "routine "), eFmt (eVar 1), eC (.str " meets more than "), eFmt (eC (.int 250)), eC (.str " states")])) (sNil)) (sSeq (sAsg (eCall (m_first_break) (aCons (eVar 0) (aCons (eVar 1) (aCons (eVar 4) (aNil))))) (gNm 5)) (sIf (bVal (eOp oIsN (eVar 5) (eC .non))) (sAsg (eCall (m_next_level) (aCons (eVar 0) (aCons (eVar 1) (aCons (eVar 4) (aCons (eVar 3) (aNil)))))) (gNm 4)) (sNil))))) (sRet (eTup (aCons (eVar 3) (aCons (eVar 5) (aNil))))))))))
def m_way_to : XF := fnK 2 3 (sSeq (sAsg (eNew (aNil)) (gNm 2)) (sSeq (sWhile (bVal (eOp oNotN (eVar 1) (eC .non))) (sSeq (sDrop (eMeth1 mAppend (eVar 2) (eOp oIx (eVar 1) (eC (.int 0))))) (sAsg (eOp oIxD (eVar 0) (eVar 1)) (gNm 1)))) (sRet (eUn oRevN (eVar 2)))))
def m_look_at : XF := fnK 2 7 (sSeq (sAsg (eCall (m_survey) (aCons (eVar 0) (aCons (eVar 1) (aNil)))) (gTp [gNm 2, gNm 3])) (sSeq (sIf (bVal (eOp oIsN (eVar 3) (eC .non))) (sRet (eC .non)) (sNil)) (sSeq (sAsg (eVar 3) (gTp [gNm 4, gNm 5, gNm 6])) (sRet (eTup (aCons (eCall (m_way_to) (aCons (eVar 2) (aCons (eVar 4) (aNil)))) (aCons (eVar 5) (aCons (eVar 6) (aNil)))))))))
def m_look : XF := fnK 2 2 (sSeq (sDrop (eCall (m_check_program) (aCons (eVar 0) (aNil)))) (sSeq (sDrop (eCall (m_check_number) (aCons (eVar 0) (aCons (eVar 1) (aNil))))) (sRet (eCall (m_look_at) (aCons (eVar 0) (aCons (eVar 1) (aNil)))))))
def m_mix : XF := fnK 2 4 (sSeq (sAsg (eVar 1) (gNm 2)) (sSeq (sFor (iSeq (eVar 0)) (gNm 3) (sAsg (eOp oMod (eOp oAdd (eOp oAdd (eOp oMul (eVar 2) (eC (.int 48271))) (eOp oMod (eVar 3) (eC (.int 2147483629)))) (eC (.int 1))) (eC (.int 2147483647))) (gNm 2))) (sRet (eNew (aCons (eVar 2) (aCons (eBf bListN (aCons (eVar 0) (aNil))) (aCons (eC (.int 0)) (aNil))))))))
def m_next : XF := fnP 2 4 (sSeq (sAsg (eOp oMod (eOp oIx (eVar 0) (eC (.int 2))) (eBf bMax (aCons (eC (.int 1)) (aCons (eBf bLen (aCons (eOp oIx (eVar 0) (eC (.int 1))) (aNil))) (aNil))))) (gNm 2)) (sSeq (sAsg (eIf (bVal (eOp oNe (eOp oIx (eVar 0) (eC (.int 1))) (eLs (aNil)))) (eOp oIx (eOp oIx (eVar 0) (eC (.int 1))) (eVar 2)) (eC (.int 0))) (gNm 3)) (sSeq (sIf (bVal (eOp oGe (eVar 3) (eOp oPow (eC (.int 10)) (eC (.int 18))))) (sSeq (sAsg (eOp oDiv (eVar 3) (eVar 1)) (gSb (eOp oIx (eVar 0) (eC (.int 1))) (eVar 2))) (sRet (eOp oMod (eVar 3) (eVar 1)))) (sNil)) (sSeq (sAsg (eOp oMod (eOp oAdd (eOp oAdd (eOp oMul (eOp oIx (eVar 0) (eC (.int 0))) (eC (.int 48271))) (eOp oMul (eVar 3) (eC (.int 69621)))) (eC (.int 11))) (eC (.int 2147483647))) (gSb (eVar 0) (eC (.int 0)))) (sSeq (sAsg (eOp oAdd (eOp oIx (eVar 0) (eC (.int 2))) (eC (.int 1))) (gSb (eVar 0) (eC (.int 2)))) (sRet (eOp oMod (eOp oDiv (eOp oIx (eVar 0) (eC (.int 0))) (eC (.int 7))) (eVar 1))))))))
def m_house : XF := fnP 1 6 (sSeq (sAsg (eOp oIx (eLs (aCons (eC (.int 3)) (aCons (eC (.int 3)) (aCons (eC (.int 3)) (aCons (eC (.int 2)) (aNil)))))) (eCall (m_next) (aCons (eVar 0) (aCons (eC (.int 4)) (aNil))))) (gNm 1)) (sSeq (sAsg (eLc (iRng (eC (.int 6))) (gNm 3) (bYes) (eOp oMul (eCall (m_next) (aCons (eVar 0) (aCons (eVar 1) (aNil)))) (eBf bInt (aCons (eOr (eOp oEq (eVar 1) (eC (.int 3))) (eOp oEq (eCall (m_next) (aCons (eVar 0) (aCons (eC (.int 3)) (aNil)))) (eC (.int 0)))) (aNil)))) [3]) (gNm 2)) (sSeq (sAsg (eCall (m_next) (aCons (eVar 0) (aCons (eC (.int 6)) (aNil)))) (gNm 4)) (sSeq (sAsg (eBf bTuple (aCons (eCut (eLc (iRng (eC (.int 6))) (gNm 3) (bVal (eOp oEq (eOp oIx (eVar 2) (eVar 3)) (eC (.int 0)))) (eVar 3) [3]) (none) (some (eOp oAdd (eC (.int 1)) (eCall (m_next) (aCons (eVar 0) (aCons (eOp oIx (eLs (aCons (eC (.int 3)) (aCons (eC (.int 6)) (aNil)))) (eCall (m_next) (aCons (eVar 0) (aCons (eC (.int 2)) (aNil))))) (aNil))))))) (aNil))) (gNm 5)) (sRet (eTup (aCons (eVar 5) (aCons (eVar 4) (aCons (eBf bTuple (aCons (eLc (iRng (eC (.int 6))) (gNm 3) (bAnd (bVal (eOp oEq (eOp oIx (eVar 2) (eVar 3)) (eC (.int 1)))) (bVal (eOp oNe (eVar 3) (eVar 4)))) (eVar 3) [3]) (aNil))) (aNil))))))))))
def m_number : XF := fnP 1 1 (sRet (eOp oIx (eLs (aCons (eCall (m_next) (aCons (eVar 0) (aCons (eC (.int 4)) (aNil)))) (aCons (eCall (m_next) (aCons (eVar 0) (aCons (eC (.int 1000)) (aNil)))) (aNil)))) (eCall (m_next) (aCons (eVar 0) (aCons (eC (.int 2)) (aNil))))))
def m_simple : XF := fnP 2 10 (sSeq (sAsg (eLc (iRng (eC (.int 6))) (gNm 3) (bVal (eOp oEq (eOp oIx (eOp oIx (eVar 1) (eC (.str "boxes"))) (eVar 3)) (eC (.str "good")))) (eVar 3) [3]) (gNm 2)) (sSeq (sAsg (eOp oIx (eOp oIx (eVar 1) (eC (.str "free"))) (eCall (m_next) (aCons (eVar 0) (aCons (eBf bLen (aCons (eOp oIx (eVar 1) (eC (.str "free"))) (aNil))) (aNil))))) (gNm 4)) (sSeq (sAsg (eCall (m_next) (aCons (eVar 0) (aCons (eC (.int 6)) (aNil)))) (gNm 5)) (sSeq (sIf (bOr (bVal (eOp oEq (eVar 2) (eLs (aNil)))) (bVal (eOp oEq (eVar 5) (eC (.int 0))))) (sAsg (eTup (aCons (eC (.str "put")) (aCons (eVar 4) (aCons (eCall (m_number) (aCons (eVar 0) (aNil))) (aNil))))) (gNm 6)) (sIf (bVal (eOp oEq (eVar 5) (eC (.int 1)))) (sAsg (eTup (aCons (eC (.str "say")) (aCons (eOp oIx (eVar 2) (eCall (m_next) (aCons (eVar 0) (aCons (eBf bLen (aCons (eVar 2) (aNil))) (aNil))))) (aNil)))) (gNm 6)) (sIf (bVal (eOp oEq (eVar 5) (eC (.int 2)))) (sSeq (sAsg (eLc (iRng (eC (.int 6))) (gNm 3) (bVal (eOp oNe (eOp oIx (eOp oIx (eVar 1) (eC (.str "boxes"))) (eVar 3)) (eC (.str "loose")))) (eVar 3) [3]) (gNm 7)) (sAsg (eTup (aCons (eC (.str "move")) (aCons (eVar 4) (aCons (eOp oIx (eVar 7) (eCall (m_next) (aCons (eVar 0) (aCons (eBf bLen (aCons (eVar 7) (aNil))) (aNil))))) (aNil))))) (gNm 6))) (sSeq (sPar 8 9 (aCons (eOp oIx (eVar 2) (eCall (m_next) (aCons (eVar 0) (aCons (eBf bLen (aCons (eVar 2) (aNil))) (aNil))))) (aCons (eOp oIx (eVar 2) (eCall (m_next) (aCons (eVar 0) (aCons (eBf bLen (aCons (eVar 2) (aNil))) (aNil))))) (aNil)))) (sAsg (eTup (aCons (eOp oIx (eLs (aCons (eC (.str "add")) (aCons (eC (.str "take")) (aNil)))) (eOp oMod (eVar 5) (eC (.int 2)))) (aCons (eVar 4) (aCons (eVar 8) (aCons (eVar 9) (aNil)))))) (gNm 6)))))) (sSeq (sDrop (eMeth1 mAppend (eOp oIx (eVar 1) (eC (.str "rows"))) (eVar 6))) (sIf (bVal (eOp oNe (eOp oIx (eVar 6) (eC (.int 0))) (eC (.str "say")))) (sAsg (eIf (bVal (eOp oEq (eOp oIx (eVar 6) (eC (.int 0))) (eC (.str "move")))) (eOp oIx (eOp oIx (eVar 1) (eC (.str "boxes"))) (eOp oIx (eVar 6) (eC (.int 2)))) (eC (.str "good"))) (gSb (eOp oIx (eVar 1) (eC (.str "boxes"))) (eVar 4))) (sNil)))))))
def m_calling : XF := fnP 2 10 (sSeq (sAsg (eCall (m_next) (aCons (eVar 0) (aCons (eBf bLen (aCons (eOp oIx (eVar 1) (eC (.str "owners"))) (aNil))) (aNil)))) (gNm 2)) (sSeq (sAsg (eOp oIx (eOp oIx (eVar 1) (eC (.str "houses"))) (eOp oIx (eOp oIx (eVar 1) (eC (.str "owners"))) (eVar 2))) (gTp [gNm 3, gNm 4, gNm 5])) (sSeq (sAsg (eLc (iRng (eC (.int 6))) (gNm 7) (bVal (eOp oNotIn (eVar 7) (eOp oIx (eVar 1) (eC (.str "free"))))) (eVar 7) [7]) (gNm 6)) (sSeq (sIf (bVal (eOp oNe (eLc (iSeq (eOp oAdd (eVar 3) (eTup (aCons (eVar 4) (aNil))))) (gNm 7) (bVal (eOp oIn (eVar 7) (eVar 6))) (eVar 7) [7]) (eLs (aNil)))) (sRetN) (sNil)) (sSeq (sFor (iSeq (eVar 3)) (gNm 7) (sIf (bVal (eOp oNe (eOp oIx (eOp oIx (eVar 1) (eC (.str "boxes"))) (eVar 7)) (eC (.str "good")))) (sSeq (sDrop (eMeth1 mAppend (eOp oIx (eVar 1) (eC (.str "rows"))) (eTup (aCons (eC (.str "put")) (aCons (eVar 7) (aCons (eCall (m_number) (aCons (eVar 0) (aNil))) (aNil))))))) (sAsg (eC (.str "good")) (gSb (eOp oIx (eVar 1) (eC (.str "boxes"))) (eVar 7)))) (sNil))) (sSeq (sAsg (eLc (iRng (eC (.int 6))) (gNm 7) (bAnd (bVal (eOp oNotIn (eVar 7) (eVar 5))) (bAnd (bVal (eOp oNe (eOp oIx (eOp oIx (eVar 1) (eC (.str "boxes"))) (eVar 7)) (eC (.str "loose")))) (bVal (eOp oNe (eVar 7) (eVar 4))))) (eVar 7) [7]) (gNm 8)) (sSeq (sAsg (eLc (iSeq (eVar 8)) (gNm 7) (bOr (bVal (eOp oIn (eVar 7) (eVar 6))) (bVal (eOp oEq (eCall (m_next) (aCons (eVar 0) (aCons (eC (.int 3)) (aNil)))) (eC (.int 0))))) (eVar 7) [7]) (gNm 9)) (sSeq (sDrop (eMeth1 mExtend (eOp oIx (eVar 1) (eC (.str "rows"))) (eLc (iSeq (eVar 9)) (gNm 7) (bYes) (eTup (aCons (eC (.str "push")) (aCons (eVar 7) (aNil)))) [7]))) (sSeq (sDrop (eMeth1 mAppend (eOp oIx (eVar 1) (eC (.str "rows"))) (eTup (aCons (eC (.str "call")) (aCons (eVar 2) (aNil)))))) (sSeq (sDrop (eMeth1 mExtend (eOp oIx (eVar 1) (eC (.str "rows"))) (eLc (iRev (eVar 9)) (gNm 7) (bYes) (eTup (aCons (eC (.str "pop")) (aCons (eVar 7) (aNil)))) [7]))) (sSeq (sFor (iSeq (eVar 8)) (gNm 7) (sAsg (eIf (bVal (eOp oIn (eVar 7) (eVar 9))) (eOp oIx (eOp oIx (eVar 1) (eC (.str "boxes"))) (eVar 7)) (eC (.str "loose"))) (gSb (eOp oIx (eVar 1) (eC (.str "boxes"))) (eVar 7)))) (sAsg (eC (.str "good")) (gSb (eOp oIx (eVar 1) (eC (.str "boxes"))) (eVar 4))))))))))))))
def m_zeroed : XF := fnP 2 8 (sSeq (sAsg (eLc (iRng (eC (.int 6))) (gNm 3) (bVal (eOp oEq (eOp oIx (eOp oIx (eVar 1) (eC (.str "boxes"))) (eVar 3)) (eC (.str "good")))) (eVar 3) [3]) (gNm 2)) (sSeq (sIf (bVal (eOp oEq (eVar 2) (eLs (aNil)))) (sRetN) (sNil)) (sSeq (sAsg (eOp oIx (eVar 2) (eCall (m_next) (aCons (eVar 0) (aCons (eBf bLen (aCons (eVar 2) (aNil))) (aNil))))) (gNm 4)) (sSeq (sAsg (eBf bLen (aCons (eOp oIx (eVar 1) (eC (.str "rows"))) (aNil))) (gNm 5)) (sSeq (sDrop (eMeth1 mAppend (eOp oIx (eVar 1) (eC (.str "rows"))) (eTup (aCons (eC (.str "zero")) (aCons (eVar 4) (aCons (eC (.int 0)) (aNil))))))) (sSeq (sAsg (eBf bList (aCons (eOp oIx (eVar 1) (eC (.str "boxes"))) (aNil))) (gNm 6)) (sSeq (sFor (iRng (eOp oAdd (eC (.int 1)) (eCall (m_next) (aCons (eVar 0) (aCons (eC (.int 2)) (aNil)))))) (gNm 7) (sDrop (eCall (m_simple) (aCons (eVar 0) (aCons (eVar 1) (aNil)))))) (sSeq (sIf (bAnd (bVal (eOp oEq (eCall (m_next) (aCons (eVar 0) (aCons (eC (.int 4)) (aNil)))) (eC (.int 0)))) (bAnd (bVal (eOp oEq (eOp oIx (eOp oIx (eVar 1) (eC (.str "boxes"))) (eVar 4)) (eC (.str "good")))) (bVal (eOp oEq (eVar 6) (eOp oIx (eVar 1) (eC (.str "boxes"))))))) (sDrop (eMeth1 mAppend (eOp oIx (eVar 1) (eC (.str "rows"))) (eTup (aCons (eC (.str "go")) (aCons (eVar 5) (aNil)))))) (sNil)) (sSeq (sAsg (eTup (aCons (eC (.str "zero")) (aCons (eVar 4) (aCons (eBf bLen (aCons (eOp oIx (eVar 1) (eC (.str "rows"))) (aNil))) (aNil))))) (gSb (eOp oIx (eVar 1) (eC (.str "rows"))) (eVar 5))) (sFor (iRng (eC (.int 6))) (gNm 3) (sIf (bVal (eOp oNe (eOp oIx (eOp oIx (eVar 1) (eC (.str "boxes"))) (eVar 3)) (eOp oIx (eVar 6) (eVar 3)))) (sAsg (eC (.str "loose")) (gSb (eOp oIx (eVar 1) (eC (.str "boxes"))) (eVar 3))) (sNil))))))))))))
def m_kept : XF := fnP 5 14 (sSeq (sAsg (eOp oIx (eVar 1) (eOp oIx (eVar 2) (eVar 3))) (gTp [gNm 5, gNm 6, gNm 7])) (sSeq (sAsg (eLc (iSeq (eVar 7)) (gNm 9) (bVal (eOp oEq (eCall (m_next) (aCons (eVar 0) (aCons (eC (.int 2)) (aNil)))) (eC (.int 0)))) (eVar 9) [9]) (gNm 8)) (sSeq (sAsg (eDks ["rows", "houses", "owners"] (aCons (eLcN (iSeq (eVar 8)) (gNm 9) (bYes) (eTup (aCons (eC (.str "push")) (aCons (eVar 9) (aNil)))) [9]) (aCons (eVar 1) (aCons (eVar 2) (aNil))))) (gNm 10)) (sSeq (sAsg (eLcN (iRng (eC (.int 6))) (gNm 9) (bYes) (eIf (bVal (eOp oIn (eVar 9) (eVar 5))) (eC (.str "good")) (eIf (bVal (eOp oIn (eVar 9) (eVar 7))) (eBf bStr (aCons (eVar 9) (aNil))) (eC (.str "loose")))) [9]) (gSb (eVar 10) (eC (.str "boxes")))) (sSeq (sAsg (eLc (iRng (eC (.int 6))) (gNm 9) (bOr (bVal (eOp oNotIn (eVar 9) (eVar 7))) (bVal (eOp oIn (eVar 9) (eVar 8)))) (eVar 9) [9]) (gSb (eVar 10) (eC (.str "free")))) (sSeq (sFor (iRng (eCall (m_next) (aCons (eVar 0) (aCons (eOp oAdd (eVar 4) (eC (.int 1))) (aNil))))) (gNm 11) (sSeq (sAsg (eCall (m_next) (aCons (eVar 0) (aCons (eC (.int 8)) (aNil)))) (gNm 12)) (sIf (bVal (eOp oLt (eVar 12) (eC (.int 2)))) (sDrop (eCall (m_calling) (aCons (eVar 0) (aCons (eVar 10) (aNil))))) (sIf (bVal (eOp oEq (eVar 12) (eC (.int 2)))) (sDrop (eCall (m_zeroed) (aCons (eVar 0) (aCons (eVar 10) (aNil))))) (sDrop (eCall (m_simple) (aCons (eVar 0) (aCons (eVar 10) (aNil))))))))) (sSeq (sIf (bVal (eOp oNe (eOp oIx (eOp oIx (eVar 10) (eC (.str "boxes"))) (eVar 6)) (eC (.str "good")))) (sDrop (eMeth1 mAppend (eOp oIx (eVar 10) (eC (.str "rows"))) (eTup (aCons (eC (.str "put")) (aCons (eVar 6) (aCons (eCall (m_number) (aCons (eVar 0) (aNil))) (aNil))))))) (sNil)) (sSeq (sAsg (eOp oAdd (eOp oAdd (eOp oIx (eVar 10) (eC (.str "rows"))) (eLc (iRev (eVar 8)) (gNm 9) (bYes) (eTup (aCons (eC (.str "pop")) (aCons (eVar 9) (aNil)))) [9])) (eLs (aCons (eTup (aCons (eC (.str "back")) (aNil))) (aNil)))) (gNm 13)) (sSeq (sIf (bVal (eOp oGt (eBf bLen (aCons (eVar 13) (aNil))) (eC (.int 32)))) (sAsg (eLs (aCons (eTup (aCons (eC (.str "put")) (aCons (eVar 6) (aCons (eC (.int 1)) (aNil))))) (aCons (eTup (aCons (eC (.str "back")) (aNil))) (aNil)))) (gNm 13)) (sNil)) (sRet (eTup (aCons (eOp oIx (eVar 2) (eVar 3)) (aCons (eBf bTuple (aCons (eVar 13) (aNil))) (aNil))))))))))))))
def m_program : XF := fnP 2 7 (sSeq (sAsg (eBf bTuple (aCons (eLc (iRng (eOp oAdd (eC (.int 1)) (eCall (m_next) (aCons (eVar 0) (aCons (eC (.int 3)) (aNil)))))) (gNm 3) (bYes) (eCall (m_house) (aCons (eVar 0) (aNil))) [3]) (aNil))) (gNm 2)) (sSeq (sAsg (eLc (iRng (eOp oAdd (eC (.int 1)) (eCall (m_next) (aCons (eVar 0) (aCons (eVar 1) (aNil)))))) (gNm 3) (bYes) (eCall (m_next) (aCons (eVar 0) (aCons (eBf bLen (aCons (eVar 2) (aNil))) (aNil)))) [3]) (gNm 4)) (sSeq (sAsg (eOp oIx (eLs (aCons (eC (.int 6)) (aCons (eC (.int 14)) (aNil)))) (eCall (m_next) (aCons (eVar 0) (aCons (eC (.int 2)) (aNil))))) (gNm 5)) (sRet (eTup (aCons (eVar 2) (aCons (eBf bTuple (aCons (eLc (iRng (eBf bLen (aCons (eVar 4) (aNil)))) (gNm 6) (bYes) (eCall (m_kept) (aCons (eVar 0) (aCons (eVar 2) (aCons (eVar 4) (aCons (eVar 6) (aCons (eVar 5) (aNil))))))) [6]) (aNil))) (aNil))))))))
def m_wild_row : XF := fnP 3 6 (sSeq (sAsg (eLs (aCons (eC (.str "put")) (aCons (eC (.str "move")) (aCons (eC (.str "add")) (aCons (eC (.str "take")) (aCons (eC (.str "push")) (aCons (eC (.str "push")) (aCons (eC (.str "pop")) (aCons (eC (.str "pop")) (aCons (eC (.str "say")) (aCons (eC (.str "zero")) (aCons (eC (.str "zero")) (aCons (eC (.str "go")) (aCons (eC (.str "call")) (aCons (eC (.str "back")) (aNil)))))))))))))))) (gNm 3)) (sSeq (sAsg (eOp oIx (eVar 3) (eCall (m_next) (aCons (eVar 0) (aCons (eC (.int 14)) (aNil))))) (gNm 3)) (sSeq (sAsg (eLc (iRng (eC (.int 3))) (gNm 5) (bYes) (eCall (m_next) (aCons (eVar 0) (aCons (eC (.int 6)) (aNil)))) [5]) (gNm 4)) (sSeq (sIf (bVal (eOp oIn (eVar 3) (eTup (aCons (eC (.str "move")) (aCons (eC (.str "push")) (aCons (eC (.str "pop")) (aCons (eC (.str "say")) (aCons (eC (.str "add")) (aCons (eC (.str "take")) (aNil)))))))))) (sRet (eOp oAdd (eTup (aCons (eVar 3) (aNil))) (eBf bTuple (aCons (eCut (eVar 4) (none) (some (eGet2 (eDc ["move", "add", "take"] (aCons (eC (.int 2)) (aCons (eC (.int 3)) (aCons (eC (.int 3)) (aNil))))) (eVar 3) (eC (.int 1))))) (aNil))))) (sNil)) (sSeq (sIf (bVal (eOp oEq (eVar 3) (eC (.str "put")))) (sRet (eTup (aCons (eVar 3) (aCons (eOp oIx (eVar 4) (eC (.int 0))) (aCons (eCall (m_number) (aCons (eVar 0) (aNil))) (aNil)))))) (sNil)) (sSeq (sIf (bVal (eOp oEq (eVar 3) (eC (.str "zero")))) (sRet (eTup (aCons (eVar 3) (aCons (eOp oIx (eVar 4) (eC (.int 0))) (aCons (eCall (m_next) (aCons (eVar 0) (aCons (eVar 1) (aNil)))) (aNil)))))) (sNil)) (sRet (eOp oIx (eDc ["go", "call", "back"] (aCons (eTup (aCons (eC (.str "go")) (aCons (eCall (m_next) (aCons (eVar 0) (aCons (eVar 1) (aNil)))) (aNil)))) (aCons (eTup (aCons (eC (.str "call")) (aCons (eCall (m_next) (aCons (eVar 0) (aCons (eVar 2) (aNil)))) (aNil)))) (aCons (eTup (aCons (eC (.str "back")) (aNil))) (aNil))))) (eVar 3)))))))))
def m_odd : XF := fnP 3 15 (sSeq (sAsg (eVar 1) (gTp [gNm 3, gNm 4])) (sSeq (sFor (iRng (eVar 2)) (gNm 5) (sSeq (sAsg (eCall (m_next) (aCons (eVar 0) (aCons (eBf bLen (aCons (eVar 4) (aNil))) (aNil)))) (gNm 6)) (sSeq (sAsg (eOp oIx (eVar 4) (eVar 6)) (gTp [gNm 7, gNm 8])) (sSeq (sAsg (eCall (m_next) (aCons (eVar 0) (aCons (eBf bLen (aCons (eVar 8) (aNil))) (aNil)))) (gNm 9)) (sSeq (sAsg (eCall (m_wild_row) (aCons (eVar 0) (aCons (eBf bLen (aCons (eVar 8) (aNil))) (aCons (eBf bLen (aCons (eVar 4) (aNil))) (aNil))))) (gNm 10)) (sSeq (sAsg (eCall (m_next) (aCons (eVar 0) (aCons (eC (.int 4)) (aNil)))) (gNm 11)) (sSeq (sAsg (eLs (aCons (eOp oAdd (eOp oAdd (eCut (eVar 8) (none) (some (eVar 9))) (eTup (aCons (eVar 10) (aNil)))) (eCut (eVar 8) (some (eOp oAdd (eVar 9) (eC (.int 1)))) (none))) (aCons (eOp oAdd (eOp oAdd (eCut (eVar 8) (none) (some (eVar 9))) (eTup (aCons (eVar 10) (aNil)))) (eCut (eVar 8) (some (eVar 9)) (none))) (aCons (eOp oAdd (eCut (eVar 8) (none) (some (eVar 9))) (eCut (eVar 8) (some (eOp oAdd (eVar 9) (eC (.int 1)))) (none))) (aCons (eVar 8) (aNil)))))) (gNm 12)) (sSeq (sAsg (eOp oIx (eVar 12) (eVar 11)) (gNm 12)) (sSeq (sAsg (eBf bLen (aCons (eVar 12) (aNil))) (gNm 13)) (sSeq (sAsg (eBf bTuple (aCons (eLc (iSeq (eVar 12)) (gNm 14) (bYes) (eIf (bVal (eOp oIn (eOp oIx (eVar 14) (eC (.int 0))) (eTup (aCons (eC (.str "go")) (aCons (eC (.str "zero")) (aNil)))))) (eOp oAdd (eCut (eVar 14) (none) (some (eUn oNeg (eC (.int 1))))) (eTup (aCons (eBf bMin (aCons (eOp oIx (eVar 14) (eUn oNeg (eC (.int 1)))) (aCons (eOp oSub (eVar 13) (eC (.int 1))) (aNil)))) (aNil)))) (eVar 14)) [14]) (aNil))) (gNm 12)) (sSeq (sIf (bAnd (bVal (eOp oEq (eVar 11) (eC (.int 3)))) (bVal (eOp oGt (eBf bLen (aCons (eVar 3) (aNil))) (eC (.int 1))))) (sAsg (eCall (m_next) (aCons (eVar 0) (aCons (eBf bLen (aCons (eVar 3) (aNil))) (aNil)))) (gNm 7)) (sNil)) (sIf (bAnd (bVal (eChain oLt oLt (eC (.int 0)) (eVar 13) (eC (.int 33)))) (bVal (eOp oIn (eOp oIx (eOp oIx (eVar 12) (eUn oNeg (eC (.int 1)))) (eC (.int 0))) (eTup (aCons (eC (.str "go")) (aCons (eC (.str "back")) (aNil))))))) (sAsg (eOp oAdd (eOp oAdd (eCut (eVar 4) (none) (some (eVar 6))) (eTup (aCons (eTup (aCons (eVar 7) (aCons (eVar 12) (aNil)))) (aNil)))) (eCut (eVar 4) (some (eOp oAdd (eVar 6) (eC (.int 1)))) (none))) (gNm 4)) (sNil))))))))))))) (sRet (eTup (aCons (eVar 3) (aCons (eVar 4) (aNil)))))))
def m_wild : XF := fnP 2 9 (sSeq (sAsg (eBf bTuple (aCons (eLc (iRng (eOp oAdd (eC (.int 1)) (eCall (m_next) (aCons (eVar 0) (aCons (eC (.int 3)) (aNil)))))) (gNm 3) (bYes) (eCall (m_house) (aCons (eVar 0) (aNil))) [3]) (aNil))) (gNm 2)) (sSeq (sAsg (eOp oAdd (eC (.int 1)) (eCall (m_next) (aCons (eVar 0) (aCons (eC (.int 3)) (aNil))))) (gNm 4)) (sSeq (sAsg (eNew (aNil)) (gNm 5)) (sSeq (sFor (iRng (eVar 4)) (gNm 3) (sSeq (sAsg (eOp oAdd (eC (.int 1)) (eCall (m_next) (aCons (eVar 0) (aCons (eVar 1) (aNil))))) (gNm 6)) (sSeq (sAsg (eOp oAdd (eLc (iRng (eOp oSub (eVar 6) (eC (.int 1)))) (gNm 8) (bYes) (eCall (m_wild_row) (aCons (eVar 0) (aCons (eVar 6) (aCons (eVar 4) (aNil))))) [8]) (eLs (aCons (eOp oIx (eLs (aCons (eTup (aCons (eC (.str "back")) (aNil))) (aCons (eTup (aCons (eC (.str "go")) (aCons (eC (.int 0)) (aNil)))) (aNil)))) (eCall (m_next) (aCons (eVar 0) (aCons (eC (.int 2)) (aNil))))) (aNil)))) (gNm 7)) (sDrop (eMeth1 mAppend (eVar 5) (eTup (aCons (eCall (m_next) (aCons (eVar 0) (aCons (eBf bLen (aCons (eVar 2) (aNil))) (aNil)))) (aCons (eBf bTuple (aCons (eVar 7) (aNil))) (aNil))))))))) (sRet (eTup (aCons (eVar 2) (aCons (eBf bTuple (aCons (eVar 5) (aNil))) (aNil)))))))))
def m_any : XF := fnP 1 3 (sSeq (sAsg (eCall (m_next) (aCons (eVar 0) (aCons (eC (.int 5)) (aNil)))) (gNm 1)) (sSeq (sIf (bVal (eOp oEq (eVar 1) (eC (.int 4)))) (sRet (eCall (m_wild) (aCons (eVar 0) (aCons (eOp oIx (eLs (aCons (eC (.int 6)) (aCons (eC (.int 20)) (aCons (eC (.int 32)) (aNil))))) (eCall (m_next) (aCons (eVar 0) (aCons (eC (.int 3)) (aNil))))) (aNil))))) (sNil)) (sSeq (sAsg (eCall (m_program) (aCons (eVar 0) (aCons (eC (.int 6)) (aNil)))) (gNm 2)) (sRet (eIf (bVal (eOp oEq (eVar 1) (eC (.int 0)))) (eVar 2) (eCall (m_odd) (aCons (eVar 0) (aCons (eVar 2) (aCons (eOp oAdd (eC (.int 1)) (eCall (m_next) (aCons (eVar 0) (aCons (eC (.int 2)) (aNil))))) (aNil))))))))))
def m_first : XF := fnP 2 6 (sSeq (sAsg (eOp oIx (eOp oIx (eVar 0) (eC (.int 0))) (eOp oIx (eOp oIx (eOp oIx (eVar 0) (eC (.int 1))) (eVar 1)) (eC (.int 0)))) (gTp [gNm 2, gNm 3, gNm 4])) (sRet (eTup (aCons (eC (.int 0)) (aCons (eBf bTuple (aCons (eLc (iRng (eC (.int 6))) (gNm 5) (bYes) (eIf (bVal (eOp oIn (eVar 5) (eVar 2))) (eC (.str "good")) (eIf (bVal (eOp oIn (eVar 5) (eVar 4))) (eBf bStr (aCons (eVar 5) (aNil))) (eC (.str "loose")))) [5]) (aNil))) (aCons (eTup (aNil)) (aNil)))))))
def m_not_good : XF := fnP 2 4 (sSeq (sAsg (eLc (iSeq (eVar 1)) (gNm 3) (bVal (eOp oNe (eOp oIx (eVar 0) (eVar 3)) (eC (.str "good")))) (eVar 3) [3]) (gNm 2)) (sRet (eIf (bVal (eOp oNe (eVar 2) (eLs (aNil)))) (eTup (aCons (eOp oIx (eLs (aCons (eC (.str "caller")) (aCons (eC (.str "loose")) (aNil)))) (eBf bInt (aCons (eOp oEq (eOp oIx (eVar 0) (eOp oIx (eVar 2) (eC (.int 0)))) (eC (.str "loose"))) (aNil)))) (aCons (eOp oIx (eVar 2) (eC (.int 0))) (aNil)))) (eC .non))))
def m_breaks : XF := fnP 3 11 (sSeq (sAsg (eOp oIx (eOp oIx (eVar 0) (eC (.int 1))) (eVar 1)) (gTp [gNm 3, gNm 4])) (sSeq (sAsg (eVar 2) (gTp [gNm 5, gNm 6, gNm 7])) (sSeq (sAsg (eOp oIx (eVar 4) (eVar 5)) (gNm 8)) (sSeq (sIf (bVal (eOp oIn (eOp oIx (eVar 8) (eC (.int 0))) (eTup (aCons (eC (.str "add")) (aCons (eC (.str "take")) (aNil)))))) (sRet (eCall (m_not_good) (aCons (eVar 6) (aCons (eCut (eVar 8) (some (eC (.int 2))) (none)) (aNil))))) (sNil)) (sSeq (sIf (bVal (eOp oIn (eOp oIx (eVar 8) (eC (.int 0))) (eTup (aCons (eC (.str "say")) (aCons (eC (.str "zero")) (aNil)))))) (sRet (eCall (m_not_good) (aCons (eVar 6) (aCons (eLs (aCons (eOp oIx (eVar 8) (eC (.int 1))) (aNil))) (aNil))))) (sNil)) (sSeq (sIf (bVal (eOp oEq (eOp oIx (eVar 8) (eC (.int 0))) (eC (.str "call")))) (sRet (eCall (m_not_good) (aCons (eVar 6) (aCons (eOp oIx (eOp oIx (eOp oIx (eVar 0) (eC (.int 0))) (eOp oIx (eOp oIx (eOp oIx (eVar 0) (eC (.int 1))) (eOp oIx (eVar 8) (eC (.int 1)))) (eC (.int 0)))) (eC (.int 0))) (aNil))))) (sNil)) (sSeq (sIf (bAnd (bVal (eOp oIn (eOp oIx (eVar 8) (eC (.int 0))) (eTup (aCons (eC (.str "move")) (aCons (eC (.str "push")) (aNil)))))) (bVal (eOp oEq (eOp oIx (eVar 6) (eOp oIx (eVar 8) (eUn oNeg (eC (.int 1))))) (eC (.str "loose"))))) (sRet (eTup (aCons (eC (.str "loose")) (aCons (eOp oIx (eVar 8) (eUn oNeg (eC (.int 1)))) (aNil))))) (sNil)) (sSeq (sIf (bVal (eOp oEq (eOp oIx (eVar 8) (eC (.int 0))) (eC (.str "push")))) (sRet (eIf (bVal (eOp oGt (eBf bLen (aCons (eVar 7) (aNil))) (eC (.int 7)))) (eTup (aCons (eC (.str "deep")) (aCons (eOp oIx (eVar 8) (eC (.int 1))) (aNil)))) (eC .non))) (sNil)) (sSeq (sIf (bVal (eOp oEq (eOp oIx (eVar 8) (eC (.int 0))) (eC (.str "pop")))) (sRet (eIf (bVal (eOp oEq (eBf bLen (aCons (eVar 7) (aNil))) (eC (.int 0)))) (eTup (aCons (eC (.str "pile")) (aCons (eOp oIx (eVar 8) (eC (.int 1))) (aNil)))) (eC .non))) (sNil)) (sSeq (sIf (bVal (eOp oNe (eOp oIx (eVar 8) (eC (.int 0))) (eC (.str "back")))) (sRet (eC .non)) (sNil)) (sSeq (sIf (bVal (eOp oGt (eBf bLen (aCons (eVar 7) (aNil))) (eC (.int 0)))) (sRet (eTup (aCons (eC (.str "pile")) (aCons (eUn oNeg (eC (.int 1))) (aNil))))) (sNil)) (sSeq (sAsg (eLc (iSeq (eOp oIx (eOp oIx (eOp oIx (eVar 0) (eC (.int 0))) (eVar 3)) (eC (.int 2)))) (gNm 10) (bVal (eOp oNe (eOp oIx (eVar 6) (eVar 10)) (eBf bStr (aCons (eVar 10) (aNil))))) (eVar 10) [10]) (gNm 9)) (sRet (eIf (bVal (eOp oNe (eVar 9) (eLs (aNil)))) (eTup (aCons (eC (.str "kept")) (aCons (eOp oIx (eVar 9) (eC (.int 0))) (aNil)))) (eCall (m_not_good) (aCons (eVar 6) (aCons (eLs (aCons (eOp oIx (eOp oIx (eOp oIx (eVar 0) (eC (.int 0))) (eVar 3)) (eC (.int 1))) (aNil))) (aNil))))))))))))))))))
def m_nexts : XF := fnP 3 13 (sSeq (sAsg (eVar 2) (gTp [gNm 3, gNm 4, gNm 5])) (sSeq (sAsg (eOp oIx (eOp oIx (eOp oIx (eOp oIx (eVar 0) (eC (.int 1))) (eVar 1)) (eC (.int 1))) (eVar 3)) (gNm 6)) (sSeq (sAsg (eBf bListN (aCons (eVar 4) (aNil))) (gNm 4)) (sSeq (sIf (bVal (eOp oEq (eOp oIx (eVar 6) (eC (.int 0))) (eC (.str "back")))) (sRet (eLs (aNil))) (sNil)) (sSeq (sIf (bVal (eOp oEq (eOp oIx (eVar 6) (eC (.int 0))) (eC (.str "call")))) (sSeq (sAsg (eOp oIx (eOp oIx (eVar 0) (eC (.int 0))) (eOp oIx (eOp oIx (eOp oIx (eVar 0) (eC (.int 1))) (eOp oIx (eVar 6) (eC (.int 1)))) (eC (.int 0)))) (gTp [gNm 7, gNm 8, gNm 9])) (sSeq (sAsg (eLcN (iRng (eC (.int 6))) (gNm 10) (bYes) (eIf (bVal (eOp oIn (eVar 10) (eVar 9))) (eOp oIx (eVar 4) (eVar 10)) (eC (.str "loose"))) [10]) (gNm 4)) (sAsg (eC (.str "good")) (gSb (eVar 4) (eVar 8))))) (sIf (bVal (eOp oEq (eOp oIx (eVar 6) (eC (.int 0))) (eC (.str "push")))) (sAsg (eOp oAdd (eVar 5) (eTup (aCons (eOp oIx (eVar 4) (eOp oIx (eVar 6) (eC (.int 1)))) (aNil)))) (gNm 5)) (sIf (bVal (eOp oEq (eOp oIx (eVar 6) (eC (.int 0))) (eC (.str "pop")))) (sSeq (sAsg (eOp oIx (eVar 5) (eUn oNeg (eC (.int 1)))) (gSb (eVar 4) (eOp oIx (eVar 6) (eC (.int 1))))) (sAsg (eCut (eVar 5) (none) (some (eUn oNeg (eC (.int 1))))) (gNm 5))) (sIf (bVal (eOp oIn (eOp oIx (eVar 6) (eC (.int 0))) (eTup (aCons (eC (.str "put")) (aCons (eC (.str "add")) (aCons (eC (.str "take")) (aCons (eC (.str "move")) (aNil)))))))) (sAsg (eIf (bVal (eOp oEq (eOp oIx (eVar 6) (eC (.int 0))) (eC (.str "move")))) (eOp oIx (eVar 4) (eOp oIx (eVar 6) (eC (.int 2)))) (eC (.str "good"))) (gSb (eVar 4) (eOp oIx (eVar 6) (eC (.int 1))))) (sNil))))) (sSeq (sAsg (eGet2 (eDc ["go", "zero"] (aCons (eLs (aCons (eOp oIx (eVar 6) (eUn oNeg (eC (.int 1)))) (aNil))) (aCons (eSortSet (eLs (aCons (eOp oAdd (eVar 3) (eC (.int 1))) (aCons (eOp oIx (eVar 6) (eUn oNeg (eC (.int 1)))) (aNil))))) (aNil)))) (eOp oIx (eVar 6) (eC (.int 0))) (eLs (aCons (eOp oAdd (eVar 3) (eC (.int 1))) (aNil)))) (gNm 11)) (sRet (eLc (iSeq (eVar 11)) (gNm 12) (bYes) (eTup (aCons (eVar 12) (aCons (eBf bTuple (aCons (eVar 4) (aNil))) (aCons (eVar 5) (aNil))))) [12]))))))))
def m_look_ : XF := fnK 2 10 (sSeq (sAsg (eCall (m_first) (aCons (eVar 0) (aCons (eVar 1) (aNil)))) (gNm 2)) (sSeq (sAsg (eDn (eVar 2) (eC (.bl true))) (gNm 3)) (sSeq (sAsg (eLs (aCons (eTup (aCons (eLs (aNil)) (aCons (eVar 2) (aNil)))) (aNil))) (gNm 4)) (sSeq (sWhile (bVal (eOp oNe (eVar 4) (eLs (aNil)))) (sSeq (sAsg (eNew (aNil)) (gNm 5)) (sSeq (sFor (iSeq (eVar 4)) (gTp [gNm 6, gNm 7]) (sSeq (sAsg (eCall (m_breaks) (aCons (eVar 0) (aCons (eVar 1) (aCons (eVar 7) (aNil))))) (gNm 8)) (sSeq (sIf (bVal (eOp oNotN (eVar 8) (eC .non))) (sRet (eTup (aCons (eOp oAdd (eTup (aCons (eOp oAdd (eVar 6) (eLs (aCons (eOp oIx (eVar 7) (eC (.int 0))) (aNil)))) (aNil))) (eVar 8)) (aCons (eVar 3) (aNil))))) (sNil)) (sFor (iSeq (eCall (m_nexts) (aCons (eVar 0) (aCons (eVar 1) (aCons (eVar 7) (aNil)))))) (gNm 9) (sIf (bVal (eOp oNotInD (eVar 9) (eVar 3))) (sSeq (sAsg (eC (.bl true)) (gSbD (eVar 3) (eVar 9))) (sDrop (eMeth1 mAppend (eVar 5) (eTup (aCons (eOp oAdd (eVar 6) (eLs (aCons (eOp oIx (eVar 7) (eC (.int 0))) (aNil)))) (aCons (eVar 9) (aNil))))))) (sNil)))))) (sSeq (sIf (bVal (eOp oGt (eBf bLenD (aCons (eVar 3) (aNil))) (eC (.int 250)))) (sRet (eTup (aCons (eC (.str "many")) (aCons (eVar 3) (aNil))))) (sNil)) (sAsg (eVar 5) (gNm 4)))))) (sRet (eTup (aCons (eC .non) (aCons (eVar 3) (aNil)))))))))
def m_walked : XF := fnP 3 8 (sSeq (sAsg (eCall (m_first) (aCons (eVar 0) (aCons (eVar 1) (aNil)))) (gNm 3)) (sSeq (sFor (iRng (eBf bLen (aCons (eVar 2) (aNil)))) (gNm 4) (sSeq (sAsg (eCall (m_breaks) (aCons (eVar 0) (aCons (eVar 1) (aCons (eVar 3) (aNil))))) (gNm 5)) (sSeq (sIf (bOr (bVal (eOp oNe (eOp oIx (eVar 3) (eC (.int 0))) (eOp oIx (eVar 2) (eVar 4)))) (bVal (eOp oNe (eOp oNotN (eVar 5) (eC .non)) (eOp oEq (eVar 4) (eOp oSub (eBf bLen (aCons (eVar 2) (aNil))) (eC (.int 1))))))) (sRet (eTup (aCons (eC (.bl false)) (aCons (eVar 5) (aNil))))) (sNil)) (sSeq (sIf (bVal (eOp oNotN (eVar 5) (eC .non))) (sRet (eTup (aCons (eC (.bl true)) (aCons (eVar 5) (aNil))))) (sNil)) (sSeq (sAsg (eLc (iSeq (eCall (m_nexts) (aCons (eVar 0) (aCons (eVar 1) (aCons (eVar 3) (aNil)))))) (gNm 7) (bVal (eOp oEq (eOp oIx (eVar 7) (eC (.int 0))) (eOp oIx (eOp oAdd (eVar 2) (eLs (aCons (eUn oNeg (eC (.int 1))) (aNil)))) (eOp oAdd (eVar 4) (eC (.int 1)))))) (eVar 7) [7]) (gNm 6)) (sSeq (sIf (bVal (eOp oEq (eVar 6) (eLs (aNil)))) (sRet (eTup (aCons (eC (.bl false)) (aCons (eC .non) (aNil))))) (sNil)) (sAsg (eOp oIx (eVar 6) (eC (.int 0))) (gNm 3)))))))) (sRet (eTup (aCons (eC (.bl false)) (aCons (eC .non) (aNil)))))))
def m_shorter : XF := fnK 3 7 (sSeq (sAsg (eLs (aCons (eCall (m_first) (aCons (eVar 0) (aCons (eVar 1) (aNil)))) (aNil))) (gNm 3)) (sSeq (sFor (iRng (eOp oSub (eVar 2) (eC (.int 1)))) (gNm 4) (sSeq (sAsg (eNew (aNil)) (gNm 5)) (sSeq (sFor (iSeq (eVar 3)) (gNm 6) (sSeq (sIf (bVal (eOp oNotN (eCall (m_breaks) (aCons (eVar 0) (aCons (eVar 1) (aCons (eVar 6) (aNil))))) (eC .non))) (sRet (eC (.bl true))) (sNil)) (sDrop (eMeth1 mExtend (eVar 5) (eCall (m_nexts) (aCons (eVar 0) (aCons (eVar 1) (aCons (eVar 6) (aNil))))))))) (sAsg (eSortSetN (eVar 5)) (gNm 3))))) (sRet (eC (.bl false)))))
def m_law : XF := fnK 1 9 (sSeq (sAsg (eCall (m_mix) (aCons (eVar 0) (aCons (eC (.int 7)) (aNil)))) (gNm 1)) (sSeq (sFor (iRng (eC (.int 5))) (gNm 2) (sSeq (sAsg (eCall (m_any) (aCons (eVar 1) (aNil))) (gNm 3)) (sFor (iRng (eBf bLen (aCons (eOp oIx (eVar 3) (eC (.int 1))) (aNil)))) (gNm 4) (sSeq (sIf (bVal (eOp oEq (eOp oIx (eCall (m_look_) (aCons (eVar 3) (aCons (eVar 4) (aNil)))) (eC (.int 0))) (eC (.str "many")))) (sCont) (sNil)) (sSeq (sAsg (eCall (m_look) (aCons (eVar 3) (aCons (eVar 4) (aNil)))) (gNm 5)) (sIf (bVal (eOp oNotN (eVar 5) (eC .non))) (sSeq (sAsg (eVar 5) (gTp [gNm 6, gNm 7, gNm 8])) (sIf (bOr (bVal (eOp oNe (eCall (m_walked) (aCons (eVar 3) (aCons (eVar 4) (aCons (eVar 6) (aNil))))) (eTup (aCons (eC (.bl true)) (aCons (eTup (aCons (eVar 7) (aCons (eVar 8) (aNil)))) (aNil)))))) (bVal (eCall (m_shorter) (aCons (eVar 3) (aCons (eVar 4) (aCons (eBf bLen (aCons (eVar 6) (aNil))) (aNil))))))) (sRet (eC (.bl false))) (sNil))) (sNil))))))) (sRet (eC (.bl true)))))
end

/-! Gk03 -/
/-! .. and that the text does it; written by gen.py -/
section
open PySem PySem.Spec PyProof.Rows L2
structure Top (w : World) (K : PySem.W.Frag) (mg : Str → Option Value) : Prop where
  ns : ∃ h : Heap, K.In h ∧ h.Ns mainGlobals mg ∧ He.SaysX fal fnl tbl [] exB w h K
section
variable {w : World} {K : PySem.W.Frag} {mg : Str → Option Value}
theorem Top.c (T : Top w K mg) : He.SaysD fal fnl K := by obtain ⟨h, X, G, c⟩ := T.ns; exact c.t.d
theorem t_all (T : Top w K mg) : mg "all" = none := by obtain ⟨h, X, G, _⟩ := T.ns; exact He.free_ok X G (T.c.fact 0 (f := .free "all") rfl)
theorem t_any (T : Top w K mg) : mg "any" = none := by obtain ⟨h, X, G, _⟩ := T.ns; exact He.free_ok X G (T.c.fact 1 (f := .free "any") rfl)
theorem t_bool (T : Top w K mg) : mg "bool" = none := by obtain ⟨h, X, G, _⟩ := T.ns; exact He.free_ok X G (T.c.fact 2 (f := .free "bool") rfl)
theorem t_enumerate (T : Top w K mg) : mg "enumerate" = none := by obtain ⟨h, X, G, _⟩ := T.ns; exact He.free_ok X G (T.c.fact 3 (f := .free "enumerate") rfl)
theorem t_int (T : Top w K mg) : mg "int" = none := by obtain ⟨h, X, G, _⟩ := T.ns; exact He.free_ok X G (T.c.fact 4 (f := .free "int") rfl)
theorem t_isinstance (T : Top w K mg) : mg "isinstance" = none := by obtain ⟨h, X, G, _⟩ := T.ns; exact He.free_ok X G (T.c.fact 5 (f := .free "isinstance") rfl)
theorem t_len (T : Top w K mg) : mg "len" = none := by obtain ⟨h, X, G, _⟩ := T.ns; exact He.free_ok X G (T.c.fact 6 (f := .free "len") rfl)
theorem t_list (T : Top w K mg) : mg "list" = none := by obtain ⟨h, X, G, _⟩ := T.ns; exact He.free_ok X G (T.c.fact 7 (f := .free "list") rfl)
theorem t_max (T : Top w K mg) : mg "max" = none := by obtain ⟨h, X, G, _⟩ := T.ns; exact He.free_ok X G (T.c.fact 8 (f := .free "max") rfl)
theorem t_min (T : Top w K mg) : mg "min" = none := by obtain ⟨h, X, G, _⟩ := T.ns; exact He.free_ok X G (T.c.fact 9 (f := .free "min") rfl)
theorem t_range (T : Top w K mg) : mg "range" = none := by obtain ⟨h, X, G, _⟩ := T.ns; exact He.free_ok X G (T.c.fact 10 (f := .free "range") rfl)
theorem t_reversed (T : Top w K mg) : mg "reversed" = none := by obtain ⟨h, X, G, _⟩ := T.ns; exact He.free_ok X G (T.c.fact 11 (f := .free "reversed") rfl)
theorem t_set (T : Top w K mg) : mg "set" = none := by obtain ⟨h, X, G, _⟩ := T.ns; exact He.free_ok X G (T.c.fact 12 (f := .free "set") rfl)
theorem t_sorted (T : Top w K mg) : mg "sorted" = none := by obtain ⟨h, X, G, _⟩ := T.ns; exact He.free_ok X G (T.c.fact 13 (f := .free "sorted") rfl)
theorem t_str (T : Top w K mg) : mg "str" = none := by obtain ⟨h, X, G, _⟩ := T.ns; exact He.free_ok X G (T.c.fact 14 (f := .free "str") rfl)
theorem t_tuple (T : Top w K mg) : mg "tuple" = none := by obtain ⟨h, X, G, _⟩ := T.ns; exact He.free_ok X G (T.c.fact 15 (f := .free "tuple") rfl)
theorem t_zip (T : Top w K mg) : mg "zip" = none := by obtain ⟨h, X, G, _⟩ := T.ns; exact He.free_ok X G (T.c.fact 16 (f := .free "zip") rfl)
theorem t_GOOD (T : Top w K mg) : ∃ t, mg "GOOD" = some (.str "good" t) := by obtain ⟨h, X, G, _⟩ := T.ns; exact He.str_ok X G (T.c.fact 18 (f := .str "GOOD" "good") rfl)
theorem t_LOOSE (T : Top w K mg) : ∃ t, mg "LOOSE" = some (.str "loose" t) := by obtain ⟨h, X, G, _⟩ := T.ns; exact He.str_ok X G (T.c.fact 19 (f := .str "LOOSE" "loose") rfl)
theorem t_BOXES (T : Top w K mg) : ∃ t, mg "BOXES" = some (.int 6 t) := by obtain ⟨h, X, G, _⟩ := T.ns; exact He.int_ok X G (T.c.fact 20 (f := .int "BOXES" 6) rfl)
theorem t_DEEPEST (T : Top w K mg) : ∃ t, mg "DEEPEST" = some (.int 8 t) := by obtain ⟨h, X, G, _⟩ := T.ns; exact He.int_ok X G (T.c.fact 21 (f := .int "DEEPEST" 8) rfl)
theorem t_MOST_HOUSES (T : Top w K mg) : ∃ t, mg "MOST_HOUSES" = some (.int 3 t) := by obtain ⟨h, X, G, _⟩ := T.ns; exact He.int_ok X G (T.c.fact 22 (f := .int "MOST_HOUSES" 3) rfl)
theorem t_MOST_ROUTINES (T : Top w K mg) : ∃ t, mg "MOST_ROUTINES" = some (.int 6 t) := by obtain ⟨h, X, G, _⟩ := T.ns; exact He.int_ok X G (T.c.fact 23 (f := .int "MOST_ROUTINES" 6) rfl)
theorem t_MOST_ROWS (T : Top w K mg) : ∃ t, mg "MOST_ROWS" = some (.int 32 t) := by obtain ⟨h, X, G, _⟩ := T.ns; exact He.int_ok X G (T.c.fact 24 (f := .int "MOST_ROWS" 32) rfl)
theorem t_MOST_STATES (T : Top w K mg) : ∃ t, mg "MOST_STATES" = some (.int 250 t) := by obtain ⟨h, X, G, _⟩ := T.ns; exact He.int_ok X G (T.c.fact 25 (f := .int "MOST_STATES" 250) rfl)
theorem t_NUMBERS (T : Top w K mg) : ∃ t, mg "NUMBERS" = some (.int 1000 t) := by obtain ⟨h, X, G, _⟩ := T.ns; exact He.int_ok X G (T.c.fact 26 (f := .int "NUMBERS" 1000) rfl)
theorem t_glo_is_tuple_of (T : Top w K mg) : mg "is_tuple_of" = some (.ref (He.ga K "is_tuple_of")) := by obtain ⟨h, X, G, _⟩ := T.ns; exact He.glo_ok X G (T.c.fact 29 (f := .glo "is_tuple_of") rfl)
theorem t_glo_is_below (T : Top w K mg) : mg "is_below" = some (.ref (He.ga K "is_below")) := by obtain ⟨h, X, G, _⟩ := T.ns; exact He.glo_ok X G (T.c.fact 30 (f := .glo "is_below") rfl)
theorem t_glo_are_rising_boxes (T : Top w K mg) : mg "are_rising_boxes" = some (.ref (He.ga K "are_rising_boxes")) := by obtain ⟨h, X, G, _⟩ := T.ns; exact He.glo_ok X G (T.c.fact 31 (f := .glo "are_rising_boxes") rfl)
theorem t_glo_is_house (T : Top w K mg) : mg "is_house" = some (.ref (He.ga K "is_house")) := by obtain ⟨h, X, G, _⟩ := T.ns; exact He.glo_ok X G (T.c.fact 32 (f := .glo "is_house") rfl)
theorem t_glo_check_houses (T : Top w K mg) : mg "check_houses" = some (.ref (He.ga K "check_houses")) := by obtain ⟨h, X, G, _⟩ := T.ns; exact He.glo_ok X G (T.c.fact 33 (f := .glo "check_houses") rfl)
theorem t_glo_is_row (T : Top w K mg) : mg "is_row" = some (.ref (He.ga K "is_row")) := by obtain ⟨h, X, G, _⟩ := T.ns; exact He.glo_ok X G (T.c.fact 34 (f := .glo "is_row") rfl)
theorem t_glo_check_rows (T : Top w K mg) : mg "check_rows" = some (.ref (He.ga K "check_rows")) := by obtain ⟨h, X, G, _⟩ := T.ns; exact He.glo_ok X G (T.c.fact 35 (f := .glo "check_rows") rfl)
theorem t_glo_check_routines (T : Top w K mg) : mg "check_routines" = some (.ref (He.ga K "check_routines")) := by obtain ⟨h, X, G, _⟩ := T.ns; exact He.glo_ok X G (T.c.fact 36 (f := .glo "check_routines") rfl)
theorem t_glo_check_program (T : Top w K mg) : mg "check_program" = some (.ref (He.ga K "check_program")) := by obtain ⟨h, X, G, _⟩ := T.ns; exact He.glo_ok X G (T.c.fact 37 (f := .glo "check_program") rfl)
theorem t_glo_check_number (T : Top w K mg) : mg "check_number" = some (.ref (He.ga K "check_number")) := by obtain ⟨h, X, G, _⟩ := T.ns; exact He.glo_ok X G (T.c.fact 38 (f := .glo "check_number") rfl)
theorem t_glo_house_of (T : Top w K mg) : mg "house_of" = some (.ref (He.ga K "house_of")) := by obtain ⟨h, X, G, _⟩ := T.ns; exact He.glo_ok X G (T.c.fact 39 (f := .glo "house_of") rfl)
theorem t_glo_first_state (T : Top w K mg) : mg "first_state" = some (.ref (He.ga K "first_state")) := by obtain ⟨h, X, G, _⟩ := T.ns; exact He.glo_ok X G (T.c.fact 40 (f := .glo "first_state") rfl)
theorem t_glo_rows_of (T : Top w K mg) : mg "rows_of" = some (.ref (He.ga K "rows_of")) := by obtain ⟨h, X, G, _⟩ := T.ns; exact He.glo_ok X G (T.c.fact 41 (f := .glo "rows_of") rfl)
theorem t_glo_looked_at (T : Top w K mg) : mg "looked_at" = some (.ref (He.ga K "looked_at")) := by obtain ⟨h, X, G, _⟩ := T.ns; exact He.glo_ok X G (T.c.fact 42 (f := .glo "looked_at") rfl)
theorem t_glo_first_unfit (T : Top w K mg) : mg "first_unfit" = some (.ref (He.ga K "first_unfit")) := by obtain ⟨h, X, G, _⟩ := T.ns; exact He.glo_ok X G (T.c.fact 43 (f := .glo "first_unfit") rfl)
theorem t_glo_break_of_back (T : Top w K mg) : mg "break_of_back" = some (.ref (He.ga K "break_of_back")) := by obtain ⟨h, X, G, _⟩ := T.ns; exact He.glo_ok X G (T.c.fact 44 (f := .glo "break_of_back") rfl)
theorem t_glo_break_of (T : Top w K mg) : mg "break_of" = some (.ref (He.ga K "break_of")) := by obtain ⟨h, X, G, _⟩ := T.ns; exact He.glo_ok X G (T.c.fact 45 (f := .glo "break_of") rfl)
theorem t_glo_first_break (T : Top w K mg) : mg "first_break" = some (.ref (He.ga K "first_break")) := by obtain ⟨h, X, G, _⟩ := T.ns; exact He.glo_ok X G (T.c.fact 46 (f := .glo "first_break") rfl)
theorem t_glo_boxes_behind_call (T : Top w K mg) : mg "boxes_behind_call" = some (.ref (He.ga K "boxes_behind_call")) := by obtain ⟨h, X, G, _⟩ := T.ns; exact He.glo_ok X G (T.c.fact 47 (f := .glo "boxes_behind_call") rfl)
theorem t_glo_next_rows (T : Top w K mg) : mg "next_rows" = some (.ref (He.ga K "next_rows")) := by obtain ⟨h, X, G, _⟩ := T.ns; exact He.glo_ok X G (T.c.fact 48 (f := .glo "next_rows") rfl)
theorem t_glo_come_of (T : Top w K mg) : mg "come_of" = some (.ref (He.ga K "come_of")) := by obtain ⟨h, X, G, _⟩ := T.ns; exact He.glo_ok X G (T.c.fact 49 (f := .glo "come_of") rfl)
theorem t_glo_next_level (T : Top w K mg) : mg "next_level" = some (.ref (He.ga K "next_level")) := by obtain ⟨h, X, G, _⟩ := T.ns; exact He.glo_ok X G (T.c.fact 50 (f := .glo "next_level") rfl)
theorem t_glo_survey (T : Top w K mg) : mg "survey" = some (.ref (He.ga K "survey")) := by obtain ⟨h, X, G, _⟩ := T.ns; exact He.glo_ok X G (T.c.fact 51 (f := .glo "survey") rfl)
theorem t_glo_way_to (T : Top w K mg) : mg "way_to" = some (.ref (He.ga K "way_to")) := by obtain ⟨h, X, G, _⟩ := T.ns; exact He.glo_ok X G (T.c.fact 52 (f := .glo "way_to") rfl)
theorem t_glo_look_at (T : Top w K mg) : mg "look_at" = some (.ref (He.ga K "look_at")) := by obtain ⟨h, X, G, _⟩ := T.ns; exact He.glo_ok X G (T.c.fact 53 (f := .glo "look_at") rfl)
theorem t_glo_look (T : Top w K mg) : mg "look" = some (.ref (He.ga K "look")) := by obtain ⟨h, X, G, _⟩ := T.ns; exact He.glo_ok X G (T.c.fact 54 (f := .glo "look") rfl)
theorem t_glo_mix (T : Top w K mg) : mg "_law_mix" = some (.ref (He.ga K "_law_mix")) := by obtain ⟨h, X, G, _⟩ := T.ns; exact He.glo_ok X G (T.c.fact 55 (f := .glo "_law_mix") rfl)
theorem t_glo_next (T : Top w K mg) : mg "_law_next" = some (.ref (He.ga K "_law_next")) := by obtain ⟨h, X, G, _⟩ := T.ns; exact He.glo_ok X G (T.c.fact 56 (f := .glo "_law_next") rfl)
theorem t_glo_house (T : Top w K mg) : mg "_law_house" = some (.ref (He.ga K "_law_house")) := by obtain ⟨h, X, G, _⟩ := T.ns; exact He.glo_ok X G (T.c.fact 57 (f := .glo "_law_house") rfl)
theorem t_glo_number (T : Top w K mg) : mg "_law_number" = some (.ref (He.ga K "_law_number")) := by obtain ⟨h, X, G, _⟩ := T.ns; exact He.glo_ok X G (T.c.fact 58 (f := .glo "_law_number") rfl)
theorem t_glo_simple (T : Top w K mg) : mg "_law_simple" = some (.ref (He.ga K "_law_simple")) := by obtain ⟨h, X, G, _⟩ := T.ns; exact He.glo_ok X G (T.c.fact 59 (f := .glo "_law_simple") rfl)
theorem t_glo_calling (T : Top w K mg) : mg "_law_calling" = some (.ref (He.ga K "_law_calling")) := by obtain ⟨h, X, G, _⟩ := T.ns; exact He.glo_ok X G (T.c.fact 60 (f := .glo "_law_calling") rfl)
theorem t_glo_zeroed (T : Top w K mg) : mg "_law_zeroed" = some (.ref (He.ga K "_law_zeroed")) := by obtain ⟨h, X, G, _⟩ := T.ns; exact He.glo_ok X G (T.c.fact 61 (f := .glo "_law_zeroed") rfl)
theorem t_glo_kept (T : Top w K mg) : mg "_law_kept" = some (.ref (He.ga K "_law_kept")) := by obtain ⟨h, X, G, _⟩ := T.ns; exact He.glo_ok X G (T.c.fact 62 (f := .glo "_law_kept") rfl)
theorem t_glo_program (T : Top w K mg) : mg "_law_program" = some (.ref (He.ga K "_law_program")) := by obtain ⟨h, X, G, _⟩ := T.ns; exact He.glo_ok X G (T.c.fact 63 (f := .glo "_law_program") rfl)
theorem t_glo_wild_row (T : Top w K mg) : mg "_law_wild_row" = some (.ref (He.ga K "_law_wild_row")) := by obtain ⟨h, X, G, _⟩ := T.ns; exact He.glo_ok X G (T.c.fact 64 (f := .glo "_law_wild_row") rfl)
theorem t_glo_odd (T : Top w K mg) : mg "_law_odd" = some (.ref (He.ga K "_law_odd")) := by obtain ⟨h, X, G, _⟩ := T.ns; exact He.glo_ok X G (T.c.fact 65 (f := .glo "_law_odd") rfl)
theorem t_glo_wild (T : Top w K mg) : mg "_law_wild" = some (.ref (He.ga K "_law_wild")) := by obtain ⟨h, X, G, _⟩ := T.ns; exact He.glo_ok X G (T.c.fact 66 (f := .glo "_law_wild") rfl)
theorem t_glo_any (T : Top w K mg) : mg "_law_any" = some (.ref (He.ga K "_law_any")) := by obtain ⟨h, X, G, _⟩ := T.ns; exact He.glo_ok X G (T.c.fact 67 (f := .glo "_law_any") rfl)
theorem t_glo_first (T : Top w K mg) : mg "_law_first" = some (.ref (He.ga K "_law_first")) := by obtain ⟨h, X, G, _⟩ := T.ns; exact He.glo_ok X G (T.c.fact 68 (f := .glo "_law_first") rfl)
theorem t_glo_not_good (T : Top w K mg) : mg "_law_not_good" = some (.ref (He.ga K "_law_not_good")) := by obtain ⟨h, X, G, _⟩ := T.ns; exact He.glo_ok X G (T.c.fact 69 (f := .glo "_law_not_good") rfl)
theorem t_glo_breaks (T : Top w K mg) : mg "_law_breaks" = some (.ref (He.ga K "_law_breaks")) := by obtain ⟨h, X, G, _⟩ := T.ns; exact He.glo_ok X G (T.c.fact 70 (f := .glo "_law_breaks") rfl)
theorem t_glo_nexts (T : Top w K mg) : mg "_law_nexts" = some (.ref (He.ga K "_law_nexts")) := by obtain ⟨h, X, G, _⟩ := T.ns; exact He.glo_ok X G (T.c.fact 71 (f := .glo "_law_nexts") rfl)
theorem t_glo_look_ (T : Top w K mg) : mg "_law_look" = some (.ref (He.ga K "_law_look")) := by obtain ⟨h, X, G, _⟩ := T.ns; exact He.glo_ok X G (T.c.fact 72 (f := .glo "_law_look") rfl)
theorem t_glo_walked (T : Top w K mg) : mg "_law_walked" = some (.ref (He.ga K "_law_walked")) := by obtain ⟨h, X, G, _⟩ := T.ns; exact He.glo_ok X G (T.c.fact 73 (f := .glo "_law_walked") rfl)
theorem t_glo_shorter (T : Top w K mg) : mg "_law_shorter" = some (.ref (He.ga K "_law_shorter")) := by obtain ⟨h, X, G, _⟩ := T.ns; exact He.glo_ok X G (T.c.fact 74 (f := .glo "_law_shorter") rfl)
theorem t_glo_law (T : Top w K mg) : mg "law" = some (.ref (He.ga K "law")) := by obtain ⟨h, X, G, _⟩ := T.ns; exact He.glo_ok X G (T.c.fact 75 (f := .glo "law") rfl)
theorem t_PLACES (T : Top w K mg) : ∃ a es n, mg "PLACES" = some (.ref a) ∧ KDict K w a es n ∧ Tab K es K_PLACES V_PLACES := by
  obtain ⟨h, X, G, c⟩ := T.ns
  obtain ⟨es, n, D⟩ := c.t.tab 0 (t := (fun K => He.ga K "PLACES", K_PLACES)) rfl
  have e := c.more
  unfold exB at e
  exact ⟨_, es, n, He.glo_ok X G (T.c.fact 17 (f := .glo "PLACES") rfl), D, dictP_ok D e⟩
theorem t_glo_TooMany (T : Top w K mg) : mg "TooMany" = some (.ref (He.ga K "TooMany")) := by obtain ⟨h, X, G, _⟩ := T.ns; exact He.glo_ok X G (T.c.fact 27 (f := .glo "TooMany") rfl)
theorem own_TooMany (T : Top w K mg) : Own K (xcK K) "TooMany" (He.ga K "TooMany") := let ⟨h1, h2, h3, h4⟩ := He.exc_ok (T.c.fact 28 (f := .exc "TooMany") rfl); ⟨h1, h2, h3, h4, rfl⟩
end
abbrev N_is_tuple_of : List Str := ["value", "least", "most"]
theorem sc_is_tuple_of : FnScope N_is_tuple_of ["value", "least", "most"] (defScope s_is_tuple_of) := ⟨rfl, rfl, rfl, by decide +kernel, rfl, by decide +kernel, by decide +kernel⟩
abbrev N_is_below : List Str := ["value", "limit"]
theorem sc_is_below : FnScope N_is_below ["value", "limit"] (defScope s_is_below) := ⟨rfl, rfl, rfl, by decide +kernel, rfl, by decide +kernel, by decide +kernel⟩
abbrev N_are_rising_boxes : List Str := ["value", "box", "low", "high"]
theorem sc_are_rising_boxes : FnScope N_are_rising_boxes ["value"] (defScope s_are_rising_boxes) := ⟨rfl, rfl, rfl, by decide +kernel, rfl, by decide +kernel, by decide +kernel⟩
abbrev N_is_house : List Str := ["house", "ins", "out", "kept", "box"]
theorem sc_is_house : FnScope N_is_house ["house"] (defScope s_is_house) := ⟨rfl, rfl, rfl, by decide +kernel, rfl, by decide +kernel, by decide +kernel⟩
abbrev N_check_houses : List Str := ["houses", "number", "house"]
theorem sc_check_houses : FnScope N_check_houses ["houses"] (defScope s_check_houses) := ⟨rfl, rfl, rfl, by decide +kernel, rfl, by decide +kernel, by decide +kernel⟩
abbrev N_is_row : List Str := ["row", "limits", "places", "value", "place"]
theorem sc_is_row : FnScope N_is_row ["row", "limits"] (defScope s_is_row) := ⟨rfl, rfl, rfl, by decide +kernel, rfl, by decide +kernel, by decide +kernel⟩
abbrev N_check_rows : List Str := ["rows", "number", "many_routines", "limits", "at", "row"]
theorem sc_check_rows : FnScope N_check_rows ["rows", "number", "many_routines"] (defScope s_check_rows) := ⟨rfl, rfl, rfl, by decide +kernel, rfl, by decide +kernel, by decide +kernel⟩
abbrev N_check_routines : List Str := ["routines", "many_houses", "number", "routine", "house", "rows"]
theorem sc_check_routines : FnScope N_check_routines ["routines", "many_houses"] (defScope s_check_routines) := ⟨rfl, rfl, rfl, by decide +kernel, rfl, by decide +kernel, by decide +kernel⟩
abbrev N_check_program : List Str := ["program", "houses", "routines"]
theorem sc_check_program : FnScope N_check_program ["program"] (defScope s_check_program) := ⟨rfl, rfl, rfl, by decide +kernel, rfl, by decide +kernel, by decide +kernel⟩
abbrev N_check_number : List Str := ["program", "routine", "_", "routines"]
theorem sc_check_number : FnScope N_check_number ["program", "routine"] (defScope s_check_number) := ⟨rfl, rfl, rfl, by decide +kernel, rfl, by decide +kernel, by decide +kernel⟩
abbrev N_house_of : List Str := ["program", "routine", "houses", "routines", "number", "_"]
theorem sc_house_of : FnScope N_house_of ["program", "routine"] (defScope s_house_of) := ⟨rfl, rfl, rfl, by decide +kernel, rfl, by decide +kernel, by decide +kernel⟩
abbrev N_first_state : List Str := ["house", "ins", "_", "kept", "boxes", "box"]
theorem sc_first_state : FnScope N_first_state ["house"] (defScope s_first_state) := ⟨rfl, rfl, rfl, by decide +kernel, rfl, by decide +kernel, by decide +kernel⟩
abbrev N_rows_of : List Str := ["program", "routine", "_", "routines", "rows"]
theorem sc_rows_of : FnScope N_rows_of ["program", "routine"] (defScope s_rows_of) := ⟨rfl, rfl, rfl, by decide +kernel, rfl, by decide +kernel, by decide +kernel⟩
abbrev N_looked_at : List Str := ["program", "row", "word", "ins", "_"]
theorem sc_looked_at : FnScope N_looked_at ["program", "row"] (defScope s_looked_at) := ⟨rfl, rfl, rfl, by decide +kernel, rfl, by decide +kernel, by decide +kernel⟩
abbrev N_first_unfit : List Str := ["boxes", "wanted", "carries", "box"]
theorem sc_first_unfit : FnScope N_first_unfit ["boxes", "wanted", "carries"] (defScope s_first_unfit) := ⟨rfl, rfl, rfl, by decide +kernel, rfl, by decide +kernel, by decide +kernel⟩
abbrev N_break_of_back : List Str := ["house", "boxes", "pile", "_", "out", "kept", "box"]
theorem sc_break_of_back : FnScope N_break_of_back ["house", "boxes", "pile"] (defScope s_break_of_back) := ⟨rfl, rfl, rfl, by decide +kernel, rfl, by decide +kernel, by decide +kernel⟩
abbrev N_break_of : List Str := ["program", "routine", "state", "number", "boxes", "pile", "row", "word", "unfit"]
theorem sc_break_of : FnScope N_break_of ["program", "routine", "state"] (defScope s_break_of) := ⟨rfl, rfl, rfl, by decide +kernel, rfl, by decide +kernel, by decide +kernel⟩
abbrev N_first_break : List Str := ["program", "routine", "states", "state", "fault", "why", "box"]
theorem sc_first_break : FnScope N_first_break ["program", "routine", "states"] (defScope s_first_break) := ⟨rfl, rfl, rfl, by decide +kernel, rfl, by decide +kernel, by decide +kernel⟩
abbrev N_boxes_behind_call : List Str := ["house", "boxes", "_", "out", "kept", "behind", "box"]
theorem sc_boxes_behind_call : FnScope N_boxes_behind_call ["house", "boxes"] (defScope s_boxes_behind_call) := ⟨rfl, rfl, rfl, by decide +kernel, rfl, by decide +kernel, by decide +kernel⟩
abbrev N_next_rows : List Str := ["row", "number", "word"]
theorem sc_next_rows : FnScope N_next_rows ["row", "number"] (defScope s_next_rows) := ⟨rfl, rfl, rfl, by decide +kernel, rfl, by decide +kernel, by decide +kernel⟩
abbrev N_come_of : List Str := ["program", "routine", "state", "number", "boxes", "pile", "row", "word", "behind", "coming"]
theorem sc_come_of : FnScope N_come_of ["program", "routine", "state"] (defScope s_come_of) := ⟨rfl, rfl, rfl, by decide +kernel, rfl, by decide +kernel, by decide +kernel⟩
abbrev N_next_level : List Str := ["program", "routine", "level", "origins", "found", "state", "coming"]
theorem sc_next_level : FnScope N_next_level ["program", "routine", "level", "origins"] (defScope s_next_level) := ⟨rfl, rfl, rfl, by decide +kernel, rfl, by decide +kernel, by decide +kernel⟩
abbrev N_survey : List Str := ["program", "routine", "start", "origins", "level", "fault"]
theorem sc_survey : FnScope N_survey ["program", "routine"] (defScope s_survey) := ⟨rfl, rfl, rfl, by decide +kernel, rfl, by decide +kernel, by decide +kernel⟩
abbrev N_way_to : List Str := ["origins", "state", "way"]
theorem sc_way_to : FnScope N_way_to ["origins", "state"] (defScope s_way_to) := ⟨rfl, rfl, rfl, by decide +kernel, rfl, by decide +kernel, by decide +kernel⟩
abbrev N_look_at : List Str := ["program", "routine", "origins", "fault", "state", "why", "box"]
theorem sc_look_at : FnScope N_look_at ["program", "routine"] (defScope s_look_at) := ⟨rfl, rfl, rfl, by decide +kernel, rfl, by decide +kernel, by decide +kernel⟩
abbrev N_look : List Str := ["program", "routine"]
theorem sc_look : FnScope N_look ["program", "routine"] (defScope s_look) := ⟨rfl, rfl, rfl, by decide +kernel, rfl, by decide +kernel, by decide +kernel⟩
abbrev N_mix : List Str := ["_law_script", "_law_seed", "_law_mixed", "_law_cell"]
theorem sc_mix : FnScope N_mix ["_law_script", "_law_seed"] (defScope s_mix) := ⟨rfl, rfl, rfl, by decide +kernel, rfl, by decide +kernel, by decide +kernel⟩
abbrev N_next : List Str := ["_law_h", "_law_many", "_law_at", "_law_cell"]
theorem sc_next : FnScope N_next ["_law_h", "_law_many"] (defScope s_next) := ⟨rfl, rfl, rfl, by decide +kernel, rfl, by decide +kernel, by decide +kernel⟩
abbrev N_house : List Str := ["_law_h", "_law_few", "_law_sorts", "_law_box", "_law_out", "_law_ins"]
theorem sc_house : FnScope N_house ["_law_h"] (defScope s_house) := ⟨rfl, rfl, rfl, by decide +kernel, rfl, by decide +kernel, by decide +kernel⟩
abbrev N_number : List Str := ["_law_h"]
theorem sc_number : FnScope N_number ["_law_h"] (defScope s_number) := ⟨rfl, rfl, rfl, by decide +kernel, rfl, by decide +kernel, by decide +kernel⟩
abbrev N_simple : List Str := ["_law_h", "_law_e", "_law_good", "_law_box", "_law_goal", "_law_turn", "_law_row", "_law_some", "_law_one", "_law_other"]
theorem sc_simple : FnScope N_simple ["_law_h", "_law_e"] (defScope s_simple) := ⟨rfl, rfl, rfl, by decide +kernel, rfl, by decide +kernel, by decide +kernel⟩
abbrev N_calling : List Str := ["_law_h", "_law_e", "_law_called", "_law_ins", "_law_out", "_law_kept_here", "_law_fixed", "_law_box", "_law_some", "_law_saved"]
theorem sc_calling : FnScope N_calling ["_law_h", "_law_e"] (defScope s_calling) := ⟨rfl, rfl, rfl, by decide +kernel, rfl, by decide +kernel, by decide +kernel⟩
abbrev N_zeroed : List Str := ["_law_h", "_law_e", "_law_good", "_law_box", "_law_test", "_law_place", "_law_before", "_law_k"]
theorem sc_zeroed : FnScope N_zeroed ["_law_h", "_law_e"] (defScope s_zeroed) := ⟨rfl, rfl, rfl, by decide +kernel, rfl, by decide +kernel, by decide +kernel⟩
abbrev N_kept : List Str := ["_law_h", "_law_houses", "_law_owners", "_law_number_here", "_law_most", "_law_ins", "_law_out", "_law_kept_here", "_law_saved", "_law_box", "_law_e", "_law_k", "_law_turn", "_law_rows"]
theorem sc_kept : FnScope N_kept ["_law_h", "_law_houses", "_law_owners", "_law_number_here", "_law_most"] (defScope s_kept) := ⟨rfl, rfl, rfl, by decide +kernel, rfl, by decide +kernel, by decide +kernel⟩
abbrev N_program : List Str := ["_law_h", "_law_most", "_law_houses", "_law_k", "_law_owners", "_law_size", "_law_number_here"]
theorem sc_program : FnScope N_program ["_law_h", "_law_most"] (defScope s_program) := ⟨rfl, rfl, rfl, by decide +kernel, rfl, by decide +kernel, by decide +kernel⟩
abbrev N_wild_row : List Str := ["_law_h", "_law_rows", "_law_routines", "_law_word", "_law_some", "_law_k"]
theorem sc_wild_row : FnScope N_wild_row ["_law_h", "_law_rows", "_law_routines"] (defScope s_wild_row) := ⟨rfl, rfl, rfl, by decide +kernel, rfl, by decide +kernel, by decide +kernel⟩
abbrev N_odd : List Str := ["_law_h", "_law_program_here", "_law_turns", "_law_houses", "_law_routines", "_law_turn", "_law_k", "_law_house_here", "_law_rows", "_law_at", "_law_row", "_law_sort", "_law_some", "_law_many", "_law_one"]
theorem sc_odd : FnScope N_odd ["_law_h", "_law_program_here", "_law_turns"] (defScope s_odd) := ⟨rfl, rfl, rfl, by decide +kernel, rfl, by decide +kernel, by decide +kernel⟩
abbrev N_wild : List Str := ["_law_h", "_law_most", "_law_houses", "_law_k", "_law_many", "_law_found", "_law_rows", "_law_some", "_law_row"]
theorem sc_wild : FnScope N_wild ["_law_h", "_law_most"] (defScope s_wild) := ⟨rfl, rfl, rfl, by decide +kernel, rfl, by decide +kernel, by decide +kernel⟩
abbrev N_any : List Str := ["_law_h", "_law_turn", "_law_program_here"]
theorem sc_any : FnScope N_any ["_law_h"] (defScope s_any) := ⟨rfl, rfl, rfl, by decide +kernel, rfl, by decide +kernel, by decide +kernel⟩
abbrev N_first : List Str := ["_law_program_here", "_law_number_here", "_law_ins", "_law_out", "_law_kept_here", "_law_box"]
theorem sc_first : FnScope N_first ["_law_program_here", "_law_number_here"] (defScope s_first) := ⟨rfl, rfl, rfl, by decide +kernel, rfl, by decide +kernel, by decide +kernel⟩
abbrev N_not_good : List Str := ["_law_boxes", "_law_some", "_law_bad", "_law_box"]
theorem sc_not_good : FnScope N_not_good ["_law_boxes", "_law_some"] (defScope s_not_good) := ⟨rfl, rfl, rfl, by decide +kernel, rfl, by decide +kernel, by decide +kernel⟩
abbrev N_breaks : List Str := ["_law_program_here", "_law_number_here", "_law_state", "_law_house_here", "_law_rows", "_law_at", "_law_boxes", "_law_pile", "_law_row", "_law_lost", "_law_box"]
theorem sc_breaks : FnScope N_breaks ["_law_program_here", "_law_number_here", "_law_state"] (defScope s_breaks) := ⟨rfl, rfl, rfl, by decide +kernel, rfl, by decide +kernel, by decide +kernel⟩
abbrev N_nexts : List Str := ["_law_program_here", "_law_number_here", "_law_state", "_law_at", "_law_boxes", "_law_pile", "_law_row", "_law_ins", "_law_out", "_law_kept_here", "_law_box", "_law_goals", "_law_goal"]
theorem sc_nexts : FnScope N_nexts ["_law_program_here", "_law_number_here", "_law_state"] (defScope s_nexts) := ⟨rfl, rfl, rfl, by decide +kernel, rfl, by decide +kernel, by decide +kernel⟩
abbrev N_look_ : List Str := ["_law_program_here", "_law_number_here", "_law_begin", "_law_met", "_law_level", "_law_further", "_law_way", "_law_state", "_law_why", "_law_behind"]
theorem sc_look_ : FnScope N_look_ ["_law_program_here", "_law_number_here"] (defScope s_look_) := ⟨rfl, rfl, rfl, by decide +kernel, rfl, by decide +kernel, by decide +kernel⟩
abbrev N_walked : List Str := ["_law_program_here", "_law_number_here", "_law_way", "_law_state", "_law_k", "_law_why", "_law_goals", "_law_behind"]
theorem sc_walked : FnScope N_walked ["_law_program_here", "_law_number_here", "_law_way"] (defScope s_walked) := ⟨rfl, rfl, rfl, by decide +kernel, rfl, by decide +kernel, by decide +kernel⟩
abbrev N_shorter : List Str := ["_law_program_here", "_law_number_here", "_law_many", "_law_level", "_law_step", "_law_further", "_law_state"]
theorem sc_shorter : FnScope N_shorter ["_law_program_here", "_law_number_here", "_law_many"] (defScope s_shorter) := ⟨rfl, rfl, rfl, by decide +kernel, rfl, by decide +kernel, by decide +kernel⟩
abbrev N_law : List Str := ["_law_script", "_law_h", "_law_turn", "_law_program_here", "_law_number_here", "_law_found", "_law_way", "_law_why", "_law_box"]
theorem sc_law : FnScope N_law ["_law_script"] (defScope s_law) := ⟨rfl, rfl, rfl, by decide +kernel, rfl, by decide +kernel, by decide +kernel⟩
section
variable {P : Program} {w : World} {K : PySem.W.Frag} {mg : Str → Option Value} {base : Heap}
theorem ok_is_tuple_of (T : Top w K mg)  : Cl P w K mg base (xcK K) "is_tuple_of" ["value", "least", "most"] 1 (m_is_tuple_of) := by
  obtain ⟨fd, F⟩ := T.c.def_ 0 (d := d_is_tuple_of) rfl
  refine ⟨fd, def_PD (N := N_is_tuple_of) F sc_is_tuple_of (fun cdv A outer s H E hr => ?_), t_glo_is_tuple_of T, F.kp, F.bindsN fun _ _ _ _ _ _ us hl => match us, hl with | [_, _, _], _ => rfl, lkF F⟩
  exact s_one (s_ret (i_and (i_isa (t := .tuple) rfl (t_isinstance T) rfl (t_tuple T) rfl (iv 0)) (i_one (i_chain op_le sd_le op_le sd_le (iv 1) (i_bf call_lenU sd_len rfl (t_len T) rfl (i_cons (iv 0) (i_nil))) (iv 2)))))
theorem ok_is_below (T : Top w K mg)  : Cl P w K mg base (xcK K) "is_below" ["value", "limit"] 1 (m_is_below) := by
  obtain ⟨fd, F⟩ := T.c.def_ 1 (d := d_is_below) rfl
  refine ⟨fd, def_PD (N := N_is_below) F sc_is_below (fun cdv A outer s H E hr => ?_), t_glo_is_below T, F.kp, F.bindsN fun _ _ _ _ _ _ us hl => match us, hl with | [_, _], _ => rfl, lkF F⟩
  exact s_one (s_ret (i_and (i_isa (t := .int) rfl (t_isinstance T) rfl (t_int T) rfl (iv 0)) (i_and (i_not (i_isa (t := .bool) rfl (t_isinstance T) rfl (t_bool T) rfl (iv 0))) (i_one (i_chain op_le sd_le op_lt sd_lt (i_int) (iv 0) (iv 1))))))
theorem ok_are_rising_boxes (T : Top w K mg) (c_is_below : Cl P w K mg base (xcK K) "is_below" ["value", "limit"] 1 (m_is_below)) : Cl P w K mg base (xcK K) "are_rising_boxes" ["value"] 2 (m_are_rising_boxes) := by
  obtain ⟨fd, F⟩ := T.c.def_ 2 (d := d_are_rising_boxes) rfl
  refine ⟨fd, def_PD (N := N_are_rising_boxes) F sc_are_rising_boxes (fun cdv A outer s H E hr => ?_), t_glo_are_rising_boxes T, F.kp, F.bindsN fun _ _ _ _ _ _ us hl => match us, hl with | [_], _ => rfl, lkF F⟩
  exact s_seq (s_if (PW.pt (j_or (j_not (j_val (i_isa (t := .tuple) rfl (t_isinstance T) rfl (t_tuple T) rfl (iv 0)))) (j_or1 (j_not (j_val (i_bf (cr_all rfl) sd_all rfl (t_all T) rfl (i_cons (i_lc (own := [("box", 1)]) rfl sc_are_rising_boxes.nd (i_seq (iv 0)) (blkOk_by (own := [("box", 1)]) (N := N_are_rising_boxes) (sc := defScope s_are_rising_boxes) (by decide +kernel)) (fun _ _ _ _ _ => gn (i := 1) sc_are_rising_boxes.nd) (fun _ _ _ _ _ => ts_nil) (fun _ _ _ _ _ => i_callC c_is_below (hr.mono (by omega)) rfl (passes_call takes0 (fun _ _ _ _ h => h)) (i_cons (iv 1) (i_cons (i_gi (t_BOXES T)) (i_nil))))) (i_nil)))))))) (s_one (s_ret (i_bl))) (s_nil)) (s_one (s_ret (i_bf (cr_all rfl) sd_all rfl (t_all T) rfl (i_cons (i_lc (own := [("low", 2), ("high", 3)]) rfl sc_are_rising_boxes.nd (i_zip rfl (t_zip T) (iv 0) (i_cut (iv 0) (o_some (i_int)) (o_none))) (blkOk_by (own := [("low", 2), ("high", 3)]) (N := N_are_rising_boxes) (sc := defScope s_are_rising_boxes) (by decide +kernel)) (fun _ _ _ _ _ => g_tup rfl (gs_cons (gn (i := 2) sc_are_rising_boxes.nd) (gs_cons (gn (i := 3) sc_are_rising_boxes.nd) (gs_nil)))) (fun _ _ _ _ _ => ts_nil) (fun _ _ _ _ _ => i_cmp op_lt sd_lt (iv 2) (iv 3) (nomark _))) (i_nil)))))
theorem ok_is_house (T : Top w K mg) (c_are_rising_boxes : Cl P w K mg base (xcK K) "are_rising_boxes" ["value"] 2 (m_are_rising_boxes)) (c_is_below : Cl P w K mg base (xcK K) "is_below" ["value", "limit"] 1 (m_is_below)) (c_is_tuple_of : Cl P w K mg base (xcK K) "is_tuple_of" ["value", "least", "most"] 1 (m_is_tuple_of)) : Cl P w K mg base (xcK K) "is_house" ["house"] 3 (m_is_house) := by
  obtain ⟨fd, F⟩ := T.c.def_ 3 (d := d_is_house) rfl
  refine ⟨fd, def_PD (N := N_is_house) F sc_is_house (fun cdv A outer s H E hr => ?_), t_glo_is_house T, F.kp, F.bindsN fun _ _ _ _ _ _ us hl => match us, hl with | [_], _ => rfl, lkF F⟩
  exact s_seq (s_if (j_not (j_val (i_callC c_is_tuple_of (hr.mono (by omega)) rfl (passes_call (takes_of rfl rfl rfl rfl) (fun _ _ _ _ h => h)) (i_cons (iv 0) (i_cons (i_int) (i_cons (i_int) (i_nil))))))) (s_one (s_ret (i_bl))) (s_nil)) (s_seq (s_asg (iv 0) (g_tup rfl (gs_cons (gn (i := 1) sc_is_house.nd) (gs_cons (gn (i := 2) sc_is_house.nd) (gs_cons (gn (i := 3) sc_is_house.nd) (gs_nil)))))) (s_seq (s_if (PW.pt (j_or (j_not (j_val (i_callC c_are_rising_boxes (hr.mono (by omega)) rfl (passes_call (takes_of rfl rfl rfl rfl) (fun _ _ _ _ h => h)) (i_cons (iv 1) (i_nil))))) (j_or (j_not (j_val (i_callC c_is_below (hr.mono (by omega)) rfl (passes_call (takes_of rfl rfl rfl rfl) (fun _ _ _ _ h => h)) (i_cons (iv 2) (i_cons (i_gi (t_BOXES T)) (i_nil)))))) (j_or1 (j_not (j_val (i_callC c_are_rising_boxes (hr.mono (by omega)) rfl (passes_call (takes_of rfl rfl rfl rfl) (fun _ _ _ _ h => h)) (i_cons (iv 3) (i_nil))))))))) (s_one (s_ret (i_bl))) (s_nil)) (s_one (s_ret (i_not (i_bf (cr_any rfl) sd_any rfl (t_any T) rfl (i_cons (i_lc (own := [("box", 4)]) rfl sc_is_house.nd (i_seq (iv 3)) (blkOk_by (own := [("box", 4)]) (N := N_is_house) (sc := defScope s_is_house) (by decide +kernel)) (fun _ _ _ _ _ => gn (i := 4) sc_is_house.nd) (fun _ _ _ _ _ => ts_nil) (fun _ _ _ _ _ => i_or (i_cmp op_in_seq sd_in (iv 4) (iv 1) rfl) (i_one (i_cmp (op_eqD (hu64 hr)) sd_eq (iv 4) (iv 2) (nomark _))))) (i_nil))))))))
theorem ok_check_houses (T : Top w K mg) (c_is_house : Cl P w K mg base (xcK K) "is_house" ["house"] 3 (m_is_house)) (c_is_tuple_of : Cl P w K mg base (xcK K) "is_tuple_of" ["value", "least", "most"] 1 (m_is_tuple_of)) : Cl P w K mg base (xcK K) "check_houses" ["houses"] 4 (m_check_houses) := by
  obtain ⟨fd, F⟩ := T.c.def_ 4 (d := d_check_houses) rfl
  refine ⟨fd, def_PD (N := N_check_houses) F sc_check_houses (fun cdv A outer s H E hr => ?_), t_glo_check_houses T, F.kp, F.bindsN fun _ _ _ _ _ _ us hl => match us, hl with | [_], _ => rfl, lkF F⟩
  exact s_seq (s_if (j_not (j_val (i_callC c_is_tuple_of (hr.mono (by omega)) rfl (passes_call (takes_of rfl rfl rfl rfl) (fun _ _ _ _ h => h)) (i_cons (iv 0) (i_cons (i_int) (i_cons (i_gi (t_MOST_HOUSES T)) (i_nil))))))) (s_one (s_bad)) (s_nil)) (s_one (s_for (passes_of rfl) rfl (i_enum rfl (t_enumerate T) (iv 0)) (g_tup rfl (gs_cons (gn (i := 1) sc_check_houses.nd) (gs_cons (gn (i := 2) sc_check_houses.nd) (gs_nil)))) (s_one (s_if (j_not (j_val (i_callC c_is_house (hr.mono (by omega)) rfl (passes_call (takes_of rfl rfl rfl rfl) (fun _ _ _ _ h => h)) (i_cons (iv 2) (i_nil))))) (s_one (s_bad)) (s_nil)))))
theorem ok_is_row (T : Top w K mg) (c_is_below : Cl P w K mg base (xcK K) "is_below" ["value", "limit"] 1 (m_is_below)) : Cl P w K mg base (xcK K) "is_row" ["row", "limits"] 2 (m_is_row) := by
  obtain ⟨fd, F⟩ := T.c.def_ 5 (d := d_is_row) rfl
  refine ⟨fd, def_PD (N := N_is_row) F sc_is_row (fun cdv A outer s H E hr => ?_), t_glo_is_row T, F.kp, F.bindsN fun _ _ _ _ _ _ us hl => match us, hl with | [_, _], _ => rfl, lkF F⟩
  exact s_seq (s_if (PW.pt (j_or (j_not (j_val (i_isa (t := .tuple) rfl (t_isinstance T) rfl (t_tuple T) rfl (iv 0)))) (j_or (j_cmp (op_eqD (hu64 hr)) sd_eq (i_bf call_lenU sd_len rfl (t_len T) rfl (i_cons (iv 0) (i_nil))) (i_int) (nomark _)) (j_or1 (j_not (j_val (i_isa (t := .str) rfl (t_isinstance T) rfl (t_str T) rfl (i_ix (hu_of hr) (iv 0) (i_int))))))))) (s_one (s_ret (i_bl))) (s_nil)) (s_seq (s_set (i := 2) sc_is_row.nd rfl (.inl rfl) (i_kgetT (t_PLACES T) rfl (i_ix (hu_of hr) (iv 0) (i_int)) (m1_of rfl rfl rfl))) (s_seq (s_if (PW.pt (j_or (j_cmp op_isNU sd_isN (iv 2) (i_non) (nomark _)) (j_or1 (j_cmp (op_neD (hu64 hr)) sd_ne (i_bf call_lenU sd_len rfl (t_len T) rfl (i_cons (iv 0) (i_nil))) (i_op op_addU sd_add (i_bf call_lenU sd_len rfl (t_len T) rfl (i_cons (iv 2) (i_nil))) (i_int)) (nomark _))))) (s_one (s_ret (i_bl))) (s_nil)) (s_one (s_ret (i_bf (cr_all rfl) sd_all rfl (t_all T) rfl (i_cons (i_lc (own := [("value", 3), ("place", 4)]) rfl sc_is_row.nd (i_zip rfl (t_zip T) (i_cut (iv 0) (o_some (i_int)) (o_none)) (iv 2)) (blkOk_by (own := [("value", 3), ("place", 4)]) (N := N_is_row) (sc := defScope s_is_row) (by decide +kernel)) (fun _ _ _ _ _ => g_tup rfl (gs_cons (gn (i := 3) sc_is_row.nd) (gs_cons (gn (i := 4) sc_is_row.nd) (gs_nil)))) (fun _ _ _ _ _ => ts_nil) (fun _ _ _ _ _ => i_callC c_is_below (hr.mono (by omega)) rfl (passes_call takes0 (fun _ _ _ _ h => h)) (i_cons (iv 3) (i_cons (i_ix (hu_of hr) (iv 1) (iv 4)) (i_nil))))) (i_nil)))))))
theorem ok_check_rows (T : Top w K mg) (c_is_row : Cl P w K mg base (xcK K) "is_row" ["row", "limits"] 2 (m_is_row)) : Cl P w K mg base (xcK K) "check_rows" ["rows", "number", "many_routines"] 3 (m_check_rows) := by
  obtain ⟨fd, F⟩ := T.c.def_ 6 (d := d_check_rows) rfl
  refine ⟨fd, def_PD (N := N_check_rows) F sc_check_rows (fun cdv A outer s H E hr => ?_), t_glo_check_rows T, F.kp, F.bindsN fun _ _ _ _ _ _ us hl => match us, hl with | [_, _, _], _ => rfl, lkF F⟩
  exact s_seq (s_set (i := 3) sc_check_rows.nd rfl (.inl rfl) (i_dks (d_cons (i_gi (t_BOXES T)) (d_cons (i_gi (t_NUMBERS T)) (d_cons (i_bf call_lenU sd_len rfl (t_len T) rfl (i_cons (iv 0) (i_nil))) (d_cons (iv 2) (d_nil))))))) (s_seq (s_for (passes_of rfl) rfl (i_enum rfl (t_enumerate T) (iv 0)) (g_tup rfl (gs_cons (gn (i := 4) sc_check_rows.nd) (gs_cons (gn (i := 5) sc_check_rows.nd) (gs_nil)))) (s_one (s_if (j_not (j_val (i_callC c_is_row (hr.mono (by omega)) rfl (passes_call (takes_of rfl rfl rfl rfl) (fun _ _ _ _ h => h)) (i_cons (iv 5) (i_cons (iv 3) (i_nil)))))) (s_one (s_bad)) (s_nil)))) (s_one (s_if (j_cmp op_notIn_seq sd_notIn (i_ix (hu_of hr) (i_ix (hu_of hr) (iv 0) (i_un un_neg sd_neg (i_int))) (i_int)) (i_tup (i_cons (i_str) (i_cons (i_str) (i_nil)))) rfl) (s_one (s_bad)) (s_nil))))
theorem ok_check_routines (T : Top w K mg) (c_check_rows : Cl P w K mg base (xcK K) "check_rows" ["rows", "number", "many_routines"] 3 (m_check_rows)) (c_is_below : Cl P w K mg base (xcK K) "is_below" ["value", "limit"] 1 (m_is_below)) (c_is_tuple_of : Cl P w K mg base (xcK K) "is_tuple_of" ["value", "least", "most"] 1 (m_is_tuple_of)) : Cl P w K mg base (xcK K) "check_routines" ["routines", "many_houses"] 4 (m_check_routines) := by
  obtain ⟨fd, F⟩ := T.c.def_ 7 (d := d_check_routines) rfl
  refine ⟨fd, def_PD (N := N_check_routines) F sc_check_routines (fun cdv A outer s H E hr => ?_), t_glo_check_routines T, F.kp, F.bindsN fun _ _ _ _ _ _ us hl => match us, hl with | [_, _], _ => rfl, lkF F⟩
  exact s_seq (s_if (j_not (j_val (i_callC c_is_tuple_of (hr.mono (by omega)) rfl (passes_call (takes_of rfl rfl rfl rfl) (fun _ _ _ _ h => h)) (i_cons (iv 0) (i_cons (i_int) (i_cons (i_gi (t_MOST_ROUTINES T)) (i_nil))))))) (s_one (s_bad)) (s_nil)) (s_one (s_for (passes_of rfl) rfl (i_enum rfl (t_enumerate T) (iv 0)) (g_tup rfl (gs_cons (gn (i := 2) sc_check_routines.nd) (gs_cons (gn (i := 3) sc_check_routines.nd) (gs_nil)))) (s_seq (s_if (j_not (j_val (i_callC c_is_tuple_of (hr.mono (by omega)) rfl (passes_call (takes_of rfl rfl rfl rfl) (fun _ _ _ _ h => h)) (i_cons (iv 3) (i_cons (i_int) (i_cons (i_int) (i_nil))))))) (s_one (s_bad)) (s_nil)) (s_seq (s_asg (iv 3) (g_tup rfl (gs_cons (gn (i := 4) sc_check_routines.nd) (gs_cons (gn (i := 5) sc_check_routines.nd) (gs_nil))))) (s_seq (s_if (PW.pt (j_or (j_not (j_val (i_callC c_is_below (hr.mono (by omega)) rfl (passes_call (takes_of rfl rfl rfl rfl) (fun _ _ _ _ h => h)) (i_cons (iv 4) (i_cons (iv 1) (i_nil)))))) (j_or1 (j_not (j_val (i_callC c_is_tuple_of (hr.mono (by omega)) rfl (passes_call (takes_of rfl rfl rfl rfl) (fun _ _ _ _ h => h)) (i_cons (iv 5) (i_cons (i_int) (i_cons (i_gi (t_MOST_ROWS T)) (i_nil)))))))))) (s_one (s_bad)) (s_nil)) (s_one (s_drop (i_callC c_check_rows (hr.mono (by omega)) rfl (passes_call (takes_of rfl rfl rfl rfl) (fun _ _ _ _ h => h)) (i_cons (iv 5) (i_cons (iv 2) (i_cons (i_bf call_lenU sd_len rfl (t_len T) rfl (i_cons (iv 0) (i_nil))) (i_nil))))))))))))
theorem ok_check_program (T : Top w K mg) (c_check_routines : Cl P w K mg base (xcK K) "check_routines" ["routines", "many_houses"] 4 (m_check_routines)) (c_check_houses : Cl P w K mg base (xcK K) "check_houses" ["houses"] 4 (m_check_houses)) (c_is_tuple_of : Cl P w K mg base (xcK K) "is_tuple_of" ["value", "least", "most"] 1 (m_is_tuple_of)) : Cl P w K mg base (xcK K) "check_program" ["program"] 5 (m_check_program) := by
  obtain ⟨fd, F⟩ := T.c.def_ 8 (d := d_check_program) rfl
  refine ⟨fd, def_PD (N := N_check_program) F sc_check_program (fun cdv A outer s H E hr => ?_), t_glo_check_program T, F.kp, F.bindsN fun _ _ _ _ _ _ us hl => match us, hl with | [_], _ => rfl, lkF F⟩
  exact s_seq (s_if (j_not (j_val (i_callC c_is_tuple_of (hr.mono (by omega)) rfl (passes_call (takes_of rfl rfl rfl rfl) (fun _ _ _ _ h => h)) (i_cons (iv 0) (i_cons (i_int) (i_cons (i_int) (i_nil))))))) (s_one (s_bad)) (s_nil)) (s_seq (s_asg (iv 0) (g_tup rfl (gs_cons (gn (i := 1) sc_check_program.nd) (gs_cons (gn (i := 2) sc_check_program.nd) (gs_nil))))) (s_seq (s_drop (i_callC c_check_houses (hr.mono (by omega)) rfl (passes_call (takes_of rfl rfl rfl rfl) (fun _ _ _ _ h => h)) (i_cons (iv 1) (i_nil)))) (s_one (s_drop (i_callC c_check_routines (hr.mono (by omega)) rfl (passes_call (takes_of rfl rfl rfl rfl) (fun _ _ _ _ h => h)) (i_cons (iv 2) (i_cons (i_bf call_lenU sd_len rfl (t_len T) rfl (i_cons (iv 1) (i_nil))) (i_nil))))))))
theorem ok_check_number (T : Top w K mg) (c_is_below : Cl P w K mg base (xcK K) "is_below" ["value", "limit"] 1 (m_is_below)) : Cl P w K mg base (xcK K) "check_number" ["program", "routine"] 2 (m_check_number) := by
  obtain ⟨fd, F⟩ := T.c.def_ 9 (d := d_check_number) rfl
  refine ⟨fd, def_PD (N := N_check_number) F sc_check_number (fun cdv A outer s H E hr => ?_), t_glo_check_number T, F.kp, F.bindsN fun _ _ _ _ _ _ us hl => match us, hl with | [_, _], _ => rfl, lkF F⟩
  exact s_seq (s_asg (iv 0) (g_tup rfl (gs_cons (gn (i := 2) sc_check_number.nd) (gs_cons (gn (i := 3) sc_check_number.nd) (gs_nil))))) (s_one (s_if (j_not (j_val (i_callC c_is_below (hr.mono (by omega)) rfl (passes_call (takes_of rfl rfl rfl rfl) (fun _ _ _ _ h => h)) (i_cons (iv 1) (i_cons (i_bf call_lenU sd_len rfl (t_len T) rfl (i_cons (iv 3) (i_nil))) (i_nil)))))) (s_one (s_bad)) (s_nil)))
theorem ok_house_of (T : Top w K mg)  : Cl P w K mg base (xcK K) "house_of" ["program", "routine"] 1 (m_house_of) := by
  obtain ⟨fd, F⟩ := T.c.def_ 10 (d := d_house_of) rfl
  refine ⟨fd, def_PD (N := N_house_of) F sc_house_of (fun cdv A outer s H E hr => ?_), t_glo_house_of T, F.kp, F.bindsN fun _ _ _ _ _ _ us hl => match us, hl with | [_, _], _ => rfl, lkF F⟩
  exact s_seq (s_asg (iv 0) (g_tup rfl (gs_cons (gn (i := 2) sc_house_of.nd) (gs_cons (gn (i := 3) sc_house_of.nd) (gs_nil))))) (s_seq (s_asg (i_ix (hu_of hr) (iv 3) (iv 1)) (g_tup rfl (gs_cons (gn (i := 4) sc_house_of.nd) (gs_cons (gn (i := 5) sc_house_of.nd) (gs_nil))))) (s_one (s_ret (i_ix (hu_of hr) (iv 2) (iv 4)))))
theorem ok_first_state (T : Top w K mg)  : Cl P w K mg base (xcK K) "first_state" ["house"] 1 (m_first_state) := by
  obtain ⟨fd, F⟩ := T.c.def_ 11 (d := d_first_state) rfl
  refine ⟨fd, def_PD (N := N_first_state) F sc_first_state (fun cdv A outer s H E hr => ?_), t_glo_first_state T, F.kp, F.bindsN fun _ _ _ _ _ _ us hl => match us, hl with | [_], _ => rfl, lkF F⟩
  exact s_seq (s_asg (iv 0) (g_tup rfl (gs_cons (gn (i := 1) sc_first_state.nd) (gs_cons (gn (i := 2) sc_first_state.nd) (gs_cons (gn (i := 3) sc_first_state.nd) (gs_nil)))))) (s_seq (s_set (i := 4) sc_first_state.nd rfl (.inl rfl) (i_op op_mulU sd_mulN (i_ls (i_cons (i_gs (t_LOOSE T)) (i_nil))) (i_gi (t_BOXES T)))) (s_seq (s_for (passes_of rfl) rfl (i_seq (iv 1)) (gn (i := 5) sc_first_state.nd) (s_one (s_asg (i_gs (t_GOOD T)) (g_sub (hu_of hr) (iv 4) (iv 5))))) (s_seq (s_for (passes_of rfl) rfl (i_seq (iv 3)) (gn (i := 5) sc_first_state.nd) (s_one (s_asg (i_ty call_strU sd_str rfl (t_str T) rfl (i_cons (iv 5) (i_nil))) (g_sub (hu_of hr) (iv 4) (iv 5))))) (s_one (s_ret (i_tup (i_cons (i_int) (i_cons (i_ty call_tupleU sd_tuple rfl (t_tuple T) rfl (i_cons (iv 4) (i_nil))) (i_cons (i_tup (i_nil)) (i_nil))))))))))
theorem ok_rows_of (T : Top w K mg)  : Cl P w K mg base (xcK K) "rows_of" ["program", "routine"] 1 (m_rows_of) := by
  obtain ⟨fd, F⟩ := T.c.def_ 12 (d := d_rows_of) rfl
  refine ⟨fd, def_PD (N := N_rows_of) F sc_rows_of (fun cdv A outer s H E hr => ?_), t_glo_rows_of T, F.kp, F.bindsN fun _ _ _ _ _ _ us hl => match us, hl with | [_, _], _ => rfl, lkF F⟩
  exact s_seq (s_asg (iv 0) (g_tup rfl (gs_cons (gn (i := 2) sc_rows_of.nd) (gs_cons (gn (i := 3) sc_rows_of.nd) (gs_nil))))) (s_seq (s_asg (i_ix (hu_of hr) (iv 3) (iv 1)) (g_tup rfl (gs_cons (gn (i := 2) sc_rows_of.nd) (gs_cons (gn (i := 4) sc_rows_of.nd) (gs_nil))))) (s_one (s_ret (iv 4))))
theorem ok_looked_at (T : Top w K mg) (c_house_of : Cl P w K mg base (xcK K) "house_of" ["program", "routine"] 1 (m_house_of)) : Cl P w K mg base (xcK K) "looked_at" ["program", "row"] 2 (m_looked_at) := by
  obtain ⟨fd, F⟩ := T.c.def_ 13 (d := d_looked_at) rfl
  refine ⟨fd, def_PD (N := N_looked_at) F sc_looked_at (fun cdv A outer s H E hr => ?_), t_glo_looked_at T, F.kp, F.bindsN fun _ _ _ _ _ _ us hl => match us, hl with | [_, _], _ => rfl, lkF F⟩
  exact s_seq (s_set (i := 2) sc_looked_at.nd rfl (.inl rfl) (i_ix (hu_of hr) (iv 1) (i_int))) (s_seq (s_if (j_cmp op_in_seq sd_in (iv 2) (i_tup (i_cons (i_str) (i_cons (i_str) (i_cons (i_str) (i_nil))))) rfl) (s_one (s_ret (i_cut (iv 1) (o_some (i_int)) (o_some (i_int))))) (s_nil)) (s_seq (s_if (j_cmp op_in_seq sd_in (iv 2) (i_tup (i_cons (i_str) (i_cons (i_str) (i_cons (i_str) (i_nil))))) rfl) (s_one (s_ret (i_cut (iv 1) (o_some (i_int)) (o_none)))) (s_nil)) (s_seq (s_if (j_cmp (op_eqD (hu64 hr)) sd_eq (iv 2) (i_str) (nomark _)) (s_seq (s_asg (i_callC c_house_of (hr.mono (by omega)) rfl (passes_call (takes_of rfl rfl rfl rfl) (fun _ _ _ _ h => h)) (i_cons (iv 0) (i_cons (i_ix (hu_of hr) (iv 1) (i_int)) (i_nil)))) (g_tup rfl (gs_cons (gn (i := 3) sc_looked_at.nd) (gs_cons (gn (i := 4) sc_looked_at.nd) (gs_cons (gn (i := 4) sc_looked_at.nd) (gs_nil)))))) (s_one (s_ret (iv 3)))) (s_nil)) (s_one (s_ret (i_tup (i_nil)))))))
theorem ok_first_unfit (T : Top w K mg)  : Cl P w K mg base (xcK K) "first_unfit" ["boxes", "wanted", "carries"] 1 (m_first_unfit) := by
  obtain ⟨fd, F⟩ := T.c.def_ 14 (d := d_first_unfit) rfl
  refine ⟨fd, def_PD (N := N_first_unfit) F sc_first_unfit (fun cdv A outer s H E hr => ?_), t_glo_first_unfit T, F.kp, F.bindsN fun _ _ _ _ _ _ us hl => match us, hl with | [_, _, _], _ => rfl, lkF F⟩
  exact s_seq (s_for (passes_of rfl) rfl (i_seq (iv 1)) (gn (i := 3) sc_first_unfit.nd) (s_seq (s_if (j_cmp (op_eqD (hu64 hr)) sd_eq (i_ix (hu_of hr) (iv 0) (iv 3)) (i_gs (t_LOOSE T)) (nomark _)) (s_one (s_ret (i_tup (i_cons (i_str) (i_cons (iv 3) (i_nil)))))) (s_nil)) (s_one (s_if (PW.pt (j_and (j_cmp (op_neD (hu64 hr)) sd_ne (i_ix (hu_of hr) (iv 0) (iv 3)) (i_gs (t_GOOD T)) (nomark _)) (j_and1 (j_not (j_val (iv 2)))))) (s_one (s_ret (i_tup (i_cons (i_str) (i_cons (iv 3) (i_nil)))))) (s_nil))))) (s_one (s_ret (i_non)))
theorem ok_break_of_back (T : Top w K mg) (c_first_unfit : Cl P w K mg base (xcK K) "first_unfit" ["boxes", "wanted", "carries"] 1 (m_first_unfit)) : Cl P w K mg base (xcK K) "break_of_back" ["house", "boxes", "pile"] 2 (m_break_of_back) := by
  obtain ⟨fd, F⟩ := T.c.def_ 15 (d := d_break_of_back) rfl
  refine ⟨fd, def_PD (N := N_break_of_back) F sc_break_of_back (fun cdv A outer s H E hr => ?_), t_glo_break_of_back T, F.kp, F.bindsN fun _ _ _ _ _ _ us hl => match us, hl with | [_, _, _], _ => rfl, lkF F⟩
  exact s_seq (s_asg (iv 0) (g_tup rfl (gs_cons (gn (i := 3) sc_break_of_back.nd) (gs_cons (gn (i := 4) sc_break_of_back.nd) (gs_cons (gn (i := 5) sc_break_of_back.nd) (gs_nil)))))) (s_seq (s_if (j_cmp op_gt sd_gt (i_bf call_lenU sd_len rfl (t_len T) rfl (i_cons (iv 2) (i_nil))) (i_int) (nomark _)) (s_one (s_ret (i_tup (i_cons (i_str) (i_cons (i_un un_neg sd_neg (i_int)) (i_nil)))))) (s_nil)) (s_seq (s_for (passes_of rfl) rfl (i_seq (iv 5)) (gn (i := 6) sc_break_of_back.nd) (s_one (s_if (j_cmp (op_neD (hu64 hr)) sd_ne (i_ix (hu_of hr) (iv 1) (iv 6)) (i_ty call_strU sd_str rfl (t_str T) rfl (i_cons (iv 6) (i_nil))) (nomark _)) (s_one (s_ret (i_tup (i_cons (i_str) (i_cons (iv 6) (i_nil)))))) (s_nil)))) (s_one (s_ret (i_callC c_first_unfit (hr.mono (by omega)) rfl (passes_call (takes_of rfl rfl rfl rfl) (fun _ _ _ _ h => h)) (i_cons (iv 1) (i_cons (i_tup (i_cons (iv 4) (i_nil))) (i_cons (i_bl) (i_nil)))))))))
theorem ok_break_of (T : Top w K mg) (c_first_unfit : Cl P w K mg base (xcK K) "first_unfit" ["boxes", "wanted", "carries"] 1 (m_first_unfit)) (c_looked_at : Cl P w K mg base (xcK K) "looked_at" ["program", "row"] 2 (m_looked_at)) (c_break_of_back : Cl P w K mg base (xcK K) "break_of_back" ["house", "boxes", "pile"] 2 (m_break_of_back)) (c_house_of : Cl P w K mg base (xcK K) "house_of" ["program", "routine"] 1 (m_house_of)) (c_rows_of : Cl P w K mg base (xcK K) "rows_of" ["program", "routine"] 1 (m_rows_of)) : Cl P w K mg base (xcK K) "break_of" ["program", "routine", "state"] 3 (m_break_of) := by
  obtain ⟨fd, F⟩ := T.c.def_ 16 (d := d_break_of) rfl
  refine ⟨fd, def_PD (N := N_break_of) F sc_break_of (fun cdv A outer s H E hr => ?_), t_glo_break_of T, F.kp, F.bindsN fun _ _ _ _ _ _ us hl => match us, hl with | [_, _, _], _ => rfl, lkF F⟩
  exact s_seq (s_asg (iv 2) (g_tup rfl (gs_cons (gn (i := 3) sc_break_of.nd) (gs_cons (gn (i := 4) sc_break_of.nd) (gs_cons (gn (i := 5) sc_break_of.nd) (gs_nil)))))) (s_seq (s_set (i := 6) sc_break_of.nd rfl (.inl rfl) (i_ix (hu_of hr) (i_callC c_rows_of (hr.mono (by omega)) rfl (passes_call (takes_of rfl rfl rfl rfl) (fun _ _ _ _ h => h)) (i_cons (iv 0) (i_cons (iv 1) (i_nil)))) (iv 3))) (s_seq (s_set (i := 7) sc_break_of.nd rfl (.inl rfl) (i_ix (hu_of hr) (iv 6) (i_int))) (s_seq (s_if (j_cmp (op_eqD (hu64 hr)) sd_eq (iv 7) (i_str) (nomark _)) (s_one (s_ret (i_callC c_break_of_back (hr.mono (by omega)) rfl (passes_call (takes_of rfl rfl rfl rfl) (fun _ _ _ _ h => h)) (i_cons (i_callC c_house_of (hr.mono (by omega)) rfl (passes_call (takes_of rfl rfl rfl rfl) (fun _ _ _ _ h => h)) (i_cons (iv 0) (i_cons (iv 1) (i_nil)))) (i_cons (iv 4) (i_cons (iv 5) (i_nil))))))) (s_nil)) (s_seq (s_set (i := 8) sc_break_of.nd rfl (.inl rfl) (i_callC c_first_unfit (hr.mono (by omega)) rfl (passes_call (takes_of rfl rfl rfl rfl) (fun _ _ _ _ h => h)) (i_cons (iv 4) (i_cons (i_callC c_looked_at (hr.mono (by omega)) rfl (passes_call (takes_of rfl rfl rfl rfl) (fun _ _ _ _ h => h)) (i_cons (iv 0) (i_cons (iv 6) (i_nil)))) (i_cons (i_cmp op_in_seq sd_in (iv 7) (i_tup (i_cons (i_str) (i_cons (i_str) (i_nil)))) rfl) (i_nil)))))) (s_seq (s_if (j_cmp op_notNU sd_notN (iv 8) (i_non) (nomark _)) (s_one (s_ret (iv 8))) (s_nil)) (s_seq (s_if (PW.pt (j_and (j_cmp (op_eqD (hu64 hr)) sd_eq (iv 7) (i_str) (nomark _)) (j_and1 (j_cmp (op_eqD (hu64 hr)) sd_eq (i_bf call_lenU sd_len rfl (t_len T) rfl (i_cons (iv 5) (i_nil))) (i_gi (t_DEEPEST T)) (nomark _))))) (s_one (s_ret (i_tup (i_cons (i_str) (i_cons (i_ix (hu_of hr) (iv 6) (i_int)) (i_nil)))))) (s_nil)) (s_seq (s_if (PW.pt (j_and (j_cmp (op_eqD (hu64 hr)) sd_eq (iv 7) (i_str) (nomark _)) (j_and1 (j_cmp (op_eqD (hu64 hr)) sd_eq (i_bf call_lenU sd_len rfl (t_len T) rfl (i_cons (iv 5) (i_nil))) (i_int) (nomark _))))) (s_one (s_ret (i_tup (i_cons (i_str) (i_cons (i_ix (hu_of hr) (iv 6) (i_int)) (i_nil)))))) (s_nil)) (s_one (s_ret (i_non))))))))))
theorem ok_first_break (T : Top w K mg) (c_break_of : Cl P w K mg base (xcK K) "break_of" ["program", "routine", "state"] 3 (m_break_of)) : Cl P w K mg base (xcK K) "first_break" ["program", "routine", "states"] 4 (m_first_break) := by
  obtain ⟨fd, F⟩ := T.c.def_ 17 (d := d_first_break) rfl
  refine ⟨fd, def_PD (N := N_first_break) F sc_first_break (fun cdv A outer s H E hr => ?_), t_glo_first_break T, F.kp, F.bindsN fun _ _ _ _ _ _ us hl => match us, hl with | [_, _, _], _ => rfl, lkF F⟩
  exact s_seq (s_for (passes_of rfl) rfl (i_seq (iv 2)) (gn (i := 3) sc_first_break.nd) (s_seq (s_set (i := 4) sc_first_break.nd rfl (.inl rfl) (i_callC c_break_of (hr.mono (by omega)) rfl (passes_call (takes_of rfl rfl rfl rfl) (fun _ _ _ _ h => h)) (i_cons (iv 0) (i_cons (iv 1) (i_cons (iv 3) (i_nil)))))) (s_one (s_if (j_cmp op_notNU sd_notN (iv 4) (i_non) (nomark _)) (s_seq (s_asg (iv 4) (g_tup rfl (gs_cons (gn (i := 5) sc_first_break.nd) (gs_cons (gn (i := 6) sc_first_break.nd) (gs_nil))))) (s_one (s_ret (i_tup (i_cons (iv 3) (i_cons (iv 5) (i_cons (iv 6) (i_nil)))))))) (s_nil))))) (s_one (s_ret (i_non)))
theorem ok_boxes_behind_call (T : Top w K mg)  : Cl P w K mg base (xcK K) "boxes_behind_call" ["house", "boxes"] 1 (m_boxes_behind_call) := by
  obtain ⟨fd, F⟩ := T.c.def_ 18 (d := d_boxes_behind_call) rfl
  refine ⟨fd, def_PD (N := N_boxes_behind_call) F sc_boxes_behind_call (fun cdv A outer s H E hr => ?_), t_glo_boxes_behind_call T, F.kp, F.bindsN fun _ _ _ _ _ _ us hl => match us, hl with | [_, _], _ => rfl, lkF F⟩
  exact s_seq (s_asg (iv 0) (g_tup rfl (gs_cons (gn (i := 2) sc_boxes_behind_call.nd) (gs_cons (gn (i := 3) sc_boxes_behind_call.nd) (gs_cons (gn (i := 4) sc_boxes_behind_call.nd) (gs_nil)))))) (s_seq (s_set (i := 5) sc_boxes_behind_call.nd rfl (.inl rfl) (i_op op_mulU sd_mulN (i_ls (i_cons (i_gs (t_LOOSE T)) (i_nil))) (i_gi (t_BOXES T)))) (s_seq (s_for (passes_of rfl) rfl (i_seq (iv 4)) (gn (i := 6) sc_boxes_behind_call.nd) (s_one (s_asg (i_ix (hu_of hr) (iv 1) (iv 6)) (g_sub (hu_of hr) (iv 5) (iv 6))))) (s_seq (s_asg (i_gs (t_GOOD T)) (g_sub (hu_of hr) (iv 5) (iv 3))) (s_one (s_ret (iv 5))))))
theorem ok_next_rows (T : Top w K mg)  : Cl P w K mg base (xcK K) "next_rows" ["row", "number"] 1 (m_next_rows) := by
  obtain ⟨fd, F⟩ := T.c.def_ 19 (d := d_next_rows) rfl
  refine ⟨fd, def_PS (N := N_next_rows) F sc_next_rows (fun cdv A outer s H E hcd hr => ?_), t_glo_next_rows T, F.kp, F.bindsN fun _ _ _ _ _ _ us hl => match us, hl with | [_, _], _ => rfl, lkF F⟩
  exact s_seq (s_set (i := 2) sc_next_rows.nd rfl (.inl rfl) (i_ix (hu_of hr) (iv 0) (i_int))) (s_seq (s_if (j_cmp (op_eqD (hu64 hr)) sd_eq (iv 2) (i_str) (nomark _)) (s_one (s_ret (i_ls (i_nil)))) (s_nil)) (s_seq (s_if (j_cmp (op_eqD (hu64 hr)) sd_eq (iv 2) (i_str) (nomark _)) (s_one (s_ret (i_ls (i_cons (i_ix (hu_of hr) (iv 0) (i_int)) (i_nil))))) (s_nil)) (s_seq (s_if (j_cmp (op_eqD (hu64 hr)) sd_eq (iv 2) (i_str) (nomark _)) (s_one (s_ret (i_sortSet2 rfl (t_sorted T) rfl (i_op op_addU sd_add (iv 1) (i_int)) (i_ix (hu_of hr) (iv 0) (i_int)) hcd))) (s_nil)) (s_one (s_ret (i_ls (i_cons (i_op op_addU sd_add (iv 1) (i_int)) (i_nil))))))))
theorem ok_come_of (T : Top w K mg) (c_next_rows : Cl P w K mg base (xcK K) "next_rows" ["row", "number"] 1 (m_next_rows)) (c_boxes_behind_call : Cl P w K mg base (xcK K) "boxes_behind_call" ["house", "boxes"] 1 (m_boxes_behind_call)) (c_house_of : Cl P w K mg base (xcK K) "house_of" ["program", "routine"] 1 (m_house_of)) (c_rows_of : Cl P w K mg base (xcK K) "rows_of" ["program", "routine"] 1 (m_rows_of)) : Cl P w K mg base (xcK K) "come_of" ["program", "routine", "state"] 2 (m_come_of) := by
  obtain ⟨fd, F⟩ := T.c.def_ 20 (d := d_come_of) rfl
  refine ⟨fd, def_PD (N := N_come_of) F sc_come_of (fun cdv A outer s H E hr => ?_), t_glo_come_of T, F.kp, F.bindsN fun _ _ _ _ _ _ us hl => match us, hl with | [_, _, _], _ => rfl, lkF F⟩
  exact s_seq (s_asg (iv 2) (g_tup rfl (gs_cons (gn (i := 3) sc_come_of.nd) (gs_cons (gn (i := 4) sc_come_of.nd) (gs_cons (gn (i := 5) sc_come_of.nd) (gs_nil)))))) (s_seq (s_set (i := 6) sc_come_of.nd rfl (.inl rfl) (i_ix (hu_of hr) (i_callC c_rows_of (hr.mono (by omega)) rfl (passes_call (takes_of rfl rfl rfl rfl) (fun _ _ _ _ h => h)) (i_cons (iv 0) (i_cons (iv 1) (i_nil)))) (iv 3))) (s_seq (s_set (i := 7) sc_come_of.nd rfl (.inl rfl) (i_ix (hu_of hr) (iv 6) (i_int))) (s_seq (s_set (i := 8) sc_come_of.nd rfl (.inr rfl) (i_ty call_listU sd_listN rfl (t_list T) rfl (i_cons (iv 4) (i_nil)))) (s_seq (s_if (j_cmp op_in_seq sd_in (iv 7) (i_tup (i_cons (i_str) (i_cons (i_str) (i_cons (i_str) (i_nil))))) rfl) (s_one (s_asg (i_gs (t_GOOD T)) (g_sub (hu_of hr) (iv 8) (i_ix (hu_of hr) (iv 6) (i_int))))) (s_one (s_if (j_cmp (op_eqD (hu64 hr)) sd_eq (iv 7) (i_str) (nomark _)) (s_one (s_asg (i_ix (hu_of hr) (iv 4) (i_ix (hu_of hr) (iv 6) (i_int))) (g_sub (hu_of hr) (iv 8) (i_ix (hu_of hr) (iv 6) (i_int))))) (s_one (s_if (j_cmp (op_eqD (hu64 hr)) sd_eq (iv 7) (i_str) (nomark _)) (s_one (s_set (i := 5) sc_come_of.nd rfl (.inr rfl) (i_tup (i_star (iv 5) (i_cons (i_ix (hu_of hr) (iv 4) (i_ix (hu_of hr) (iv 6) (i_int))) (i_nil)))))) (s_one (s_if (j_cmp (op_eqD (hu64 hr)) sd_eq (iv 7) (i_str) (nomark _)) (s_seq (s_asg (i_ix (hu_of hr) (iv 5) (i_un un_neg sd_neg (i_int))) (g_sub (hu_of hr) (iv 8) (i_ix (hu_of hr) (iv 6) (i_int)))) (s_one (s_set (i := 5) sc_come_of.nd rfl (.inr rfl) (i_cut (iv 5) (o_none) (o_some (i_un un_neg sd_neg (i_int))))))) (s_one (s_if (j_cmp (op_eqD (hu64 hr)) sd_eq (iv 7) (i_str) (nomark _)) (s_one (s_set (i := 8) sc_come_of.nd rfl (.inr rfl) (i_callC c_boxes_behind_call (hr.mono (by omega)) rfl (passes_call (takes_of rfl rfl rfl rfl) (fun _ _ _ _ h => h)) (i_cons (i_callC c_house_of (hr.mono (by omega)) rfl (passes_call (takes_of rfl rfl rfl rfl) (fun _ _ _ _ h => h)) (i_cons (iv 0) (i_cons (i_ix (hu_of hr) (iv 6) (i_int)) (i_nil)))) (i_cons (iv 4) (i_nil)))))) (s_nil)))))))))) (s_one (s_ret (i_lc (own := [("coming", 9)]) rfl sc_come_of.nd (i_seq (i_callC c_next_rows (hr.mono (by omega)) rfl (passes_call (takes_of rfl rfl rfl rfl) (fun _ _ _ _ h => h)) (i_cons (iv 6) (i_cons (iv 3) (i_nil))))) (blkOk_by (own := [("coming", 9)]) (N := N_come_of) (sc := defScope s_come_of) (by decide +kernel)) (fun _ _ _ _ _ => gn (i := 9) sc_come_of.nd) (fun _ _ _ _ _ => ts_nil) (fun _ _ _ _ _ => i_tup (i_cons (iv 9) (i_cons (i_ty call_tupleU sd_tuple rfl (t_tuple T) rfl (i_cons (iv 8) (i_nil))) (i_cons (iv 5) (i_nil))))))))))))
theorem ok_next_level (T : Top w K mg) (c_come_of : Cl P w K mg base (xcK K) "come_of" ["program", "routine", "state"] 2 (m_come_of)) : Cl P w K mg base (xcK K) "next_level" ["program", "routine", "level", "origins"] 3 (m_next_level) := by
  obtain ⟨fd, F⟩ := T.c.def_ 21 (d := d_next_level) rfl
  refine ⟨fd, def_PD (N := N_next_level) F sc_next_level (fun cdv A outer s H E hr => ?_), t_glo_next_level T, F.kp, F.bindsN fun _ _ _ _ _ _ us hl => match us, hl with | [_, _, _, _], _ => rfl, lkF F⟩
  exact s_seq (s_set (i := 4) sc_next_level.nd rfl (.inl rfl) (i_new (i_nil))) (s_seq (s_for (passes_of rfl) rfl (i_seq (iv 2)) (gn (i := 5) sc_next_level.nd) (s_one (s_for (passes_of rfl) rfl (i_seq (i_callC c_come_of (hr.mono (by omega)) rfl (passes_call (takes_of rfl rfl rfl rfl) (fun _ _ _ _ h => h)) (i_cons (iv 0) (i_cons (iv 1) (i_cons (iv 5) (i_nil)))))) (gn (i := 6) sc_next_level.nd) (s_one (s_if (j_cmp (op_notInD (hu10 hr)) sd_notInD (iv 6) (iv 3) rfl) (s_seq (s_asg (iv 5) (g_subD (hu10 hr) (iv 3) (iv 6))) (s_one (s_drop (i_append (iv 4) (iv 6))))) (s_nil)))))) (s_one (s_ret (iv 4))))
theorem ok_survey (T : Top w K mg) (c_next_level : Cl P w K mg base (xcK K) "next_level" ["program", "routine", "level", "origins"] 3 (m_next_level)) (c_first_break : Cl P w K mg base (xcK K) "first_break" ["program", "routine", "states"] 4 (m_first_break)) (c_first_state : Cl P w K mg base (xcK K) "first_state" ["house"] 1 (m_first_state)) (c_house_of : Cl P w K mg base (xcK K) "house_of" ["program", "routine"] 1 (m_house_of)) : Cl P w K mg base (xcK K) "survey" ["program", "routine"] 5 (m_survey) := by
  obtain ⟨fd, F⟩ := T.c.def_ 22 (d := d_survey) rfl
  refine ⟨fd, def_KD (N := N_survey) F sc_survey (fun cdv A outer s H E hr => ?_), t_glo_survey T, F.kp, F.bindsN fun _ _ _ _ _ _ us hl => match us, hl with | [_, _], _ => rfl, lkF F⟩
  exact s_seq (s_set (i := 2) sc_survey.nd rfl (.inl rfl) (i_callC c_first_state (hr.mono (by omega)) rfl (passes_call (takes_of rfl rfl rfl rfl) (fun _ _ _ _ h => h)) (i_cons (i_callC c_house_of (hr.mono (by omega)) rfl (passes_call (takes_of rfl rfl rfl rfl) (fun _ _ _ _ h => h)) (i_cons (iv 0) (i_cons (iv 1) (i_nil)))) (i_nil)))) (s_seq (s_set (i := 3) sc_survey.nd rfl (.inl rfl) (i_dn (iv 2) (i_non) (hu10 hr))) (s_seq (s_set (i := 4) sc_survey.nd rfl (.inl rfl) (i_ls (i_cons (iv 2) (i_nil)))) (s_seq (s_set (i := 5) sc_survey.nd rfl (.inl rfl) (i_non)) (s_seq (s_while (passes_of rfl) (PW.pt (j_and (j_cmp op_gt sd_gt (i_bf call_lenU sd_len rfl (t_len T) rfl (i_cons (iv 4) (i_nil))) (i_int) (nomark _)) (j_and1 (j_cmp op_isNU sd_isN (iv 5) (i_non) (nomark _))))) (s_seq (s_if (j_cmp op_gt sd_gt (i_bf call_lenDn sd_lenD rfl (t_len T) rfl (i_cons (iv 3) (i_nil))) (i_gi (t_MOST_STATES T)) (nomark _)) (s_one (s_raise (own_TooMany T) rfl rfl (takes_of rfl rfl rfl rfl) (t_glo_TooMany T) rfl (i_join (.cons (i_str) (.cons (i_fmt (iv 1)) (.cons (i_str) (.cons (i_fmt (i_gi (t_MOST_STATES T))) (.cons (i_str) (.nil))))))))) (s_nil)) (s_seq (s_set (i := 5) sc_survey.nd rfl (.inl rfl) (i_callC c_first_break (hr.mono (by omega)) rfl (passes_call (takes_of rfl rfl rfl rfl) (fun _ _ _ _ h => h)) (i_cons (iv 0) (i_cons (iv 1) (i_cons (iv 4) (i_nil)))))) (s_one (s_if (j_cmp op_isNU sd_isN (iv 5) (i_non) (nomark _)) (s_one (s_set (i := 4) sc_survey.nd rfl (.inl rfl) (i_callC c_next_level (hr.mono (by omega)) rfl (passes_call (takes_of rfl rfl rfl rfl) (fun _ _ _ _ h => h)) (i_cons (iv 0) (i_cons (iv 1) (i_cons (iv 4) (i_cons (iv 3) (i_nil)))))))) (s_nil)))))) (s_one (s_ret (i_tup (i_cons (iv 3) (i_cons (iv 5) (i_nil))))))))))
theorem ok_way_to (T : Top w K mg)  : Cl P w K mg base (xcK K) "way_to" ["origins", "state"] 1 (m_way_to) := by
  obtain ⟨fd, F⟩ := T.c.def_ 23 (d := d_way_to) rfl
  refine ⟨fd, def_KD (N := N_way_to) F sc_way_to (fun cdv A outer s H E hr => ?_), t_glo_way_to T, F.kp, F.bindsN fun _ _ _ _ _ _ us hl => match us, hl with | [_, _], _ => rfl, lkF F⟩
  exact s_seq (s_set (i := 2) sc_way_to.nd rfl (.inl rfl) (i_new (i_nil))) (s_seq (s_while (passes_of rfl) (j_cmp op_notNU sd_notN (iv 1) (i_non) (nomark _)) (s_seq (s_drop (i_append (iv 2) (i_ix (hu_of hr) (iv 1) (i_int)))) (s_one (s_set (i := 1) sc_way_to.nd rfl (.inl rfl) (i_ixD (hu10 hr) (iv 0) (iv 1)))))) (s_one (s_ret (i_revN (iv 2)))))
theorem ok_look_at (T : Top w K mg) (c_way_to : Cl P w K mg base (xcK K) "way_to" ["origins", "state"] 1 (m_way_to)) (c_survey : Cl P w K mg base (xcK K) "survey" ["program", "routine"] 5 (m_survey)) : Cl P w K mg base (xcK K) "look_at" ["program", "routine"] 6 (m_look_at) := by
  obtain ⟨fd, F⟩ := T.c.def_ 24 (d := d_look_at) rfl
  refine ⟨fd, def_KD (N := N_look_at) F sc_look_at (fun cdv A outer s H E hr => ?_), t_glo_look_at T, F.kp, F.bindsN fun _ _ _ _ _ _ us hl => match us, hl with | [_, _], _ => rfl, lkF F⟩
  exact s_seq (s_asg (i_callC c_survey (hr.mono (by omega)) rfl (passes_call (takes_of rfl rfl rfl rfl) (fun _ _ _ _ h => h)) (i_cons (iv 0) (i_cons (iv 1) (i_nil)))) (g_tup rfl (gs_cons (gn (i := 2) sc_look_at.nd) (gs_cons (gn (i := 3) sc_look_at.nd) (gs_nil))))) (s_seq (s_if (j_cmp op_isNU sd_isN (iv 3) (i_non) (nomark _)) (s_one (s_ret (i_non))) (s_nil)) (s_seq (s_asg (iv 3) (g_tup rfl (gs_cons (gn (i := 4) sc_look_at.nd) (gs_cons (gn (i := 5) sc_look_at.nd) (gs_cons (gn (i := 6) sc_look_at.nd) (gs_nil)))))) (s_one (s_ret (i_tup (i_cons (i_callC c_way_to (hr.mono (by omega)) rfl (passes_call (takes_of rfl rfl rfl rfl) (fun _ _ _ _ h => h)) (i_cons (iv 2) (i_cons (iv 4) (i_nil)))) (i_cons (iv 5) (i_cons (iv 6) (i_nil)))))))))
theorem ok_look (T : Top w K mg) (c_look_at : Cl P w K mg base (xcK K) "look_at" ["program", "routine"] 6 (m_look_at)) (c_check_number : Cl P w K mg base (xcK K) "check_number" ["program", "routine"] 2 (m_check_number)) (c_check_program : Cl P w K mg base (xcK K) "check_program" ["program"] 5 (m_check_program)) : Cl P w K mg base (xcK K) "look" ["program", "routine"] 7 (m_look) := by
  obtain ⟨fd, F⟩ := T.c.def_ 25 (d := d_look) rfl
  refine ⟨fd, def_KD (N := N_look) F sc_look (fun cdv A outer s H E hr => ?_), t_glo_look T, F.kp, F.bindsN fun _ _ _ _ _ _ us hl => match us, hl with | [_, _], _ => rfl, lkF F⟩
  exact s_seq (s_drop (i_callC c_check_program (hr.mono (by omega)) rfl (passes_call (takes_of rfl rfl rfl rfl) (fun _ _ _ _ h => h)) (i_cons (iv 0) (i_nil)))) (s_seq (s_drop (i_callC c_check_number (hr.mono (by omega)) rfl (passes_call (takes_of rfl rfl rfl rfl) (fun _ _ _ _ h => h)) (i_cons (iv 0) (i_cons (iv 1) (i_nil))))) (s_one (s_ret (i_callC c_look_at (hr.mono (by omega)) rfl (passes_call (takes_of rfl rfl rfl rfl) (fun _ _ _ _ h => h)) (i_cons (iv 0) (i_cons (iv 1) (i_nil)))))))
theorem ok_mix (T : Top w K mg)  : Cl P w K mg base (xcK K) "_law_mix" ["_law_script", "_law_seed"] 1 (m_mix) := by
  obtain ⟨fd, F⟩ := T.c.def_ 26 (d := d_mix) rfl
  refine ⟨fd, def_KD (N := N_mix) F sc_mix (fun cdv A outer s H E hr => ?_), t_glo_mix T, F.kp, F.bindsN fun _ _ _ _ _ _ us hl => match us, hl with | [_, _], _ => rfl, lkF F⟩
  exact s_seq (s_set (i := 2) sc_mix.nd rfl (.inl rfl) (iv 1)) (s_seq (s_for (passes_of rfl) rfl (i_seq (iv 0)) (gn (i := 3) sc_mix.nd) (s_one (s_set (i := 2) sc_mix.nd rfl (.inl rfl) (i_op op_mod sd_mod (i_op op_addU sd_add (i_op op_addU sd_add (i_op op_mulU sd_mul (iv 2) (i_int)) (i_op op_mod sd_mod (iv 3) (i_int))) (i_int)) (i_int))))) (s_one (s_ret (i_new (i_cons (iv 2) (i_cons (i_ty call_listU sd_listN rfl (t_list T) rfl (i_cons (iv 0) (i_nil))) (i_cons (i_int) (i_nil))))))))
theorem ok_next (T : Top w K mg)  : Cl P w K mg base (xcK K) "_law_next" ["_law_h", "_law_many"] 1 (m_next) := by
  obtain ⟨fd, F⟩ := T.c.def_ 27 (d := d_next) rfl
  refine ⟨fd, def_PD (N := N_next) F sc_next (fun cdv A outer s H E hr => ?_), t_glo_next T, F.kp, F.bindsN fun _ _ _ _ _ _ us hl => match us, hl with | [_, _], _ => rfl, lkF F⟩
  exact s_seq (s_set (i := 2) sc_next.nd rfl (.inl rfl) (i_op op_mod sd_mod (i_ix (hu_of hr) (iv 0) (i_int)) (i_bf (call_maxU rfl) sd_max rfl (t_max T) rfl (i_cons (i_int) (i_cons (i_bf call_lenU sd_len rfl (t_len T) rfl (i_cons (i_ix (hu_of hr) (iv 0) (i_int)) (i_nil))) (i_nil)))))) (s_seq (s_set (i := 3) sc_next.nd rfl (.inl rfl) (i_ifExp (j_cmp (op_neD (hu64 hr)) sd_ne (i_ix (hu_of hr) (iv 0) (i_int)) (i_ls (i_nil)) (nomark _)) (i_ix (hu_of hr) (i_ix (hu_of hr) (iv 0) (i_int)) (iv 2)) (i_int))) (s_seq (s_if (j_cmp op_ge sd_ge (iv 3) (i_op op_pow sd_pow (i_int) (i_int)) (nomark _)) (s_seq (s_asg (i_op op_fdiv sd_div (iv 3) (iv 1)) (g_sub (hu_of hr) (i_ix (hu_of hr) (iv 0) (i_int)) (iv 2))) (s_one (s_ret (i_op op_mod sd_mod (iv 3) (iv 1))))) (s_nil)) (s_seq (s_asg (i_op op_mod sd_mod (i_op op_addU sd_add (i_op op_addU sd_add (i_op op_mulU sd_mul (i_ix (hu_of hr) (iv 0) (i_int)) (i_int)) (i_op op_mulU sd_mul (iv 3) (i_int))) (i_int)) (i_int)) (g_sub (hu_of hr) (iv 0) (i_int))) (s_seq (s_asg (i_op op_addU sd_add (i_ix (hu_of hr) (iv 0) (i_int)) (i_int)) (g_sub (hu_of hr) (iv 0) (i_int))) (s_one (s_ret (i_op op_mod sd_mod (i_op op_fdiv sd_div (i_ix (hu_of hr) (iv 0) (i_int)) (i_int)) (iv 1))))))))
theorem ok_house (T : Top w K mg) (c_next : Cl P w K mg base (xcK K) "_law_next" ["_law_h", "_law_many"] 1 (m_next)) : Cl P w K mg base (xcK K) "_law_house" ["_law_h"] 2 (m_house) := by
  obtain ⟨fd, F⟩ := T.c.def_ 28 (d := d_house) rfl
  refine ⟨fd, def_PD (N := N_house) F sc_house (fun cdv A outer s H E hr => ?_), t_glo_house T, F.kp, F.bindsN fun _ _ _ _ _ _ us hl => match us, hl with | [_], _ => rfl, lkF F⟩
  exact s_seq (s_set (i := 1) sc_house.nd rfl (.inr rfl) (i_ix (hu_of hr) (i_ls (i_cons (i_int) (i_cons (i_int) (i_cons (i_int) (i_cons (i_int) (i_nil)))))) (i_callC c_next (hr.mono (by omega)) rfl (passes_call (takes_of rfl rfl rfl rfl) (fun _ _ _ _ h => h)) (i_cons (iv 0) (i_cons (i_int) (i_nil)))))) (s_seq (s_set (i := 2) sc_house.nd rfl (.inr rfl) (i_lc (own := [("_law_box", 3)]) rfl sc_house.nd (i_rng rfl (t_range T) (i_int)) (blkOk_by (own := [("_law_box", 3)]) (N := N_house) (sc := defScope s_house) (by decide +kernel)) (fun _ _ _ _ _ => gn (i := 3) sc_house.nd) (fun _ _ _ _ _ => ts_nil) (fun _ _ _ _ _ => i_op op_mulU sd_mul (i_callC c_next (hr.mono (by omega)) rfl (passes_call takes0 (fun _ _ _ _ h => h)) (i_cons (iv 0) (i_cons (iv 1) (i_nil)))) (i_ty call_intU sd_int rfl (t_int T) rfl (i_cons (i_or (i_cmp (op_eqD (hu64 hr)) sd_eq (iv 1) (i_int) (nomark _)) (i_one (i_cmp (op_eqD (hu64 hr)) sd_eq (i_callC c_next (hr.mono (by omega)) rfl (passes_call takes0 (fun _ _ _ _ h => h)) (i_cons (iv 0) (i_cons (i_int) (i_nil)))) (i_int) (nomark _)))) (i_nil)))))) (s_seq (s_set (i := 4) sc_house.nd rfl (.inr rfl) (i_callC c_next (hr.mono (by omega)) rfl (passes_call (takes_of rfl rfl rfl rfl) (fun _ _ _ _ h => h)) (i_cons (iv 0) (i_cons (i_int) (i_nil))))) (s_seq (s_set (i := 5) sc_house.nd rfl (.inl rfl) (i_ty call_tupleU sd_tuple rfl (t_tuple T) rfl (i_cons (i_cut (i_lc (own := [("_law_box", 3)]) rfl sc_house.nd (i_rng rfl (t_range T) (i_int)) (blkOk_by (own := [("_law_box", 3)]) (N := N_house) (sc := defScope s_house) (by decide +kernel)) (fun _ _ _ _ _ => gn (i := 3) sc_house.nd) (fun _ _ _ _ _ => ts_one (j_cmp (op_eqD (hu64 hr)) sd_eq (i_ix (hu_of hr) (iv 2) (iv 3)) (i_int) (nomark _))) (fun _ _ _ _ _ => iv 3)) (o_none) (o_some (i_op op_addU sd_add (i_int) (i_callC c_next (hr.mono (by omega)) rfl (passes_call (takes_of rfl rfl rfl rfl) (fun _ _ _ _ h => h)) (i_cons (iv 0) (i_cons (i_ix (hu_of hr) (i_ls (i_cons (i_int) (i_cons (i_int) (i_nil)))) (i_callC c_next (hr.mono (by omega)) rfl (passes_call (takes_of rfl rfl rfl rfl) (fun _ _ _ _ h => h)) (i_cons (iv 0) (i_cons (i_int) (i_nil))))) (i_nil))))))) (i_nil)))) (s_one (s_ret (i_tup (i_cons (iv 5) (i_cons (iv 4) (i_cons (i_ty call_tupleU sd_tuple rfl (t_tuple T) rfl (i_cons (i_lc (own := [("_law_box", 3)]) rfl sc_house.nd (i_rng rfl (t_range T) (i_int)) (blkOk_by (own := [("_law_box", 3)]) (N := N_house) (sc := defScope s_house) (by decide +kernel)) (fun _ _ _ _ _ => gn (i := 3) sc_house.nd) (fun _ _ _ _ _ => ts_one (PW.pt (j_and (j_cmp (op_eqD (hu64 hr)) sd_eq (i_ix (hu_of hr) (iv 2) (iv 3)) (i_int) (nomark _)) (j_and1 (j_cmp (op_neD (hu64 hr)) sd_ne (iv 3) (iv 4) (nomark _)))))) (fun _ _ _ _ _ => iv 3)) (i_nil))) (i_nil))))))))))
theorem ok_number (T : Top w K mg) (c_next : Cl P w K mg base (xcK K) "_law_next" ["_law_h", "_law_many"] 1 (m_next)) : Cl P w K mg base (xcK K) "_law_number" ["_law_h"] 2 (m_number) := by
  obtain ⟨fd, F⟩ := T.c.def_ 29 (d := d_number) rfl
  refine ⟨fd, def_PD (N := N_number) F sc_number (fun cdv A outer s H E hr => ?_), t_glo_number T, F.kp, F.bindsN fun _ _ _ _ _ _ us hl => match us, hl with | [_], _ => rfl, lkF F⟩
  exact s_one (s_ret (i_ix (hu_of hr) (i_ls (i_cons (i_callC c_next (hr.mono (by omega)) rfl (passes_call (takes_of rfl rfl rfl rfl) (fun _ _ _ _ h => h)) (i_cons (iv 0) (i_cons (i_int) (i_nil)))) (i_cons (i_callC c_next (hr.mono (by omega)) rfl (passes_call (takes_of rfl rfl rfl rfl) (fun _ _ _ _ h => h)) (i_cons (iv 0) (i_cons (i_int) (i_nil)))) (i_nil)))) (i_callC c_next (hr.mono (by omega)) rfl (passes_call (takes_of rfl rfl rfl rfl) (fun _ _ _ _ h => h)) (i_cons (iv 0) (i_cons (i_int) (i_nil))))))
theorem ok_simple (T : Top w K mg) (c_number : Cl P w K mg base (xcK K) "_law_number" ["_law_h"] 2 (m_number)) (c_next : Cl P w K mg base (xcK K) "_law_next" ["_law_h", "_law_many"] 1 (m_next)) : Cl P w K mg base (xcK K) "_law_simple" ["_law_h", "_law_e"] 3 (m_simple) := by
  obtain ⟨fd, F⟩ := T.c.def_ 30 (d := d_simple) rfl
  refine ⟨fd, def_PD (N := N_simple) F sc_simple (fun cdv A outer s H E hr => ?_), t_glo_simple T, F.kp, F.bindsN fun _ _ _ _ _ _ us hl => match us, hl with | [_, _], _ => rfl, lkF F⟩
  exact s_seq (s_setLc (i := 2) (own := [("_law_box", 3)]) rfl sc_simple.nd rfl rfl (sw_true rfl rfl rfl (by decide +kernel)) (i_rng rfl (t_range T) (i_int)) (blkOk_by (own := [("_law_box", 3)]) (N := N_simple) (sc := defScope s_simple) (by decide +kernel)) (fun _ _ _ _ _ => gn (i := 3) sc_simple.nd) (fun _ _ _ _ _ => ts_one (j_cmp (op_eqD (hu64 hr)) sd_eq (i_ix (hu_of hr) (i_ix (hu_of hr) (iv 1) (i_str)) (iv 3)) (i_str) (nomark _))) (fun _ _ _ _ _ => iv 3)) (s_seq (s_set (i := 4) sc_simple.nd rfl (.inl rfl) (i_ix (hu_of hr) (i_ix (hu_of hr) (iv 1) (i_str)) (i_callC c_next (hr.mono (by omega)) rfl (passes_call (takes_of rfl rfl rfl rfl) (fun _ _ _ _ h => h)) (i_cons (iv 0) (i_cons (i_bf call_lenU sd_len rfl (t_len T) rfl (i_cons (i_ix (hu_of hr) (iv 1) (i_str)) (i_nil))) (i_nil)))))) (s_seq (s_set (i := 5) sc_simple.nd rfl (.inl rfl) (i_callC c_next (hr.mono (by omega)) rfl (passes_call (takes_of rfl rfl rfl rfl) (fun _ _ _ _ h => h)) (i_cons (iv 0) (i_cons (i_int) (i_nil))))) (s_seq (s_if (PW.pt (j_or (j_cmp (op_eqD (hu64 hr)) sd_eq (iv 2) (i_ls (i_nil)) (nomark _)) (j_or1 (j_cmp (op_eqD (hu64 hr)) sd_eq (iv 5) (i_int) (nomark _))))) (s_one (s_set (i := 6) sc_simple.nd rfl (.inl rfl) (i_tup (i_cons (i_str) (i_cons (iv 4) (i_cons (i_callC c_number (hr.mono (by omega)) rfl (passes_call (takes_of rfl rfl rfl rfl) (fun _ _ _ _ h => h)) (i_cons (iv 0) (i_nil))) (i_nil))))))) (s_one (s_if (j_cmp (op_eqD (hu64 hr)) sd_eq (iv 5) (i_int) (nomark _)) (s_one (s_set (i := 6) sc_simple.nd rfl (.inl rfl) (i_tup (i_cons (i_str) (i_cons (i_ix (hu_of hr) (iv 2) (i_callC c_next (hr.mono (by omega)) rfl (passes_call (takes_of rfl rfl rfl rfl) (fun _ _ _ _ h => h)) (i_cons (iv 0) (i_cons (i_bf call_lenU sd_len rfl (t_len T) rfl (i_cons (iv 2) (i_nil))) (i_nil))))) (i_nil)))))) (s_one (s_if (j_cmp (op_eqD (hu64 hr)) sd_eq (iv 5) (i_int) (nomark _)) (s_seq (s_setLc (i := 7) (own := [("_law_box", 3)]) rfl sc_simple.nd rfl rfl (sw_true rfl rfl rfl (by decide +kernel)) (i_rng rfl (t_range T) (i_int)) (blkOk_by (own := [("_law_box", 3)]) (N := N_simple) (sc := defScope s_simple) (by decide +kernel)) (fun _ _ _ _ _ => gn (i := 3) sc_simple.nd) (fun _ _ _ _ _ => ts_one (j_cmp (op_neD (hu64 hr)) sd_ne (i_ix (hu_of hr) (i_ix (hu_of hr) (iv 1) (i_str)) (iv 3)) (i_str) (nomark _))) (fun _ _ _ _ _ => iv 3)) (s_one (s_set (i := 6) sc_simple.nd rfl (.inl rfl) (i_tup (i_cons (i_str) (i_cons (iv 4) (i_cons (i_ix (hu_of hr) (iv 7) (i_callC c_next (hr.mono (by omega)) rfl (passes_call (takes_of rfl rfl rfl rfl) (fun _ _ _ _ h => h)) (i_cons (iv 0) (i_cons (i_bf call_lenU sd_len rfl (t_len T) rfl (i_cons (iv 7) (i_nil))) (i_nil))))) (i_nil)))))))) (s_seq (s_par (i := 8) (j := 9) rfl sc_simple.nd rfl rfl (by decide) rfl rfl (i_cons (i_ix (hu_of hr) (iv 2) (i_callC c_next (hr.mono (by omega)) rfl (passes_call (takes_of rfl rfl rfl rfl) (fun _ _ _ _ h => h)) (i_cons (iv 0) (i_cons (i_bf call_lenU sd_len rfl (t_len T) rfl (i_cons (iv 2) (i_nil))) (i_nil))))) (i_cons (i_ix (hu_of hr) (iv 2) (i_callC c_next (hr.mono (by omega)) rfl (passes_call (takes_of rfl rfl rfl rfl) (fun _ _ _ _ h => h)) (i_cons (iv 0) (i_cons (i_bf call_lenU sd_len rfl (t_len T) rfl (i_cons (iv 2) (i_nil))) (i_nil))))) (i_nil))) rfl) (s_one (s_set (i := 6) sc_simple.nd rfl (.inl rfl) (i_tup (i_cons (i_ix (hu_of hr) (i_ls (i_cons (i_str) (i_cons (i_str) (i_nil)))) (i_op op_mod sd_mod (iv 5) (i_int))) (i_cons (iv 4) (i_cons (iv 8) (i_cons (iv 9) (i_nil)))))))))))))) (s_seq (s_drop (i_append (i_ix (hu_of hr) (iv 1) (i_str)) (iv 6))) (s_one (s_if (j_cmp (op_neD (hu64 hr)) sd_ne (i_ix (hu_of hr) (iv 6) (i_int)) (i_str) (nomark _)) (s_one (s_asg (i_ifExp (j_cmp (op_eqD (hu64 hr)) sd_eq (i_ix (hu_of hr) (iv 6) (i_int)) (i_str) (nomark _)) (i_ix (hu_of hr) (i_ix (hu_of hr) (iv 1) (i_str)) (i_ix (hu_of hr) (iv 6) (i_int))) (i_str)) (g_sub (hu_of hr) (i_ix (hu_of hr) (iv 1) (i_str)) (iv 4)))) (s_nil)))))))
theorem ok_calling (T : Top w K mg) (c_next : Cl P w K mg base (xcK K) "_law_next" ["_law_h", "_law_many"] 1 (m_next)) (c_number : Cl P w K mg base (xcK K) "_law_number" ["_law_h"] 2 (m_number)) : Cl P w K mg base (xcK K) "_law_calling" ["_law_h", "_law_e"] 3 (m_calling) := by
  obtain ⟨fd, F⟩ := T.c.def_ 31 (d := d_calling) rfl
  refine ⟨fd, def_PD (N := N_calling) F sc_calling (fun cdv A outer s H E hr => ?_), t_glo_calling T, F.kp, F.bindsN fun _ _ _ _ _ _ us hl => match us, hl with | [_, _], _ => rfl, lkF F⟩
  exact s_seq (s_set (i := 2) sc_calling.nd rfl (.inl rfl) (i_callC c_next (hr.mono (by omega)) rfl (passes_call (takes_of rfl rfl rfl rfl) (fun _ _ _ _ h => h)) (i_cons (iv 0) (i_cons (i_bf call_lenU sd_len rfl (t_len T) rfl (i_cons (i_ix (hu_of hr) (iv 1) (i_str)) (i_nil))) (i_nil))))) (s_seq (s_asg (i_ix (hu_of hr) (i_ix (hu_of hr) (iv 1) (i_str)) (i_ix (hu_of hr) (i_ix (hu_of hr) (iv 1) (i_str)) (iv 2))) (g_tup rfl (gs_cons (gn (i := 3) sc_calling.nd) (gs_cons (gn (i := 4) sc_calling.nd) (gs_cons (gn (i := 5) sc_calling.nd) (gs_nil)))))) (s_seq (s_set (i := 6) sc_calling.nd rfl (.inr rfl) (i_lc (own := [("_law_box", 7)]) rfl sc_calling.nd (i_rng rfl (t_range T) (i_int)) (blkOk_by (own := [("_law_box", 7)]) (N := N_calling) (sc := defScope s_calling) (by decide +kernel)) (fun _ _ _ _ _ => gn (i := 7) sc_calling.nd) (fun _ _ _ _ _ => ts_one (j_cmp op_notIn_seq sd_notIn (iv 7) (i_ix (hu_of hr) (iv 1) (i_str)) rfl)) (fun _ _ _ _ _ => iv 7))) (s_seq (s_if (j_cmp (op_neD (hu64 hr)) sd_ne (i_lc (own := [("_law_box", 7)]) rfl sc_calling.nd (i_seq (i_op op_addU sd_add (iv 3) (i_tup (i_cons (iv 4) (i_nil))))) (blkOk_by (own := [("_law_box", 7)]) (N := N_calling) (sc := defScope s_calling) (by decide +kernel)) (fun _ _ _ _ _ => gn (i := 7) sc_calling.nd) (fun _ _ _ _ _ => ts_one (j_cmp op_in_seq sd_in (iv 7) (iv 6) rfl)) (fun _ _ _ _ _ => iv 7)) (i_ls (i_nil)) (nomark _)) (s_one (s_retN)) (s_nil)) (s_seq (s_for (passes_of rfl) rfl (i_seq (iv 3)) (gn (i := 7) sc_calling.nd) (s_one (s_if (j_cmp (op_neD (hu64 hr)) sd_ne (i_ix (hu_of hr) (i_ix (hu_of hr) (iv 1) (i_str)) (iv 7)) (i_str) (nomark _)) (s_seq (s_drop (i_append (i_ix (hu_of hr) (iv 1) (i_str)) (i_tup (i_cons (i_str) (i_cons (iv 7) (i_cons (i_callC c_number (hr.mono (by omega)) rfl (passes_call (takes_of rfl rfl rfl rfl) (fun _ _ _ _ h => h)) (i_cons (iv 0) (i_nil))) (i_nil))))))) (s_one (s_asg (i_str) (g_sub (hu_of hr) (i_ix (hu_of hr) (iv 1) (i_str)) (iv 7))))) (s_nil)))) (s_seq (s_setLc (i := 8) (own := [("_law_box", 7)]) rfl sc_calling.nd rfl rfl (sw_true rfl rfl rfl (by decide +kernel)) (i_rng rfl (t_range T) (i_int)) (blkOk_by (own := [("_law_box", 7)]) (N := N_calling) (sc := defScope s_calling) (by decide +kernel)) (fun _ _ _ _ _ => gn (i := 7) sc_calling.nd) (fun _ _ _ _ _ => ts_one (PW.pt (j_and (j_cmp op_notIn_seq sd_notIn (iv 7) (iv 5) rfl) (j_and (j_cmp (op_neD (hu64 hr)) sd_ne (i_ix (hu_of hr) (i_ix (hu_of hr) (iv 1) (i_str)) (iv 7)) (i_str) (nomark _)) (j_and1 (j_cmp (op_neD (hu64 hr)) sd_ne (iv 7) (iv 4) (nomark _))))))) (fun _ _ _ _ _ => iv 7)) (s_seq (s_setLc (i := 9) (own := [("_law_box", 7)]) rfl sc_calling.nd rfl rfl (sw_true rfl rfl rfl (by decide +kernel)) (i_seq (iv 8)) (blkOk_by (own := [("_law_box", 7)]) (N := N_calling) (sc := defScope s_calling) (by decide +kernel)) (fun _ _ _ _ _ => gn (i := 7) sc_calling.nd) (fun _ _ _ _ _ => ts_one (PW.pt (j_or (j_cmp op_in_seq sd_in (iv 7) (iv 6) rfl) (j_or1 (j_cmp (op_eqD (hu64 hr)) sd_eq (i_callC c_next (hr.mono (by omega)) rfl (passes_call takes0 (fun _ _ _ _ h => h)) (i_cons (iv 0) (i_cons (i_int) (i_nil)))) (i_int) (nomark _)))))) (fun _ _ _ _ _ => iv 7)) (s_seq (s_drop (i_extend (i_ix (hu_of hr) (iv 1) (i_str)) (i_lc (own := [("_law_box", 7)]) rfl sc_calling.nd (i_seq (iv 9)) (blkOk_by (own := [("_law_box", 7)]) (N := N_calling) (sc := defScope s_calling) (by decide +kernel)) (fun _ _ _ _ _ => gn (i := 7) sc_calling.nd) (fun _ _ _ _ _ => ts_nil) (fun _ _ _ _ _ => i_tup (i_cons (i_str) (i_cons (iv 7) (i_nil))))))) (s_seq (s_drop (i_append (i_ix (hu_of hr) (iv 1) (i_str)) (i_tup (i_cons (i_str) (i_cons (iv 2) (i_nil)))))) (s_seq (s_drop (i_extend (i_ix (hu_of hr) (iv 1) (i_str)) (i_lc (own := [("_law_box", 7)]) rfl sc_calling.nd (i_rev rfl (t_reversed T) (iv 9)) (blkOk_by (own := [("_law_box", 7)]) (N := N_calling) (sc := defScope s_calling) (by decide +kernel)) (fun _ _ _ _ _ => gn (i := 7) sc_calling.nd) (fun _ _ _ _ _ => ts_nil) (fun _ _ _ _ _ => i_tup (i_cons (i_str) (i_cons (iv 7) (i_nil))))))) (s_seq (s_for (passes_of rfl) rfl (i_seq (iv 8)) (gn (i := 7) sc_calling.nd) (s_one (s_asg (i_ifExp (j_cmp op_in_seq sd_in (iv 7) (iv 9) rfl) (i_ix (hu_of hr) (i_ix (hu_of hr) (iv 1) (i_str)) (iv 7)) (i_str)) (g_sub (hu_of hr) (i_ix (hu_of hr) (iv 1) (i_str)) (iv 7))))) (s_one (s_asg (i_str) (g_sub (hu_of hr) (i_ix (hu_of hr) (iv 1) (i_str)) (iv 4))))))))))))))
theorem ok_zeroed (T : Top w K mg) (c_next : Cl P w K mg base (xcK K) "_law_next" ["_law_h", "_law_many"] 1 (m_next)) (c_simple : Cl P w K mg base (xcK K) "_law_simple" ["_law_h", "_law_e"] 3 (m_simple)) : Cl P w K mg base (xcK K) "_law_zeroed" ["_law_h", "_law_e"] 4 (m_zeroed) := by
  obtain ⟨fd, F⟩ := T.c.def_ 32 (d := d_zeroed) rfl
  refine ⟨fd, def_PD (N := N_zeroed) F sc_zeroed (fun cdv A outer s H E hr => ?_), t_glo_zeroed T, F.kp, F.bindsN fun _ _ _ _ _ _ us hl => match us, hl with | [_, _], _ => rfl, lkF F⟩
  exact s_seq (s_setLc (i := 2) (own := [("_law_box", 3)]) rfl sc_zeroed.nd rfl rfl (sw_true rfl rfl rfl (by decide +kernel)) (i_rng rfl (t_range T) (i_int)) (blkOk_by (own := [("_law_box", 3)]) (N := N_zeroed) (sc := defScope s_zeroed) (by decide +kernel)) (fun _ _ _ _ _ => gn (i := 3) sc_zeroed.nd) (fun _ _ _ _ _ => ts_one (j_cmp (op_eqD (hu64 hr)) sd_eq (i_ix (hu_of hr) (i_ix (hu_of hr) (iv 1) (i_str)) (iv 3)) (i_str) (nomark _))) (fun _ _ _ _ _ => iv 3)) (s_seq (s_if (j_cmp (op_eqD (hu64 hr)) sd_eq (iv 2) (i_ls (i_nil)) (nomark _)) (s_one (s_retN)) (s_nil)) (s_seq (s_set (i := 4) sc_zeroed.nd rfl (.inl rfl) (i_ix (hu_of hr) (iv 2) (i_callC c_next (hr.mono (by omega)) rfl (passes_call (takes_of rfl rfl rfl rfl) (fun _ _ _ _ h => h)) (i_cons (iv 0) (i_cons (i_bf call_lenU sd_len rfl (t_len T) rfl (i_cons (iv 2) (i_nil))) (i_nil)))))) (s_seq (s_set (i := 5) sc_zeroed.nd rfl (.inl rfl) (i_bf call_lenU sd_len rfl (t_len T) rfl (i_cons (i_ix (hu_of hr) (iv 1) (i_str)) (i_nil)))) (s_seq (s_drop (i_append (i_ix (hu_of hr) (iv 1) (i_str)) (i_tup (i_cons (i_str) (i_cons (iv 4) (i_cons (i_int) (i_nil))))))) (s_seq (s_set (i := 6) sc_zeroed.nd rfl (.inl rfl) (i_ty call_listU sd_list rfl (t_list T) rfl (i_cons (i_ix (hu_of hr) (iv 1) (i_str)) (i_nil)))) (s_seq (s_for (passes_of rfl) rfl (i_rng rfl (t_range T) (i_op op_addU sd_add (i_int) (i_callC c_next (hr.mono (by omega)) rfl (passes_call (takes_of rfl rfl rfl rfl) (fun _ _ _ _ h => h)) (i_cons (iv 0) (i_cons (i_int) (i_nil)))))) (gn (i := 7) sc_zeroed.nd) (s_one (s_drop (i_callC c_simple (hr.mono (by omega)) rfl (passes_call (takes_of rfl rfl rfl rfl) (fun _ _ _ _ h => h)) (i_cons (iv 0) (i_cons (iv 1) (i_nil))))))) (s_seq (s_if (PW.pt (j_and (j_cmp (op_eqD (hu64 hr)) sd_eq (i_callC c_next (hr.mono (by omega)) rfl (passes_call (takes_of rfl rfl rfl rfl) (fun _ _ _ _ h => h)) (i_cons (iv 0) (i_cons (i_int) (i_nil)))) (i_int) (nomark _)) (j_and (j_cmp (op_eqD (hu64 hr)) sd_eq (i_ix (hu_of hr) (i_ix (hu_of hr) (iv 1) (i_str)) (iv 4)) (i_str) (nomark _)) (j_and1 (j_cmp (op_eqD (hu64 hr)) sd_eq (iv 6) (i_ix (hu_of hr) (iv 1) (i_str)) (nomark _)))))) (s_one (s_drop (i_append (i_ix (hu_of hr) (iv 1) (i_str)) (i_tup (i_cons (i_str) (i_cons (iv 5) (i_nil))))))) (s_nil)) (s_seq (s_asg (i_tup (i_cons (i_str) (i_cons (iv 4) (i_cons (i_bf call_lenU sd_len rfl (t_len T) rfl (i_cons (i_ix (hu_of hr) (iv 1) (i_str)) (i_nil))) (i_nil))))) (g_sub (hu_of hr) (i_ix (hu_of hr) (iv 1) (i_str)) (iv 5))) (s_one (s_for (passes_of rfl) rfl (i_rng rfl (t_range T) (i_int)) (gn (i := 3) sc_zeroed.nd) (s_one (s_if (j_cmp (op_neD (hu64 hr)) sd_ne (i_ix (hu_of hr) (i_ix (hu_of hr) (iv 1) (i_str)) (iv 3)) (i_ix (hu_of hr) (iv 6) (iv 3)) (nomark _)) (s_one (s_asg (i_str) (g_sub (hu_of hr) (i_ix (hu_of hr) (iv 1) (i_str)) (iv 3)))) (s_nil)))))))))))))
theorem ok_kept (T : Top w K mg) (c_number : Cl P w K mg base (xcK K) "_law_number" ["_law_h"] 2 (m_number)) (c_next : Cl P w K mg base (xcK K) "_law_next" ["_law_h", "_law_many"] 1 (m_next)) (c_calling : Cl P w K mg base (xcK K) "_law_calling" ["_law_h", "_law_e"] 3 (m_calling)) (c_zeroed : Cl P w K mg base (xcK K) "_law_zeroed" ["_law_h", "_law_e"] 4 (m_zeroed)) (c_simple : Cl P w K mg base (xcK K) "_law_simple" ["_law_h", "_law_e"] 3 (m_simple)) : Cl P w K mg base (xcK K) "_law_kept" ["_law_h", "_law_houses", "_law_owners", "_law_number_here", "_law_most"] 5 (m_kept) := by
  obtain ⟨fd, F⟩ := T.c.def_ 33 (d := d_kept) rfl
  refine ⟨fd, def_PD (N := N_kept) F sc_kept (fun cdv A outer s H E hr => ?_), t_glo_kept T, F.kp, F.bindsN fun _ _ _ _ _ _ us hl => match us, hl with | [_, _, _, _, _], _ => rfl, lkF F⟩
  exact s_seq (s_asg (i_ix (hu_of hr) (iv 1) (i_ix (hu_of hr) (iv 2) (iv 3))) (g_tup rfl (gs_cons (gn (i := 5) sc_kept.nd) (gs_cons (gn (i := 6) sc_kept.nd) (gs_cons (gn (i := 7) sc_kept.nd) (gs_nil)))))) (s_seq (s_set (i := 8) sc_kept.nd rfl (.inr rfl) (i_lc (own := [("_law_box", 9)]) rfl sc_kept.nd (i_seq (iv 7)) (blkOk_by (own := [("_law_box", 9)]) (N := N_kept) (sc := defScope s_kept) (by decide +kernel)) (fun _ _ _ _ _ => gn (i := 9) sc_kept.nd) (fun _ _ _ _ _ => ts_one (j_cmp (op_eqD (hu64 hr)) sd_eq (i_callC c_next (hr.mono (by omega)) rfl (passes_call takes0 (fun _ _ _ _ h => h)) (i_cons (iv 0) (i_cons (i_int) (i_nil)))) (i_int) (nomark _))) (fun _ _ _ _ _ => iv 9))) (s_seq (s_set (i := 10) sc_kept.nd rfl (.inl rfl) (i_dks (d_cons (i_lcN (own := [("_law_box", 9)]) rfl sc_kept.nd (i_seq (iv 8)) (blkOk_by (own := [("_law_box", 9)]) (N := N_kept) (sc := defScope s_kept) (by decide +kernel)) (fun _ _ _ _ _ => gn (i := 9) sc_kept.nd) (fun _ _ _ _ _ => ts_nil) (fun _ _ _ _ _ => i_tup (i_cons (i_str) (i_cons (iv 9) (i_nil))))) (d_cons (iv 1) (d_cons (iv 2) (d_nil)))))) (s_seq (s_asg (i_lcN (own := [("_law_box", 9)]) rfl sc_kept.nd (i_rng rfl (t_range T) (i_int)) (blkOk_by (own := [("_law_box", 9)]) (N := N_kept) (sc := defScope s_kept) (by decide +kernel)) (fun _ _ _ _ _ => gn (i := 9) sc_kept.nd) (fun _ _ _ _ _ => ts_nil) (fun _ _ _ _ _ => i_ifExp (j_cmp op_in_seq sd_in (iv 9) (iv 5) rfl) (i_str) (i_ifExp (j_cmp op_in_seq sd_in (iv 9) (iv 7) rfl) (i_ty call_strU sd_str rfl (t_str T) rfl (i_cons (iv 9) (i_nil))) (i_str)))) (g_sub (hu_of hr) (iv 10) (i_str))) (s_seq (s_asg (i_lc (own := [("_law_box", 9)]) rfl sc_kept.nd (i_rng rfl (t_range T) (i_int)) (blkOk_by (own := [("_law_box", 9)]) (N := N_kept) (sc := defScope s_kept) (by decide +kernel)) (fun _ _ _ _ _ => gn (i := 9) sc_kept.nd) (fun _ _ _ _ _ => ts_one (PW.pt (j_or (j_cmp op_notIn_seq sd_notIn (iv 9) (iv 7) rfl) (j_or1 (j_cmp op_in_seq sd_in (iv 9) (iv 8) rfl))))) (fun _ _ _ _ _ => iv 9)) (g_sub (hu_of hr) (iv 10) (i_str))) (s_seq (s_for (passes_of rfl) rfl (i_rng rfl (t_range T) (i_callC c_next (hr.mono (by omega)) rfl (passes_call (takes_of rfl rfl rfl rfl) (fun _ _ _ _ h => h)) (i_cons (iv 0) (i_cons (i_op op_addU sd_add (iv 4) (i_int)) (i_nil))))) (gn (i := 11) sc_kept.nd) (s_seq (s_set (i := 12) sc_kept.nd rfl (.inl rfl) (i_callC c_next (hr.mono (by omega)) rfl (passes_call (takes_of rfl rfl rfl rfl) (fun _ _ _ _ h => h)) (i_cons (iv 0) (i_cons (i_int) (i_nil))))) (s_one (s_if (j_cmp op_lt sd_lt (iv 12) (i_int) (nomark _)) (s_one (s_drop (i_callC c_calling (hr.mono (by omega)) rfl (passes_call (takes_of rfl rfl rfl rfl) (fun _ _ _ _ h => h)) (i_cons (iv 0) (i_cons (iv 10) (i_nil)))))) (s_one (s_if (j_cmp (op_eqD (hu64 hr)) sd_eq (iv 12) (i_int) (nomark _)) (s_one (s_drop (i_callC c_zeroed (hr.mono (by omega)) rfl (passes_call (takes_of rfl rfl rfl rfl) (fun _ _ _ _ h => h)) (i_cons (iv 0) (i_cons (iv 10) (i_nil)))))) (s_one (s_drop (i_callC c_simple (hr.mono (by omega)) rfl (passes_call (takes_of rfl rfl rfl rfl) (fun _ _ _ _ h => h)) (i_cons (iv 0) (i_cons (iv 10) (i_nil)))))))))))) (s_seq (s_if (j_cmp (op_neD (hu64 hr)) sd_ne (i_ix (hu_of hr) (i_ix (hu_of hr) (iv 10) (i_str)) (iv 6)) (i_str) (nomark _)) (s_one (s_drop (i_append (i_ix (hu_of hr) (iv 10) (i_str)) (i_tup (i_cons (i_str) (i_cons (iv 6) (i_cons (i_callC c_number (hr.mono (by omega)) rfl (passes_call (takes_of rfl rfl rfl rfl) (fun _ _ _ _ h => h)) (i_cons (iv 0) (i_nil))) (i_nil)))))))) (s_nil)) (s_seq (s_set (i := 13) sc_kept.nd rfl (.inl rfl) (i_op op_addU sd_add (i_op op_addU sd_add (i_ix (hu_of hr) (iv 10) (i_str)) (i_lc (own := [("_law_box", 9)]) rfl sc_kept.nd (i_rev rfl (t_reversed T) (iv 8)) (blkOk_by (own := [("_law_box", 9)]) (N := N_kept) (sc := defScope s_kept) (by decide +kernel)) (fun _ _ _ _ _ => gn (i := 9) sc_kept.nd) (fun _ _ _ _ _ => ts_nil) (fun _ _ _ _ _ => i_tup (i_cons (i_str) (i_cons (iv 9) (i_nil)))))) (i_ls (i_cons (i_tup (i_cons (i_str) (i_nil))) (i_nil))))) (s_seq (s_if (j_cmp op_gt sd_gt (i_bf call_lenU sd_len rfl (t_len T) rfl (i_cons (iv 13) (i_nil))) (i_int) (nomark _)) (s_one (s_set (i := 13) sc_kept.nd rfl (.inl rfl) (i_ls (i_cons (i_tup (i_cons (i_str) (i_cons (iv 6) (i_cons (i_int) (i_nil))))) (i_cons (i_tup (i_cons (i_str) (i_nil))) (i_nil)))))) (s_nil)) (s_one (s_ret (i_tup (i_cons (i_ix (hu_of hr) (iv 2) (iv 3)) (i_cons (i_ty call_tupleU sd_tuple rfl (t_tuple T) rfl (i_cons (iv 13) (i_nil))) (i_nil))))))))))))))
theorem ok_program (T : Top w K mg) (c_kept : Cl P w K mg base (xcK K) "_law_kept" ["_law_h", "_law_houses", "_law_owners", "_law_number_here", "_law_most"] 5 (m_kept)) (c_next : Cl P w K mg base (xcK K) "_law_next" ["_law_h", "_law_many"] 1 (m_next)) (c_house : Cl P w K mg base (xcK K) "_law_house" ["_law_h"] 2 (m_house)) : Cl P w K mg base (xcK K) "_law_program" ["_law_h", "_law_most"] 6 (m_program) := by
  obtain ⟨fd, F⟩ := T.c.def_ 34 (d := d_program) rfl
  refine ⟨fd, def_PD (N := N_program) F sc_program (fun cdv A outer s H E hr => ?_), t_glo_program T, F.kp, F.bindsN fun _ _ _ _ _ _ us hl => match us, hl with | [_, _], _ => rfl, lkF F⟩
  exact s_seq (s_set (i := 2) sc_program.nd rfl (.inr rfl) (i_ty call_tupleU sd_tuple rfl (t_tuple T) rfl (i_cons (i_lc (own := [("_law_k", 3)]) rfl sc_program.nd (i_rng rfl (t_range T) (i_op op_addU sd_add (i_int) (i_callC c_next (hr.mono (by omega)) rfl (passes_call (takes_of rfl rfl rfl rfl) (fun _ _ _ _ h => h)) (i_cons (iv 0) (i_cons (i_int) (i_nil)))))) (blkOk_by (own := [("_law_k", 3)]) (N := N_program) (sc := defScope s_program) (by decide +kernel)) (fun _ _ _ _ _ => gn (i := 3) sc_program.nd) (fun _ _ _ _ _ => ts_nil) (fun _ _ _ _ _ => i_callC c_house (hr.mono (by omega)) rfl (passes_call takes0 (fun _ _ _ _ h => h)) (i_cons (iv 0) (i_nil)))) (i_nil)))) (s_seq (s_set (i := 4) sc_program.nd rfl (.inr rfl) (i_lc (own := [("_law_k", 3)]) rfl sc_program.nd (i_rng rfl (t_range T) (i_op op_addU sd_add (i_int) (i_callC c_next (hr.mono (by omega)) rfl (passes_call (takes_of rfl rfl rfl rfl) (fun _ _ _ _ h => h)) (i_cons (iv 0) (i_cons (iv 1) (i_nil)))))) (blkOk_by (own := [("_law_k", 3)]) (N := N_program) (sc := defScope s_program) (by decide +kernel)) (fun _ _ _ _ _ => gn (i := 3) sc_program.nd) (fun _ _ _ _ _ => ts_nil) (fun _ _ _ _ _ => i_callC c_next (hr.mono (by omega)) rfl (passes_call takes0 (fun _ _ _ _ h => h)) (i_cons (iv 0) (i_cons (i_bf call_lenU sd_len rfl (t_len T) rfl (i_cons (iv 2) (i_nil))) (i_nil)))))) (s_seq (s_set (i := 5) sc_program.nd rfl (.inr rfl) (i_ix (hu_of hr) (i_ls (i_cons (i_int) (i_cons (i_int) (i_nil)))) (i_callC c_next (hr.mono (by omega)) rfl (passes_call (takes_of rfl rfl rfl rfl) (fun _ _ _ _ h => h)) (i_cons (iv 0) (i_cons (i_int) (i_nil)))))) (s_one (s_ret (i_tup (i_cons (iv 2) (i_cons (i_ty call_tupleU sd_tuple rfl (t_tuple T) rfl (i_cons (i_lc (own := [("_law_number_here", 6)]) rfl sc_program.nd (i_rng rfl (t_range T) (i_bf call_lenU sd_len rfl (t_len T) rfl (i_cons (iv 4) (i_nil)))) (blkOk_by (own := [("_law_number_here", 6)]) (N := N_program) (sc := defScope s_program) (by decide +kernel)) (fun _ _ _ _ _ => gn (i := 6) sc_program.nd) (fun _ _ _ _ _ => ts_nil) (fun _ _ _ _ _ => i_callC c_kept (hr.mono (by omega)) rfl (passes_call takes0 (fun _ _ _ _ h => h)) (i_cons (iv 0) (i_cons (iv 2) (i_cons (iv 4) (i_cons (iv 6) (i_cons (iv 5) (i_nil)))))))) (i_nil))) (i_nil))))))))
theorem ok_wild_row (T : Top w K mg) (c_next : Cl P w K mg base (xcK K) "_law_next" ["_law_h", "_law_many"] 1 (m_next)) (c_number : Cl P w K mg base (xcK K) "_law_number" ["_law_h"] 2 (m_number)) : Cl P w K mg base (xcK K) "_law_wild_row" ["_law_h", "_law_rows", "_law_routines"] 3 (m_wild_row) := by
  obtain ⟨fd, F⟩ := T.c.def_ 35 (d := d_wild_row) rfl
  refine ⟨fd, def_PD (N := N_wild_row) F sc_wild_row (fun cdv A outer s H E hr => ?_), t_glo_wild_row T, F.kp, F.bindsN fun _ _ _ _ _ _ us hl => match us, hl with | [_, _, _], _ => rfl, lkF F⟩
  exact s_seq (s_set (i := 3) sc_wild_row.nd rfl (.inl rfl) (i_ls (i_cons (i_str) (i_cons (i_str) (i_cons (i_str) (i_cons (i_str) (i_cons (i_str) (i_cons (i_str) (i_cons (i_str) (i_cons (i_str) (i_cons (i_str) (i_cons (i_str) (i_cons (i_str) (i_cons (i_str) (i_cons (i_str) (i_cons (i_str) (i_nil))))))))))))))))) (s_seq (s_set (i := 3) sc_wild_row.nd rfl (.inl rfl) (i_ix (hu_of hr) (iv 3) (i_callC c_next (hr.mono (by omega)) rfl (passes_call (takes_of rfl rfl rfl rfl) (fun _ _ _ _ h => h)) (i_cons (iv 0) (i_cons (i_int) (i_nil)))))) (s_seq (s_setLc (i := 4) (own := [("_law_k", 5)]) rfl sc_wild_row.nd rfl rfl (sw_true rfl rfl rfl (by decide +kernel)) (i_rng rfl (t_range T) (i_int)) (blkOk_by (own := [("_law_k", 5)]) (N := N_wild_row) (sc := defScope s_wild_row) (by decide +kernel)) (fun _ _ _ _ _ => gn (i := 5) sc_wild_row.nd) (fun _ _ _ _ _ => ts_nil) (fun _ _ _ _ _ => i_callC c_next (hr.mono (by omega)) rfl (passes_call takes0 (fun _ _ _ _ h => h)) (i_cons (iv 0) (i_cons (i_int) (i_nil))))) (s_seq (s_if (j_cmp op_in_seq sd_in (iv 3) (i_tup (i_cons (i_str) (i_cons (i_str) (i_cons (i_str) (i_cons (i_str) (i_cons (i_str) (i_cons (i_str) (i_nil)))))))) rfl) (s_one (s_ret (i_op op_addU sd_add (i_tup (i_cons (iv 3) (i_nil))) (i_ty call_tupleU sd_tuple rfl (t_tuple T) rfl (i_cons (i_cut (iv 4) (o_none) (o_some (i_get2 (hu_of hr) (i_dc (d_cons (i_int) (d_cons (i_int) (d_cons (i_int) (d_nil))))) (iv 3) (i_int) (m2_of rfl rfl rfl rfl)))) (i_nil)))))) (s_nil)) (s_seq (s_if (j_cmp (op_eqD (hu64 hr)) sd_eq (iv 3) (i_str) (nomark _)) (s_one (s_ret (i_tup (i_cons (iv 3) (i_cons (i_ix (hu_of hr) (iv 4) (i_int)) (i_cons (i_callC c_number (hr.mono (by omega)) rfl (passes_call (takes_of rfl rfl rfl rfl) (fun _ _ _ _ h => h)) (i_cons (iv 0) (i_nil))) (i_nil))))))) (s_nil)) (s_seq (s_if (j_cmp (op_eqD (hu64 hr)) sd_eq (iv 3) (i_str) (nomark _)) (s_one (s_ret (i_tup (i_cons (iv 3) (i_cons (i_ix (hu_of hr) (iv 4) (i_int)) (i_cons (i_callC c_next (hr.mono (by omega)) rfl (passes_call (takes_of rfl rfl rfl rfl) (fun _ _ _ _ h => h)) (i_cons (iv 0) (i_cons (iv 1) (i_nil)))) (i_nil))))))) (s_nil)) (s_one (s_ret (i_ix (hu_of hr) (i_dc (d_cons (i_tup (i_cons (i_str) (i_cons (i_callC c_next (hr.mono (by omega)) rfl (passes_call (takes_of rfl rfl rfl rfl) (fun _ _ _ _ h => h)) (i_cons (iv 0) (i_cons (iv 1) (i_nil)))) (i_nil)))) (d_cons (i_tup (i_cons (i_str) (i_cons (i_callC c_next (hr.mono (by omega)) rfl (passes_call (takes_of rfl rfl rfl rfl) (fun _ _ _ _ h => h)) (i_cons (iv 0) (i_cons (iv 2) (i_nil)))) (i_nil)))) (d_cons (i_tup (i_cons (i_str) (i_nil))) (d_nil))))) (iv 3)))))))))
theorem ok_odd (T : Top w K mg) (c_next : Cl P w K mg base (xcK K) "_law_next" ["_law_h", "_law_many"] 1 (m_next)) (c_wild_row : Cl P w K mg base (xcK K) "_law_wild_row" ["_law_h", "_law_rows", "_law_routines"] 3 (m_wild_row)) : Cl P w K mg base (xcK K) "_law_odd" ["_law_h", "_law_program_here", "_law_turns"] 4 (m_odd) := by
  obtain ⟨fd, F⟩ := T.c.def_ 36 (d := d_odd) rfl
  refine ⟨fd, def_PD (N := N_odd) F sc_odd (fun cdv A outer s H E hr => ?_), t_glo_odd T, F.kp, F.bindsN fun _ _ _ _ _ _ us hl => match us, hl with | [_, _, _], _ => rfl, lkF F⟩
  exact s_seq (s_asg (iv 1) (g_tup rfl (gs_cons (gn (i := 3) sc_odd.nd) (gs_cons (gn (i := 4) sc_odd.nd) (gs_nil))))) (s_seq (s_for (passes_of rfl) rfl (i_rng rfl (t_range T) (iv 2)) (gn (i := 5) sc_odd.nd) (s_seq (s_set (i := 6) sc_odd.nd rfl (.inl rfl) (i_callC c_next (hr.mono (by omega)) rfl (passes_call (takes_of rfl rfl rfl rfl) (fun _ _ _ _ h => h)) (i_cons (iv 0) (i_cons (i_bf call_lenU sd_len rfl (t_len T) rfl (i_cons (iv 4) (i_nil))) (i_nil))))) (s_seq (s_asg (i_ix (hu_of hr) (iv 4) (iv 6)) (g_tup rfl (gs_cons (gn (i := 7) sc_odd.nd) (gs_cons (gn (i := 8) sc_odd.nd) (gs_nil))))) (s_seq (s_set (i := 9) sc_odd.nd rfl (.inl rfl) (i_callC c_next (hr.mono (by omega)) rfl (passes_call (takes_of rfl rfl rfl rfl) (fun _ _ _ _ h => h)) (i_cons (iv 0) (i_cons (i_bf call_lenU sd_len rfl (t_len T) rfl (i_cons (iv 8) (i_nil))) (i_nil))))) (s_seq (s_set (i := 10) sc_odd.nd rfl (.inl rfl) (i_callC c_wild_row (hr.mono (by omega)) rfl (passes_call (takes_of rfl rfl rfl rfl) (fun _ _ _ _ h => h)) (i_cons (iv 0) (i_cons (i_bf call_lenU sd_len rfl (t_len T) rfl (i_cons (iv 8) (i_nil))) (i_cons (i_bf call_lenU sd_len rfl (t_len T) rfl (i_cons (iv 4) (i_nil))) (i_nil)))))) (s_seq (s_set (i := 11) sc_odd.nd rfl (.inl rfl) (i_callC c_next (hr.mono (by omega)) rfl (passes_call (takes_of rfl rfl rfl rfl) (fun _ _ _ _ h => h)) (i_cons (iv 0) (i_cons (i_int) (i_nil))))) (s_seq (s_set (i := 12) sc_odd.nd rfl (.inl rfl) (i_ls (i_cons (i_op op_addU sd_add (i_op op_addU sd_add (i_cut (iv 8) (o_none) (o_some (iv 9))) (i_tup (i_cons (iv 10) (i_nil)))) (i_cut (iv 8) (o_some (i_op op_addU sd_add (iv 9) (i_int))) (o_none))) (i_cons (i_op op_addU sd_add (i_op op_addU sd_add (i_cut (iv 8) (o_none) (o_some (iv 9))) (i_tup (i_cons (iv 10) (i_nil)))) (i_cut (iv 8) (o_some (iv 9)) (o_none))) (i_cons (i_op op_addU sd_add (i_cut (iv 8) (o_none) (o_some (iv 9))) (i_cut (iv 8) (o_some (i_op op_addU sd_add (iv 9) (i_int))) (o_none))) (i_cons (iv 8) (i_nil))))))) (s_seq (s_set (i := 12) sc_odd.nd rfl (.inl rfl) (i_ix (hu_of hr) (iv 12) (iv 11))) (s_seq (s_set (i := 13) sc_odd.nd rfl (.inr rfl) (i_bf call_lenU sd_len rfl (t_len T) rfl (i_cons (iv 12) (i_nil)))) (s_seq (s_set (i := 12) sc_odd.nd rfl (.inl rfl) (i_ty call_tupleU sd_tuple rfl (t_tuple T) rfl (i_cons (i_lc (own := [("_law_one", 14)]) rfl sc_odd.nd (i_seq (iv 12)) (blkOk_by (own := [("_law_one", 14)]) (N := N_odd) (sc := defScope s_odd) (by decide +kernel)) (fun _ _ _ _ _ => gn (i := 14) sc_odd.nd) (fun _ _ _ _ _ => ts_nil) (fun _ _ _ _ _ => i_ifExp (j_cmp op_in_seq sd_in (i_ix (hu_of hr) (iv 14) (i_int)) (i_tup (i_cons (i_str) (i_cons (i_str) (i_nil)))) rfl) (i_op op_addU sd_add (i_cut (iv 14) (o_none) (o_some (i_un un_neg sd_neg (i_int)))) (i_tup (i_cons (i_bf (call_minU rfl) sd_min rfl (t_min T) rfl (i_cons (i_ix (hu_of hr) (iv 14) (i_un un_neg sd_neg (i_int))) (i_cons (i_op op_sub sd_sub (iv 13) (i_int)) (i_nil)))) (i_nil)))) (iv 14))) (i_nil)))) (s_seq (s_if (PW.pt (j_and (j_cmp (op_eqD (hu64 hr)) sd_eq (iv 11) (i_int) (nomark _)) (j_and1 (j_cmp op_gt sd_gt (i_bf call_lenU sd_len rfl (t_len T) rfl (i_cons (iv 3) (i_nil))) (i_int) (nomark _))))) (s_one (s_set (i := 7) sc_odd.nd rfl (.inl rfl) (i_callC c_next (hr.mono (by omega)) rfl (passes_call (takes_of rfl rfl rfl rfl) (fun _ _ _ _ h => h)) (i_cons (iv 0) (i_cons (i_bf call_lenU sd_len rfl (t_len T) rfl (i_cons (iv 3) (i_nil))) (i_nil)))))) (s_nil)) (s_one (s_if (PW.pt (j_and (j_chain op_lt sd_lt op_lt sd_lt (i_int) (iv 13) (i_int)) (j_and1 (j_cmp op_in_seq sd_in (i_ix (hu_of hr) (i_ix (hu_of hr) (iv 12) (i_un un_neg sd_neg (i_int))) (i_int)) (i_tup (i_cons (i_str) (i_cons (i_str) (i_nil)))) rfl)))) (s_one (s_set (i := 4) sc_odd.nd rfl (.inl rfl) (i_op op_addU sd_add (i_op op_addU sd_add (i_cut (iv 4) (o_none) (o_some (iv 6))) (i_tup (i_cons (i_tup (i_cons (iv 7) (i_cons (iv 12) (i_nil)))) (i_nil)))) (i_cut (iv 4) (o_some (i_op op_addU sd_add (iv 6) (i_int))) (o_none))))) (s_nil)))))))))))))) (s_one (s_ret (i_tup (i_cons (iv 3) (i_cons (iv 4) (i_nil)))))))
theorem ok_wild (T : Top w K mg) (c_next : Cl P w K mg base (xcK K) "_law_next" ["_law_h", "_law_many"] 1 (m_next)) (c_wild_row : Cl P w K mg base (xcK K) "_law_wild_row" ["_law_h", "_law_rows", "_law_routines"] 3 (m_wild_row)) (c_house : Cl P w K mg base (xcK K) "_law_house" ["_law_h"] 2 (m_house)) : Cl P w K mg base (xcK K) "_law_wild" ["_law_h", "_law_most"] 4 (m_wild) := by
  obtain ⟨fd, F⟩ := T.c.def_ 37 (d := d_wild) rfl
  refine ⟨fd, def_PD (N := N_wild) F sc_wild (fun cdv A outer s H E hr => ?_), t_glo_wild T, F.kp, F.bindsN fun _ _ _ _ _ _ us hl => match us, hl with | [_, _], _ => rfl, lkF F⟩
  exact s_seq (s_set (i := 2) sc_wild.nd rfl (.inl rfl) (i_ty call_tupleU sd_tuple rfl (t_tuple T) rfl (i_cons (i_lc (own := [("_law_k", 3)]) rfl sc_wild.nd (i_rng rfl (t_range T) (i_op op_addU sd_add (i_int) (i_callC c_next (hr.mono (by omega)) rfl (passes_call (takes_of rfl rfl rfl rfl) (fun _ _ _ _ h => h)) (i_cons (iv 0) (i_cons (i_int) (i_nil)))))) (blkOk_by (own := [("_law_k", 3)]) (N := N_wild) (sc := defScope s_wild) (by decide +kernel)) (fun _ _ _ _ _ => gn (i := 3) sc_wild.nd) (fun _ _ _ _ _ => ts_nil) (fun _ _ _ _ _ => i_callC c_house (hr.mono (by omega)) rfl (passes_call takes0 (fun _ _ _ _ h => h)) (i_cons (iv 0) (i_nil)))) (i_nil)))) (s_seq (s_set (i := 4) sc_wild.nd rfl (.inr rfl) (i_op op_addU sd_add (i_int) (i_callC c_next (hr.mono (by omega)) rfl (passes_call (takes_of rfl rfl rfl rfl) (fun _ _ _ _ h => h)) (i_cons (iv 0) (i_cons (i_int) (i_nil)))))) (s_seq (s_set (i := 5) sc_wild.nd rfl (.inl rfl) (i_new (i_nil))) (s_seq (s_for (passes_of rfl) rfl (i_rng rfl (t_range T) (iv 4)) (gn (i := 3) sc_wild.nd) (s_seq (s_set (i := 6) sc_wild.nd rfl (.inr rfl) (i_op op_addU sd_add (i_int) (i_callC c_next (hr.mono (by omega)) rfl (passes_call (takes_of rfl rfl rfl rfl) (fun _ _ _ _ h => h)) (i_cons (iv 0) (i_cons (iv 1) (i_nil)))))) (s_seq (s_set (i := 7) sc_wild.nd rfl (.inl rfl) (i_op op_addU sd_add (i_lc (own := [("_law_row", 8)]) rfl sc_wild.nd (i_rng rfl (t_range T) (i_op op_sub sd_sub (iv 6) (i_int))) (blkOk_by (own := [("_law_row", 8)]) (N := N_wild) (sc := defScope s_wild) (by decide +kernel)) (fun _ _ _ _ _ => gn (i := 8) sc_wild.nd) (fun _ _ _ _ _ => ts_nil) (fun _ _ _ _ _ => i_callC c_wild_row (hr.mono (by omega)) rfl (passes_call takes0 (fun _ _ _ _ h => h)) (i_cons (iv 0) (i_cons (iv 6) (i_cons (iv 4) (i_nil)))))) (i_ls (i_cons (i_ix (hu_of hr) (i_ls (i_cons (i_tup (i_cons (i_str) (i_nil))) (i_cons (i_tup (i_cons (i_str) (i_cons (i_int) (i_nil)))) (i_nil)))) (i_callC c_next (hr.mono (by omega)) rfl (passes_call (takes_of rfl rfl rfl rfl) (fun _ _ _ _ h => h)) (i_cons (iv 0) (i_cons (i_int) (i_nil))))) (i_nil))))) (s_one (s_drop (i_append (iv 5) (i_tup (i_cons (i_callC c_next (hr.mono (by omega)) rfl (passes_call (takes_of rfl rfl rfl rfl) (fun _ _ _ _ h => h)) (i_cons (iv 0) (i_cons (i_bf call_lenU sd_len rfl (t_len T) rfl (i_cons (iv 2) (i_nil))) (i_nil)))) (i_cons (i_ty call_tupleU sd_tuple rfl (t_tuple T) rfl (i_cons (iv 7) (i_nil))) (i_nil)))))))))) (s_one (s_ret (i_tup (i_cons (iv 2) (i_cons (i_ty call_tupleU sd_tuple rfl (t_tuple T) rfl (i_cons (iv 5) (i_nil))) (i_nil)))))))))
theorem ok_any (T : Top w K mg) (c_odd : Cl P w K mg base (xcK K) "_law_odd" ["_law_h", "_law_program_here", "_law_turns"] 4 (m_odd)) (c_next : Cl P w K mg base (xcK K) "_law_next" ["_law_h", "_law_many"] 1 (m_next)) (c_program : Cl P w K mg base (xcK K) "_law_program" ["_law_h", "_law_most"] 6 (m_program)) (c_wild : Cl P w K mg base (xcK K) "_law_wild" ["_law_h", "_law_most"] 4 (m_wild)) : Cl P w K mg base (xcK K) "_law_any" ["_law_h"] 7 (m_any) := by
  obtain ⟨fd, F⟩ := T.c.def_ 38 (d := d_any) rfl
  refine ⟨fd, def_PD (N := N_any) F sc_any (fun cdv A outer s H E hr => ?_), t_glo_any T, F.kp, F.bindsN fun _ _ _ _ _ _ us hl => match us, hl with | [_], _ => rfl, lkF F⟩
  exact s_seq (s_set (i := 1) sc_any.nd rfl (.inl rfl) (i_callC c_next (hr.mono (by omega)) rfl (passes_call (takes_of rfl rfl rfl rfl) (fun _ _ _ _ h => h)) (i_cons (iv 0) (i_cons (i_int) (i_nil))))) (s_seq (s_if (j_cmp (op_eqD (hu64 hr)) sd_eq (iv 1) (i_int) (nomark _)) (s_one (s_ret (i_callC c_wild (hr.mono (by omega)) rfl (passes_call (takes_of rfl rfl rfl rfl) (fun _ _ _ _ h => h)) (i_cons (iv 0) (i_cons (i_ix (hu_of hr) (i_ls (i_cons (i_int) (i_cons (i_int) (i_cons (i_int) (i_nil))))) (i_callC c_next (hr.mono (by omega)) rfl (passes_call (takes_of rfl rfl rfl rfl) (fun _ _ _ _ h => h)) (i_cons (iv 0) (i_cons (i_int) (i_nil))))) (i_nil)))))) (s_nil)) (s_seq (s_set (i := 2) sc_any.nd rfl (.inl rfl) (i_callC c_program (hr.mono (by omega)) rfl (passes_call (takes_of rfl rfl rfl rfl) (fun _ _ _ _ h => h)) (i_cons (iv 0) (i_cons (i_int) (i_nil))))) (s_one (s_ret (i_ifExp (j_cmp (op_eqD (hu64 hr)) sd_eq (iv 1) (i_int) (nomark _)) (iv 2) (i_callC c_odd (hr.mono (by omega)) rfl (passes_call (takes_of rfl rfl rfl rfl) (fun _ _ _ _ h => h)) (i_cons (iv 0) (i_cons (iv 2) (i_cons (i_op op_addU sd_add (i_int) (i_callC c_next (hr.mono (by omega)) rfl (passes_call (takes_of rfl rfl rfl rfl) (fun _ _ _ _ h => h)) (i_cons (iv 0) (i_cons (i_int) (i_nil))))) (i_nil))))))))))
theorem ok_first (T : Top w K mg)  : Cl P w K mg base (xcK K) "_law_first" ["_law_program_here", "_law_number_here"] 1 (m_first) := by
  obtain ⟨fd, F⟩ := T.c.def_ 39 (d := d_first) rfl
  refine ⟨fd, def_PD (N := N_first) F sc_first (fun cdv A outer s H E hr => ?_), t_glo_first T, F.kp, F.bindsN fun _ _ _ _ _ _ us hl => match us, hl with | [_, _], _ => rfl, lkF F⟩
  exact s_seq (s_asg (i_ix (hu_of hr) (i_ix (hu_of hr) (iv 0) (i_int)) (i_ix (hu_of hr) (i_ix (hu_of hr) (i_ix (hu_of hr) (iv 0) (i_int)) (iv 1)) (i_int))) (g_tup rfl (gs_cons (gn (i := 2) sc_first.nd) (gs_cons (gn (i := 3) sc_first.nd) (gs_cons (gn (i := 4) sc_first.nd) (gs_nil)))))) (s_one (s_ret (i_tup (i_cons (i_int) (i_cons (i_ty call_tupleU sd_tuple rfl (t_tuple T) rfl (i_cons (i_lc (own := [("_law_box", 5)]) rfl sc_first.nd (i_rng rfl (t_range T) (i_int)) (blkOk_by (own := [("_law_box", 5)]) (N := N_first) (sc := defScope s_first) (by decide +kernel)) (fun _ _ _ _ _ => gn (i := 5) sc_first.nd) (fun _ _ _ _ _ => ts_nil) (fun _ _ _ _ _ => i_ifExp (j_cmp op_in_seq sd_in (iv 5) (iv 2) rfl) (i_str) (i_ifExp (j_cmp op_in_seq sd_in (iv 5) (iv 4) rfl) (i_ty call_strU sd_str rfl (t_str T) rfl (i_cons (iv 5) (i_nil))) (i_str)))) (i_nil))) (i_cons (i_tup (i_nil)) (i_nil)))))))
theorem ok_not_good (T : Top w K mg)  : Cl P w K mg base (xcK K) "_law_not_good" ["_law_boxes", "_law_some"] 1 (m_not_good) := by
  obtain ⟨fd, F⟩ := T.c.def_ 40 (d := d_not_good) rfl
  refine ⟨fd, def_PD (N := N_not_good) F sc_not_good (fun cdv A outer s H E hr => ?_), t_glo_not_good T, F.kp, F.bindsN fun _ _ _ _ _ _ us hl => match us, hl with | [_, _], _ => rfl, lkF F⟩
  exact s_seq (s_setLc (i := 2) (own := [("_law_box", 3)]) rfl sc_not_good.nd rfl rfl (sw_true rfl rfl rfl (by decide +kernel)) (i_seq (iv 1)) (blkOk_by (own := [("_law_box", 3)]) (N := N_not_good) (sc := defScope s_not_good) (by decide +kernel)) (fun _ _ _ _ _ => gn (i := 3) sc_not_good.nd) (fun _ _ _ _ _ => ts_one (j_cmp (op_neD (hu64 hr)) sd_ne (i_ix (hu_of hr) (iv 0) (iv 3)) (i_str) (nomark _))) (fun _ _ _ _ _ => iv 3)) (s_one (s_ret (i_ifExp (j_cmp (op_neD (hu64 hr)) sd_ne (iv 2) (i_ls (i_nil)) (nomark _)) (i_tup (i_cons (i_ix (hu_of hr) (i_ls (i_cons (i_str) (i_cons (i_str) (i_nil)))) (i_ty call_intU sd_int rfl (t_int T) rfl (i_cons (i_cmp (op_eqD (hu64 hr)) sd_eq (i_ix (hu_of hr) (iv 0) (i_ix (hu_of hr) (iv 2) (i_int))) (i_str) (nomark _)) (i_nil)))) (i_cons (i_ix (hu_of hr) (iv 2) (i_int)) (i_nil)))) (i_non))))
theorem ok_breaks (T : Top w K mg) (c_not_good : Cl P w K mg base (xcK K) "_law_not_good" ["_law_boxes", "_law_some"] 1 (m_not_good)) : Cl P w K mg base (xcK K) "_law_breaks" ["_law_program_here", "_law_number_here", "_law_state"] 2 (m_breaks) := by
  obtain ⟨fd, F⟩ := T.c.def_ 41 (d := d_breaks) rfl
  refine ⟨fd, def_PD (N := N_breaks) F sc_breaks (fun cdv A outer s H E hr => ?_), t_glo_breaks T, F.kp, F.bindsN fun _ _ _ _ _ _ us hl => match us, hl with | [_, _, _], _ => rfl, lkF F⟩
  exact s_seq (s_asg (i_ix (hu_of hr) (i_ix (hu_of hr) (iv 0) (i_int)) (iv 1)) (g_tup rfl (gs_cons (gn (i := 3) sc_breaks.nd) (gs_cons (gn (i := 4) sc_breaks.nd) (gs_nil))))) (s_seq (s_asg (iv 2) (g_tup rfl (gs_cons (gn (i := 5) sc_breaks.nd) (gs_cons (gn (i := 6) sc_breaks.nd) (gs_cons (gn (i := 7) sc_breaks.nd) (gs_nil)))))) (s_seq (s_set (i := 8) sc_breaks.nd rfl (.inl rfl) (i_ix (hu_of hr) (iv 4) (iv 5))) (s_seq (s_if (j_cmp op_in_seq sd_in (i_ix (hu_of hr) (iv 8) (i_int)) (i_tup (i_cons (i_str) (i_cons (i_str) (i_nil)))) rfl) (s_one (s_ret (i_callC c_not_good (hr.mono (by omega)) rfl (passes_call (takes_of rfl rfl rfl rfl) (fun _ _ _ _ h => h)) (i_cons (iv 6) (i_cons (i_cut (iv 8) (o_some (i_int)) (o_none)) (i_nil)))))) (s_nil)) (s_seq (s_if (j_cmp op_in_seq sd_in (i_ix (hu_of hr) (iv 8) (i_int)) (i_tup (i_cons (i_str) (i_cons (i_str) (i_nil)))) rfl) (s_one (s_ret (i_callC c_not_good (hr.mono (by omega)) rfl (passes_call (takes_of rfl rfl rfl rfl) (fun _ _ _ _ h => h)) (i_cons (iv 6) (i_cons (i_ls (i_cons (i_ix (hu_of hr) (iv 8) (i_int)) (i_nil))) (i_nil)))))) (s_nil)) (s_seq (s_if (j_cmp (op_eqD (hu64 hr)) sd_eq (i_ix (hu_of hr) (iv 8) (i_int)) (i_str) (nomark _)) (s_one (s_ret (i_callC c_not_good (hr.mono (by omega)) rfl (passes_call (takes_of rfl rfl rfl rfl) (fun _ _ _ _ h => h)) (i_cons (iv 6) (i_cons (i_ix (hu_of hr) (i_ix (hu_of hr) (i_ix (hu_of hr) (iv 0) (i_int)) (i_ix (hu_of hr) (i_ix (hu_of hr) (i_ix (hu_of hr) (iv 0) (i_int)) (i_ix (hu_of hr) (iv 8) (i_int))) (i_int))) (i_int)) (i_nil)))))) (s_nil)) (s_seq (s_if (PW.pt (j_and (j_cmp op_in_seq sd_in (i_ix (hu_of hr) (iv 8) (i_int)) (i_tup (i_cons (i_str) (i_cons (i_str) (i_nil)))) rfl) (j_and1 (j_cmp (op_eqD (hu64 hr)) sd_eq (i_ix (hu_of hr) (iv 6) (i_ix (hu_of hr) (iv 8) (i_un un_neg sd_neg (i_int)))) (i_str) (nomark _))))) (s_one (s_ret (i_tup (i_cons (i_str) (i_cons (i_ix (hu_of hr) (iv 8) (i_un un_neg sd_neg (i_int))) (i_nil)))))) (s_nil)) (s_seq (s_if (j_cmp (op_eqD (hu64 hr)) sd_eq (i_ix (hu_of hr) (iv 8) (i_int)) (i_str) (nomark _)) (s_one (s_ret (i_ifExp (j_cmp op_gt sd_gt (i_bf call_lenU sd_len rfl (t_len T) rfl (i_cons (iv 7) (i_nil))) (i_int) (nomark _)) (i_tup (i_cons (i_str) (i_cons (i_ix (hu_of hr) (iv 8) (i_int)) (i_nil)))) (i_non)))) (s_nil)) (s_seq (s_if (j_cmp (op_eqD (hu64 hr)) sd_eq (i_ix (hu_of hr) (iv 8) (i_int)) (i_str) (nomark _)) (s_one (s_ret (i_ifExp (j_cmp (op_eqD (hu64 hr)) sd_eq (i_bf call_lenU sd_len rfl (t_len T) rfl (i_cons (iv 7) (i_nil))) (i_int) (nomark _)) (i_tup (i_cons (i_str) (i_cons (i_ix (hu_of hr) (iv 8) (i_int)) (i_nil)))) (i_non)))) (s_nil)) (s_seq (s_if (j_cmp (op_neD (hu64 hr)) sd_ne (i_ix (hu_of hr) (iv 8) (i_int)) (i_str) (nomark _)) (s_one (s_ret (i_non))) (s_nil)) (s_seq (s_if (j_cmp op_gt sd_gt (i_bf call_lenU sd_len rfl (t_len T) rfl (i_cons (iv 7) (i_nil))) (i_int) (nomark _)) (s_one (s_ret (i_tup (i_cons (i_str) (i_cons (i_un un_neg sd_neg (i_int)) (i_nil)))))) (s_nil)) (s_seq (s_setLc (i := 9) (own := [("_law_box", 10)]) rfl sc_breaks.nd rfl rfl (sw_true rfl rfl rfl (by decide +kernel)) (i_seq (i_ix (hu_of hr) (i_ix (hu_of hr) (i_ix (hu_of hr) (iv 0) (i_int)) (iv 3)) (i_int))) (blkOk_by (own := [("_law_box", 10)]) (N := N_breaks) (sc := defScope s_breaks) (by decide +kernel)) (fun _ _ _ _ _ => gn (i := 10) sc_breaks.nd) (fun _ _ _ _ _ => ts_one (j_cmp (op_neD (hu64 hr)) sd_ne (i_ix (hu_of hr) (iv 6) (iv 10)) (i_ty call_strU sd_str rfl (t_str T) rfl (i_cons (iv 10) (i_nil))) (nomark _))) (fun _ _ _ _ _ => iv 10)) (s_one (s_ret (i_ifExp (j_cmp (op_neD (hu64 hr)) sd_ne (iv 9) (i_ls (i_nil)) (nomark _)) (i_tup (i_cons (i_str) (i_cons (i_ix (hu_of hr) (iv 9) (i_int)) (i_nil)))) (i_callC c_not_good (hr.mono (by omega)) rfl (passes_call (takes_of rfl rfl rfl rfl) (fun _ _ _ _ h => h)) (i_cons (iv 6) (i_cons (i_ls (i_cons (i_ix (hu_of hr) (i_ix (hu_of hr) (i_ix (hu_of hr) (iv 0) (i_int)) (iv 3)) (i_int)) (i_nil))) (i_nil))))))))))))))))))
theorem ok_nexts (T : Top w K mg)  : Cl P w K mg base (xcK K) "_law_nexts" ["_law_program_here", "_law_number_here", "_law_state"] 1 (m_nexts) := by
  obtain ⟨fd, F⟩ := T.c.def_ 42 (d := d_nexts) rfl
  refine ⟨fd, def_PD (N := N_nexts) F sc_nexts (fun cdv A outer s H E hr => ?_), t_glo_nexts T, F.kp, F.bindsN fun _ _ _ _ _ _ us hl => match us, hl with | [_, _, _], _ => rfl, lkF F⟩
  exact s_seq (s_asg (iv 2) (g_tup rfl (gs_cons (gn (i := 3) sc_nexts.nd) (gs_cons (gn (i := 4) sc_nexts.nd) (gs_cons (gn (i := 5) sc_nexts.nd) (gs_nil)))))) (s_seq (s_set (i := 6) sc_nexts.nd rfl (.inl rfl) (i_ix (hu_of hr) (i_ix (hu_of hr) (i_ix (hu_of hr) (i_ix (hu_of hr) (iv 0) (i_int)) (iv 1)) (i_int)) (iv 3))) (s_seq (s_set (i := 4) sc_nexts.nd rfl (.inr rfl) (i_ty call_listU sd_listN rfl (t_list T) rfl (i_cons (iv 4) (i_nil)))) (s_seq (s_if (j_cmp (op_eqD (hu64 hr)) sd_eq (i_ix (hu_of hr) (iv 6) (i_int)) (i_str) (nomark _)) (s_one (s_ret (i_ls (i_nil)))) (s_nil)) (s_seq (s_if (j_cmp (op_eqD (hu64 hr)) sd_eq (i_ix (hu_of hr) (iv 6) (i_int)) (i_str) (nomark _)) (s_seq (s_asg (i_ix (hu_of hr) (i_ix (hu_of hr) (iv 0) (i_int)) (i_ix (hu_of hr) (i_ix (hu_of hr) (i_ix (hu_of hr) (iv 0) (i_int)) (i_ix (hu_of hr) (iv 6) (i_int))) (i_int))) (g_tup rfl (gs_cons (gn (i := 7) sc_nexts.nd) (gs_cons (gn (i := 8) sc_nexts.nd) (gs_cons (gn (i := 9) sc_nexts.nd) (gs_nil)))))) (s_seq (s_set (i := 4) sc_nexts.nd rfl (.inr rfl) (i_lcN (own := [("_law_box", 10)]) rfl sc_nexts.nd (i_rng rfl (t_range T) (i_int)) (blkOk_by (own := [("_law_box", 10)]) (N := N_nexts) (sc := defScope s_nexts) (by decide +kernel)) (fun _ _ _ _ _ => gn (i := 10) sc_nexts.nd) (fun _ _ _ _ _ => ts_nil) (fun _ _ _ _ _ => i_ifExp (j_cmp op_in_seq sd_in (iv 10) (iv 9) rfl) (i_ix (hu_of hr) (iv 4) (iv 10)) (i_str)))) (s_one (s_asg (i_str) (g_sub (hu_of hr) (iv 4) (iv 8)))))) (s_one (s_if (j_cmp (op_eqD (hu64 hr)) sd_eq (i_ix (hu_of hr) (iv 6) (i_int)) (i_str) (nomark _)) (s_one (s_set (i := 5) sc_nexts.nd rfl (.inr rfl) (i_op op_addU sd_add (iv 5) (i_tup (i_cons (i_ix (hu_of hr) (iv 4) (i_ix (hu_of hr) (iv 6) (i_int))) (i_nil)))))) (s_one (s_if (j_cmp (op_eqD (hu64 hr)) sd_eq (i_ix (hu_of hr) (iv 6) (i_int)) (i_str) (nomark _)) (s_seq (s_asg (i_ix (hu_of hr) (iv 5) (i_un un_neg sd_neg (i_int))) (g_sub (hu_of hr) (iv 4) (i_ix (hu_of hr) (iv 6) (i_int)))) (s_one (s_set (i := 5) sc_nexts.nd rfl (.inr rfl) (i_cut (iv 5) (o_none) (o_some (i_un un_neg sd_neg (i_int))))))) (s_one (s_if (j_cmp op_in_seq sd_in (i_ix (hu_of hr) (iv 6) (i_int)) (i_tup (i_cons (i_str) (i_cons (i_str) (i_cons (i_str) (i_cons (i_str) (i_nil)))))) rfl) (s_one (s_asg (i_ifExp (j_cmp (op_eqD (hu64 hr)) sd_eq (i_ix (hu_of hr) (iv 6) (i_int)) (i_str) (nomark _)) (i_ix (hu_of hr) (iv 4) (i_ix (hu_of hr) (iv 6) (i_int))) (i_str)) (g_sub (hu_of hr) (iv 4) (i_ix (hu_of hr) (iv 6) (i_int))))) (s_nil)))))))) (s_seq (s_set (i := 11) sc_nexts.nd rfl (.inl rfl) (i_get2 (hu_of hr) (i_dc (d_cons (i_ls (i_cons (i_ix (hu_of hr) (iv 6) (i_un un_neg sd_neg (i_int))) (i_nil))) (d_cons (i_sortSet rfl (t_sorted T) rfl (t_set T) rfl (i_ls (i_cons (i_op op_addU sd_add (iv 3) (i_int)) (i_cons (i_ix (hu_of hr) (iv 6) (i_un un_neg sd_neg (i_int))) (i_nil))))) (d_nil)))) (i_ix (hu_of hr) (iv 6) (i_int)) (i_ls (i_cons (i_op op_addU sd_add (iv 3) (i_int)) (i_nil))) (m2_of rfl rfl rfl rfl))) (s_one (s_ret (i_lc (own := [("_law_goal", 12)]) rfl sc_nexts.nd (i_seq (iv 11)) (blkOk_by (own := [("_law_goal", 12)]) (N := N_nexts) (sc := defScope s_nexts) (by decide +kernel)) (fun _ _ _ _ _ => gn (i := 12) sc_nexts.nd) (fun _ _ _ _ _ => ts_nil) (fun _ _ _ _ _ => i_tup (i_cons (iv 12) (i_cons (i_ty call_tupleU sd_tuple rfl (t_tuple T) rfl (i_cons (iv 4) (i_nil))) (i_cons (iv 5) (i_nil)))))))))))))
theorem ok_look_ (T : Top w K mg) (c_nexts : Cl P w K mg base (xcK K) "_law_nexts" ["_law_program_here", "_law_number_here", "_law_state"] 1 (m_nexts)) (c_breaks : Cl P w K mg base (xcK K) "_law_breaks" ["_law_program_here", "_law_number_here", "_law_state"] 2 (m_breaks)) (c_first : Cl P w K mg base (xcK K) "_law_first" ["_law_program_here", "_law_number_here"] 1 (m_first)) : Cl P w K mg base (xcK K) "_law_look" ["_law_program_here", "_law_number_here"] 3 (m_look_) := by
  obtain ⟨fd, F⟩ := T.c.def_ 43 (d := d_look_) rfl
  refine ⟨fd, def_KD (N := N_look_) F sc_look_ (fun cdv A outer s H E hr => ?_), t_glo_look_ T, F.kp, F.bindsN fun _ _ _ _ _ _ us hl => match us, hl with | [_, _], _ => rfl, lkF F⟩
  exact s_seq (s_set (i := 2) sc_look_.nd rfl (.inl rfl) (i_callC c_first (hr.mono (by omega)) rfl (passes_call (takes_of rfl rfl rfl rfl) (fun _ _ _ _ h => h)) (i_cons (iv 0) (i_cons (iv 1) (i_nil))))) (s_seq (s_set (i := 3) sc_look_.nd rfl (.inl rfl) (i_dn (iv 2) (i_bl) (hu10 hr))) (s_seq (s_set (i := 4) sc_look_.nd rfl (.inl rfl) (i_ls (i_cons (i_tup (i_cons (i_ls (i_nil)) (i_cons (iv 2) (i_nil)))) (i_nil)))) (s_seq (s_while (passes_of rfl) (j_cmp (op_neD (hu64 hr)) sd_ne (iv 4) (i_ls (i_nil)) (nomark _)) (s_seq (s_set (i := 5) sc_look_.nd rfl (.inl rfl) (i_new (i_nil))) (s_seq (s_for (passes_of rfl) rfl (i_seq (iv 4)) (g_tup rfl (gs_cons (gn (i := 6) sc_look_.nd) (gs_cons (gn (i := 7) sc_look_.nd) (gs_nil)))) (s_seq (s_set (i := 8) sc_look_.nd rfl (.inl rfl) (i_callC c_breaks (hr.mono (by omega)) rfl (passes_call (takes_of rfl rfl rfl rfl) (fun _ _ _ _ h => h)) (i_cons (iv 0) (i_cons (iv 1) (i_cons (iv 7) (i_nil)))))) (s_seq (s_if (j_cmp op_notNU sd_notN (iv 8) (i_non) (nomark _)) (s_one (s_ret (i_tup (i_cons (i_op op_addU sd_add (i_tup (i_cons (i_op op_addU sd_add (iv 6) (i_ls (i_cons (i_ix (hu_of hr) (iv 7) (i_int)) (i_nil)))) (i_nil))) (iv 8)) (i_cons (iv 3) (i_nil)))))) (s_nil)) (s_one (s_for (passes_of rfl) rfl (i_seq (i_callC c_nexts (hr.mono (by omega)) rfl (passes_call (takes_of rfl rfl rfl rfl) (fun _ _ _ _ h => h)) (i_cons (iv 0) (i_cons (iv 1) (i_cons (iv 7) (i_nil)))))) (gn (i := 9) sc_look_.nd) (s_one (s_if (j_cmp (op_notInD (hu10 hr)) sd_notInD (iv 9) (iv 3) rfl) (s_seq (s_asg (i_bl) (g_subD (hu10 hr) (iv 3) (iv 9))) (s_one (s_drop (i_append (iv 5) (i_tup (i_cons (i_op op_addU sd_add (iv 6) (i_ls (i_cons (i_ix (hu_of hr) (iv 7) (i_int)) (i_nil)))) (i_cons (iv 9) (i_nil)))))))) (s_nil)))))))) (s_seq (s_if (j_cmp op_gt sd_gt (i_bf call_lenDn sd_lenD rfl (t_len T) rfl (i_cons (iv 3) (i_nil))) (i_int) (nomark _)) (s_one (s_ret (i_tup (i_cons (i_str) (i_cons (iv 3) (i_nil)))))) (s_nil)) (s_one (s_set (i := 4) sc_look_.nd rfl (.inl rfl) (iv 5))))))) (s_one (s_ret (i_tup (i_cons (i_non) (i_cons (iv 3) (i_nil)))))))))
theorem ok_walked (T : Top w K mg) (c_nexts : Cl P w K mg base (xcK K) "_law_nexts" ["_law_program_here", "_law_number_here", "_law_state"] 1 (m_nexts)) (c_breaks : Cl P w K mg base (xcK K) "_law_breaks" ["_law_program_here", "_law_number_here", "_law_state"] 2 (m_breaks)) (c_first : Cl P w K mg base (xcK K) "_law_first" ["_law_program_here", "_law_number_here"] 1 (m_first)) : Cl P w K mg base (xcK K) "_law_walked" ["_law_program_here", "_law_number_here", "_law_way"] 3 (m_walked) := by
  obtain ⟨fd, F⟩ := T.c.def_ 44 (d := d_walked) rfl
  refine ⟨fd, def_PD (N := N_walked) F sc_walked (fun cdv A outer s H E hr => ?_), t_glo_walked T, F.kp, F.bindsN fun _ _ _ _ _ _ us hl => match us, hl with | [_, _, _], _ => rfl, lkF F⟩
  exact s_seq (s_set (i := 3) sc_walked.nd rfl (.inl rfl) (i_callC c_first (hr.mono (by omega)) rfl (passes_call (takes_of rfl rfl rfl rfl) (fun _ _ _ _ h => h)) (i_cons (iv 0) (i_cons (iv 1) (i_nil))))) (s_seq (s_for (passes_of rfl) rfl (i_rng rfl (t_range T) (i_bf call_lenU sd_len rfl (t_len T) rfl (i_cons (iv 2) (i_nil)))) (gn (i := 4) sc_walked.nd) (s_seq (s_set (i := 5) sc_walked.nd rfl (.inl rfl) (i_callC c_breaks (hr.mono (by omega)) rfl (passes_call (takes_of rfl rfl rfl rfl) (fun _ _ _ _ h => h)) (i_cons (iv 0) (i_cons (iv 1) (i_cons (iv 3) (i_nil)))))) (s_seq (s_if (PW.pt (j_or (j_cmp (op_neD (hu64 hr)) sd_ne (i_ix (hu_of hr) (iv 3) (i_int)) (i_ix (hu_of hr) (iv 2) (iv 4)) (nomark _)) (j_or1 (j_cmp (op_neD (hu64 hr)) sd_ne (i_cmp op_notNU sd_notN (iv 5) (i_non) (nomark _)) (i_cmp (op_eqD (hu64 hr)) sd_eq (iv 4) (i_op op_sub sd_sub (i_bf call_lenU sd_len rfl (t_len T) rfl (i_cons (iv 2) (i_nil))) (i_int)) (nomark _)) (nomark _))))) (s_one (s_ret (i_tup (i_cons (i_bl) (i_cons (iv 5) (i_nil)))))) (s_nil)) (s_seq (s_if (j_cmp op_notNU sd_notN (iv 5) (i_non) (nomark _)) (s_one (s_ret (i_tup (i_cons (i_bl) (i_cons (iv 5) (i_nil)))))) (s_nil)) (s_seq (s_setLc (i := 6) (own := [("_law_behind", 7)]) rfl sc_walked.nd rfl rfl (sw_true rfl rfl rfl (by decide +kernel)) (i_seq (i_callC c_nexts (hr.mono (by omega)) rfl (passes_call (takes_of rfl rfl rfl rfl) (fun _ _ _ _ h => h)) (i_cons (iv 0) (i_cons (iv 1) (i_cons (iv 3) (i_nil)))))) (blkOk_by (own := [("_law_behind", 7)]) (N := N_walked) (sc := defScope s_walked) (by decide +kernel)) (fun _ _ _ _ _ => gn (i := 7) sc_walked.nd) (fun _ _ _ _ _ => ts_one (j_cmp (op_eqD (hu64 hr)) sd_eq (i_ix (hu_of hr) (iv 7) (i_int)) (i_ix (hu_of hr) (i_op op_addU sd_add (iv 2) (i_ls (i_cons (i_un un_neg sd_neg (i_int)) (i_nil)))) (i_op op_addU sd_add (iv 4) (i_int))) (nomark _))) (fun _ _ _ _ _ => iv 7)) (s_seq (s_if (j_cmp (op_eqD (hu64 hr)) sd_eq (iv 6) (i_ls (i_nil)) (nomark _)) (s_one (s_ret (i_tup (i_cons (i_bl) (i_cons (i_non) (i_nil)))))) (s_nil)) (s_one (s_set (i := 3) sc_walked.nd rfl (.inl rfl) (i_ix (hu_of hr) (iv 6) (i_int)))))))))) (s_one (s_ret (i_tup (i_cons (i_bl) (i_cons (i_non) (i_nil)))))))
theorem ok_shorter (T : Top w K mg) (c_nexts : Cl P w K mg base (xcK K) "_law_nexts" ["_law_program_here", "_law_number_here", "_law_state"] 1 (m_nexts)) (c_breaks : Cl P w K mg base (xcK K) "_law_breaks" ["_law_program_here", "_law_number_here", "_law_state"] 2 (m_breaks)) (c_first : Cl P w K mg base (xcK K) "_law_first" ["_law_program_here", "_law_number_here"] 1 (m_first)) : Cl P w K mg base (xcK K) "_law_shorter" ["_law_program_here", "_law_number_here", "_law_many"] 3 (m_shorter) := by
  obtain ⟨fd, F⟩ := T.c.def_ 45 (d := d_shorter) rfl
  refine ⟨fd, def_KD (N := N_shorter) F sc_shorter (fun cdv A outer s H E hr => ?_), t_glo_shorter T, F.kp, F.bindsN fun _ _ _ _ _ _ us hl => match us, hl with | [_, _, _], _ => rfl, lkF F⟩
  exact s_seq (s_set (i := 3) sc_shorter.nd rfl (.inl rfl) (i_ls (i_cons (i_callC c_first (hr.mono (by omega)) rfl (passes_call (takes_of rfl rfl rfl rfl) (fun _ _ _ _ h => h)) (i_cons (iv 0) (i_cons (iv 1) (i_nil)))) (i_nil)))) (s_seq (s_for (passes_of rfl) rfl (i_rng rfl (t_range T) (i_op op_sub sd_sub (iv 2) (i_int))) (gn (i := 4) sc_shorter.nd) (s_seq (s_set (i := 5) sc_shorter.nd rfl (.inl rfl) (i_new (i_nil))) (s_seq (s_for (passes_of rfl) rfl (i_seq (iv 3)) (gn (i := 6) sc_shorter.nd) (s_seq (s_if (j_cmp op_notNU sd_notN (i_callC c_breaks (hr.mono (by omega)) rfl (passes_call (takes_of rfl rfl rfl rfl) (fun _ _ _ _ h => h)) (i_cons (iv 0) (i_cons (iv 1) (i_cons (iv 6) (i_nil))))) (i_non) (nomark _)) (s_one (s_ret (i_bl))) (s_nil)) (s_one (s_drop (i_extend (iv 5) (i_callC c_nexts (hr.mono (by omega)) rfl (passes_call (takes_of rfl rfl rfl rfl) (fun _ _ _ _ h => h)) (i_cons (iv 0) (i_cons (iv 1) (i_cons (iv 6) (i_nil)))))))))) (s_one (s_set (i := 3) sc_shorter.nd rfl (.inl rfl) (i_sortSetN rfl (t_sorted T) rfl (t_set T) rfl (hu64 hr) (iv 5))))))) (s_one (s_ret (i_bl))))
theorem ok_law (T : Top w K mg) (c_walked : Cl P w K mg base (xcK K) "_law_walked" ["_law_program_here", "_law_number_here", "_law_way"] 3 (m_walked)) (c_shorter : Cl P w K mg base (xcK K) "_law_shorter" ["_law_program_here", "_law_number_here", "_law_many"] 3 (m_shorter)) (c_look : Cl P w K mg base (xcK K) "look" ["program", "routine"] 7 (m_look)) (c_look_ : Cl P w K mg base (xcK K) "_law_look" ["_law_program_here", "_law_number_here"] 3 (m_look_)) (c_any : Cl P w K mg base (xcK K) "_law_any" ["_law_h"] 7 (m_any)) (c_mix : Cl P w K mg base (xcK K) "_law_mix" ["_law_script", "_law_seed"] 1 (m_mix)) : Cl P w K mg base (xcK K) "law" ["_law_script"] 8 (m_law) := by
  obtain ⟨fd, F⟩ := T.c.def_ 46 (d := d_law) rfl
  refine ⟨fd, def_KD (N := N_law) F sc_law (fun cdv A outer s H E hr => ?_), t_glo_law T, F.kp, F.bindsN fun _ _ _ _ _ _ us hl => match us, hl with | [_], _ => rfl, lkF F⟩
  exact s_seq (s_set (i := 1) sc_law.nd rfl (.inl rfl) (i_callC c_mix (hr.mono (by omega)) rfl (passes_call (takes_of rfl rfl rfl rfl) (fun _ _ _ _ h => h)) (i_cons (iv 0) (i_cons (i_int) (i_nil))))) (s_seq (s_for (passes_of rfl) rfl (i_rng rfl (t_range T) (i_int)) (gn (i := 2) sc_law.nd) (s_seq (s_set (i := 3) sc_law.nd rfl (.inl rfl) (i_callC c_any (hr.mono (by omega)) rfl (passes_call (takes_of rfl rfl rfl rfl) (fun _ _ _ _ h => h)) (i_cons (iv 1) (i_nil)))) (s_one (s_for (passes_of rfl) rfl (i_rng rfl (t_range T) (i_bf call_lenU sd_len rfl (t_len T) rfl (i_cons (i_ix (hu_of hr) (iv 3) (i_int)) (i_nil)))) (gn (i := 4) sc_law.nd) (s_seq (s_if (j_cmp (op_eqD (hu64 hr)) sd_eq (i_ix (hu_of hr) (i_callC c_look_ (hr.mono (by omega)) rfl (passes_call (takes_of rfl rfl rfl rfl) (fun _ _ _ _ h => h)) (i_cons (iv 3) (i_cons (iv 4) (i_nil)))) (i_int)) (i_str) (nomark _)) (s_one (s_cont)) (s_nil)) (s_seq (s_set (i := 5) sc_law.nd rfl (.inl rfl) (i_callC c_look (hr.mono (by omega)) rfl (passes_call (takes_of rfl rfl rfl rfl) (fun _ _ _ _ h => h)) (i_cons (iv 3) (i_cons (iv 4) (i_nil))))) (s_one (s_if (j_cmp op_notNU sd_notN (iv 5) (i_non) (nomark _)) (s_seq (s_asg (iv 5) (g_tup rfl (gs_cons (gn (i := 6) sc_law.nd) (gs_cons (gn (i := 7) sc_law.nd) (gs_cons (gn (i := 8) sc_law.nd) (gs_nil)))))) (s_one (s_if (PW.pt (j_or (j_cmp (op_neD (hu64 hr)) sd_ne (i_callC c_walked (hr.mono (by omega)) rfl (passes_call (takes_of rfl rfl rfl rfl) (fun _ _ _ _ h => h)) (i_cons (iv 3) (i_cons (iv 4) (i_cons (iv 6) (i_nil))))) (i_tup (i_cons (i_bl) (i_cons (i_tup (i_cons (iv 7) (i_cons (iv 8) (i_nil)))) (i_nil)))) (nomark _)) (j_or1 (j_val (i_callC c_shorter (hr.mono (by omega)) rfl (passes_call (takes_of rfl rfl rfl rfl) (fun _ _ _ _ h => h)) (i_cons (iv 3) (i_cons (iv 4) (i_cons (i_bf call_lenU sd_len rfl (t_len T) rfl (i_cons (iv 6) (i_nil))) (i_nil))))))))) (s_one (s_ret (i_bl))) (s_nil)))) (s_nil))))))))) (s_one (s_ret (i_bl))))
end
end

/-! Pure0 -/
/-! Pure0: what a piece of the small machine tells, from behind to the front. No Python here. -/
section
open PySem L2
structure Post {α : Type} (r : R α) (Q : α → Store → Prop) : Prop where
  told : match r with
    | .ok a S => Q a S
    | _ => False
section
variable {α β : Type} {S : Store} {env : Env} {Q : PV → Store → Prop} {QB : Bool → Store → Prop} {QA : List PV → Store → Prop} {QS : Fl × Env → Store → Prop}
theorem Post.ok {a : α} {Q : α → Store → Prop} : Post (.ok a S) Q ↔ Q a S := ⟨fun h => h.told, fun h => ⟨h⟩⟩
theorem Post.bad {Q : α → Store → Prop} : Post .bad Q ↔ False := ⟨fun h => h.told, fun h => h.elim⟩
theorem Post.exc {e : PExc} {Q : α → Store → Prop} : Post (.exc e S) Q ↔ False := ⟨fun h => h.told, fun h => h.elim⟩
theorem Post.bind {r : R α} {f : α → Store → R β} {Q : β → Store → Prop} : Post (r.bind f) Q ↔ Post r fun a S => Post (f a S) Q := by
  cases r with
  | ok a S =>
    show Post (f a S) Q ↔ _
    exact (Post.ok (Q := fun a S => Post (f a S) Q)).symm
  | exc e S => exact ⟨fun h => (Post.exc.mp h).elim, fun h => (Post.exc.mp h).elim⟩
  | bad => exact ⟨fun h => (Post.bad.mp h).elim, fun h => (Post.bad.mp h).elim⟩
theorem Post.nox {r : R α} {Q : α → Store → Prop} : Post r.nox Q ↔ Post r Q := by
  cases r with
  | ok a S => exact Iff.rfl
  | exc e S => exact ⟨fun h => (Post.bad.mp h).elim, fun h => (Post.exc.mp h).elim⟩
  | bad => exact Iff.rfl
theorem Post.ite {c : Prop} [Decidable c] {a b : R α} {Q : α → Store → Prop} : Post (if c then a else b) Q ↔ if c then Post a Q else Post b Q := by by_cases h : c <;> simp [h]
theorem Post.mono {r : R α} {Q Q' : α → Store → Prop} (h : Post r Q) (m : ∀ a S, Q a S → Q' a S) : Post r Q' := by
  cases r with
  | ok a S => exact ⟨m a S h.told⟩
  | exc e S => exact (Post.exc.mp h).elim
  | bad => exact (Post.bad.mp h).elim
theorem Post.out {r : R α} {Q : α → Store → Prop} (h : Post r Q) : ∃ a S, r = .ok a S ∧ Q a S := by
  cases r with
  | ok a S => exact ⟨a, S, rfl, h.told⟩
  | exc e S => exact (Post.exc.mp h).elim
  | bad => exact (Post.bad.mp h).elim
theorem Post.of {r : R α} {a : α} {S : Store} {Q : α → Store → Prop} (e : r = .ok a S) (h : Q a S) : Post r Q := by rw [e]; exact ⟨h⟩
/-! expressions -/
theorem w_var {i : Nat} {x : PV} (h : env[i]? = some (some x)) : Post (eVar i env S) Q ↔ Q x S := by unfold eVar; rw [h]; exact Post.ok
theorem w_c {x : PV} : Post (eC x env S) Q ↔ Q x S := Post.ok
theorem w_un {op : Op1} {a : XE} : Post (eUn op a env S) Q ↔ Post (a env S) fun x S => Post (op x S) Q := Post.bind
theorem w_op {op : Op2} {a b : XE} : Post (eOp op a b env S) Q ↔ Post (a env S) fun x S => Post (b env S) fun y S => Post (op x y S) Q := by unfold eOp; rw [Post.bind]; simp only [Post.bind]
theorem w_nil : Post (aNil env S) QA ↔ QA [] S := Post.ok
theorem w_cons {a : XE} {r : XA} : Post (aCons a r env S) QA ↔ Post (a env S) fun x S => Post (r env S) fun xs S => QA (x :: xs) S := by unfold aCons; rw [Post.bind]; simp only [Post.bind, Post.ok]
theorem w_call {f : XF} {a : XA} : Post (eCall f a env S) Q ↔ Post (a env S) fun xs S => Post (f xs S) Q := Post.bind
theorem w_bf {f : Bf} {a : XA} : Post (eBf f a env S) Q ↔ Post (a env S) fun xs S => Post (f xs S) Q := Post.bind
theorem w_tup {a : XA} : Post (eTup a env S) Q ↔ Post (a env S) fun xs S => Post (if xs.length ≤ lim then R.ok (.tup xs) S else .bad) Q := Post.bind
theorem w_ls {a : XA} : Post (eLs a env S) Q ↔ Post (a env S) fun xs S => Post (if xs.length ≤ lim then R.ok (.ls xs) S else .bad) Q := Post.bind
theorem w_new {a : XA} : Post (eNew a env S) Q ↔ Post (a env S) fun xs S => Post (if xs.length ≤ lim then R.ok (.loc S.length) (S ++ [.lst xs]) else .bad) Q := Post.bind
theorem w_ifE {c : XB} {a b : XE} : Post (eIf c a b env S) Q ↔ Post (c env S) fun k S => if k = true then Post (a env S) Q else Post (b env S) Q := by unfold eIf; rw [Post.bind]; simp only [Post.ite]
theorem w_and {a b : XE} : Post (eAnd a b env S) Q ↔ Post (a env S) fun x S => match x with | .bl true => Post (b env S) Q | .bl false => Q (.bl false) S | _ => False := by
  unfold eAnd
  rw [Post.bind]
  constructor <;> (intro h; refine h.mono fun x S h => ?_; split at h <;> simp_all [Post.ok, Post.bad, Post.exc])
theorem w_or {a b : XE} : Post (eOr a b env S) Q ↔ Post (a env S) fun x S => match x with | .bl true => Q (.bl true) S | .bl false => Post (b env S) Q | _ => False := by
  unfold eOr
  rw [Post.bind]
  constructor <;> (intro h; refine h.mono fun x S h => ?_; split at h <;> simp_all [Post.ok, Post.bad, Post.exc])
theorem w_not {a : XE} : Post (eNot a env S) Q ↔ Post (a env S) fun x S => match x with | .bl k => Q (.bl (!k)) S | _ => False := by
  unfold eNot
  rw [Post.bind]
  constructor <;> (intro h; refine h.mono fun x S h => ?_; split at h <;> simp_all [Post.ok, Post.bad, Post.exc])
theorem w_val {a : XE} : Post (bVal a env S) QB ↔ Post (a env S) fun x S => match x with | .bl k => QB k S | _ => False := by
  unfold bVal
  rw [Post.bind]
  constructor <;> (intro h; refine h.mono fun x S h => ?_; split at h <;> simp_all [Post.ok, Post.bad, Post.exc])
theorem w_bAnd {a b : XB} : Post (bAnd a b env S) QB ↔ Post (a env S) fun k S => if k = true then Post (b env S) QB else QB false S := by unfold bAnd; rw [Post.bind]; simp only [Post.ite, Post.ok]
theorem w_bOr {a b : XB} : Post (bOr a b env S) QB ↔ Post (a env S) fun k S => if k = true then QB true S else Post (b env S) QB := by unfold bOr; rw [Post.bind]; simp only [Post.ite, Post.ok]
theorem w_bNot {a : XB} : Post (bNot a env S) QB ↔ Post (a env S) fun k S => QB (!k) S := by unfold bNot; rw [Post.bind]; simp only [Post.ok]
theorem w_yes : Post (bYes env S) QB ↔ QB true S := Post.ok
/-! statements -/
theorem w_sNil : Post (sNil env S) QS ↔ QS (.nx, env) S := Post.ok
theorem w_seq {a b : XS} : Post (sSeq a b env S) QS ↔ Post (a env S) fun p S => match p.1 with | .nx => Post (b p.2 S) QS | f => QS (f, p.2) S := by
  unfold sSeq
  rw [Post.bind]
  constructor <;> (intro h; refine h.mono fun x S h => ?_; obtain ⟨f, env⟩ := x; cases f <;> simp_all [Post.ok, Post.bad, Post.exc])
theorem w_asg {e : XE} {g : XG} : Post (sAsg e g env S) QS ↔ Post (e env S) fun x S => Post (g x env S) fun env S => QS (.nx, env) S := by unfold sAsg; rw [Post.bind]; simp only [Post.bind, Post.ok]
theorem w_drop {e : XE} : Post (sDrop e env S) QS ↔ Post (e env S) fun _ S => QS (.nx, env) S := by unfold sDrop; rw [Post.bind]; simp only [Post.ok]
theorem w_ret {e : XE} : Post (sRet e env S) QS ↔ Post (e env S) fun x S => QS (.rt x, env) S := by unfold sRet; rw [Post.bind]; simp only [Post.ok]
theorem w_retN : Post (sRetN env S) QS ↔ QS (.rt .non, env) S := Post.ok
theorem w_if {c : XB} {a b : XS} : Post (sIf c a b env S) QS ↔ Post (c env S) fun k S => if k = true then Post (a env S) QS else Post (b env S) QS := by unfold sIf; rw [Post.bind]; simp only [Post.ite]
theorem w_gNm {i : Nat} {x : PV} {QE : Env → Store → Prop} : Post (gNm i x env S) QE ↔ QE (env.set i (some x)) S := Post.ok
/-! loops: by the item's number -/
theorem for_inv {it : It} {all : List PV} {g : XG} {b : XS} {QS : Fl × Env → Store → Prop} (I : Nat → Env → Store → Prop)
    (h : ∀ i env S x, I i env S → all[i]? = some x → it.items S = some all ∧ Post (g x env S) fun env S => Post (b env S) fun p S => match p.1 with
      | .nx => I (i + 1) p.2 S
      | .ct => I (i + 1) p.2 S
      | .bk => QS (.nx, p.2) S
      | .rt v => QS (.rt v, p.2) S)
    (he : ∀ env S, I all.length env S → it.items S = some all ∧ QS (.nx, env) S) : ∀ (r : List PV) (i : Nat), all.drop i = r → i ≤ all.length → ∀ env S, I i env S → Post (forGo it all g b r env S) QS
  | [], i, hr, hi, env, S, hI => by
    have e : i = all.length := by
      have := congrArg List.length hr
      simp at this
      omega
    subst e
    obtain ⟨h1, h2⟩ := he env S hI
    unfold forGo
    rw [if_pos h1]
    exact Post.ok.mpr h2
  | x :: r, i, hr, hi, env, S, hI => by
    have hlt : i < all.length := by
      have := congrArg List.length hr
      simp at this
      omega
    have hx : all[i]? = some x := by
      have := List.getElem?_drop (xs := all) (i := i) (j := 0)
      rw [hr] at this
      simpa using this.symm
    have hr2 : all.drop (i + 1) = r := by
      rw [← List.drop_drop, hr]
      rfl
    obtain ⟨h1, h2⟩ := h i env S x hI hx
    unfold forGo
    rw [if_pos h1, Post.bind]
    refine h2.mono fun env S h3 => ?_
    rw [Post.bind]
    refine h3.mono fun p S h4 => ?_
    obtain ⟨f, env2⟩ := p
    cases f with
    | nx => exact for_inv I h he r (i + 1) hr2 hlt _ _ h4
    | ct => exact for_inv I h he r (i + 1) hr2 hlt _ _ h4
    | bk => exact Post.ok.mpr h4
    | rt v => exact Post.ok.mpr h4
/-- a comprehension: by the items that were taken -/
theorem lc_inv {it : It} {all : List PV} {g : XG} {t : XB} {e : XE} {env : Env} {QA : List PV → Store → Prop} (I : Nat → List PV → Store → Prop)
    (h : ∀ i acc S x, I i acc S → all[i]? = some x → it.items S = some all ∧ Post (g x env S) fun env S => Post (t env S) fun k S => if k = true then Post (e env S) fun y S => acc.length < lim ∧ I (i + 1) (acc ++ [y]) S else I (i + 1) acc S)
    (he : ∀ acc S, I all.length acc S → it.items S = some all ∧ QA acc S) : ∀ (r : List PV) (i : Nat), all.drop i = r → i ≤ all.length → ∀ acc S, I i acc S → Post (lcGo it all g t e env r acc S) QA
  | [], i, hr, hi, acc, S, hI => by
    have e : i = all.length := by
      have := congrArg List.length hr
      simp at this
      omega
    subst e
    obtain ⟨h1, h2⟩ := he acc S hI
    unfold lcGo
    rw [if_pos h1]
    exact Post.ok.mpr h2
  | x :: r, i, hr, hi, acc, S, hI => by
    have hlt : i < all.length := by
      have := congrArg List.length hr
      simp at this
      omega
    have hx : all[i]? = some x := by
      have := List.getElem?_drop (xs := all) (i := i) (j := 0)
      rw [hr] at this
      simpa using this.symm
    have hr2 : all.drop (i + 1) = r := by
      rw [← List.drop_drop, hr]
      rfl
    obtain ⟨h1, h2⟩ := h i acc S x hI hx
    unfold lcGo
    rw [if_pos h1, Post.bind, Post.nox]
    refine h2.mono fun env S h3 => ?_
    rw [Post.bind, Post.nox]
    refine h3.mono fun k S h4 => ?_
    cases k with
    | true =>
      simp only [if_true] at h4 ⊢
      rw [Post.bind, Post.nox]
      refine h4.mono fun y S h5 => ?_
      rw [if_pos h5.1]
      exact lc_inv I h he r (i + 1) hr2 hlt _ _ h5.2
    | false =>
      simp only [Bool.false_eq_true, if_false] at h4 ⊢
      exact lc_inv I h he r (i + 1) hr2 hlt _ _ h4
/-! defs -/
theorem w_fnK {np many : Nat} {b : XS} {args : List PV} (hl : args.length = np) (h : Post (b (args.map some ++ List.replicate (many - args.length) none) S) fun p S => match p.1 with | .rt v => Q v S | .nx => Q .non S | _ => False) : Post (fnK np many b args S) Q := by
  unfold fnK
  rw [if_pos hl, Post.bind]
  refine h.mono fun p S h => ?_
  obtain ⟨f, e⟩ := p
  cases f <;> first | exact Post.ok.mpr h | exact h.elim
/-- .. where no list was made -/
theorem w_fnP {np many : Nat} {b : XS} {args : List PV} (hl : args.length = np) (h : Post (b (args.map some ++ List.replicate (many - args.length) none) S) fun p S' => match p.1 with
    | .rt v => Post (leave S.length v S') Q
    | .nx => Post (leave S.length .non S') Q
    | _ => False) : Post (fnP np many b args S) Q := by
  unfold fnP
  rw [if_pos hl, Post.bind]
  refine h.mono fun p S h => ?_
  obtain ⟨f, e⟩ := p
  cases f <;> first | exact h | exact h.elim
theorem leave_same {n : Nat} {v : PV} (h : S.length = n) : Post (leave n v S) Q ↔ Q v S := by unfold leave; rw [if_pos h]; exact Post.ok
end
end

/-! PureB -/
/-! PureB: operations from behind; the head-first step. -/
section
open PySem L2
section
variable {S : Store} {env : Env} {Q : PV → Store → Prop} {i j : Int} {x y z : PV} {xs ys : List PV} {l : Nat}
theorem w_add : Post (oAdd (.int i) (.int j) S) Q ↔ Q (.int (i + j)) S := Post.ok
theorem w_sub : Post (oSub (.int i) (.int j) S) Q ↔ Q (.int (i - j)) S := Post.ok
theorem w_mul (h : mulOk i j = true) : Post (oMul (.int i) (.int j) S) Q ↔ Q (.int (i * j)) S := by unfold oMul; simp only []; rw [if_pos h]; exact Post.ok
theorem w_mulC (h : -(2 ^ 64) < j ∧ j < 2 ^ 64) : Post (oMul (.int i) (.int j) S) Q ↔ Q (.int (i * j)) S := w_mul (by unfold mulOk; rw [decide_eq_true h.1, decide_eq_true h.2]; simp)
theorem w_div (h : 0 < j ∧ j < 1073741824) : Post (oDiv (.int i) (.int j) S) Q ↔ Q (.int (i / j)) S := by unfold oDiv; simp only []; rw [if_pos h]; exact Post.ok
theorem w_mod (h : 0 < j) : Post (oMod (.int i) (.int j) S) Q ↔ Q (.int (i % j)) S := by unfold oMod; simp only []; rw [if_pos h]; exact Post.ok
theorem w_pow (h : 0 ≤ j ∧ j ≤ 1000 ∧ i.natAbs < 2 ^ 64) : Post (oPow (.int i) (.int j) S) Q ↔ Q (.int (i ^ j.toNat)) S := by unfold oPow; simp only []; rw [if_pos h]; exact Post.ok
theorem w_neg : Post (oNeg (.int i) S) Q ↔ Q (.int (-i)) S := Post.ok
theorem w_lt : Post (oLt (.int i) (.int j) S) Q ↔ Q (.bl (decide (i < j))) S := Post.ok
theorem w_le : Post (oLe (.int i) (.int j) S) Q ↔ Q (.bl (decide (i ≤ j))) S := Post.ok
theorem w_gt : Post (oGt (.int i) (.int j) S) Q ↔ Q (.bl (decide (j < i))) S := Post.ok
theorem w_ge : Post (oGe (.int i) (.int j) S) Q ↔ Q (.bl (decide (j ≤ i))) S := Post.ok
theorem w_isN : Post (oIsN x .non S) Q ↔ Q (.bl x.isNon) S := Post.ok
theorem w_max : Post (bMax [.int i, .int j] S) Q ↔ Q (.int (if j > i then j else i)) S := Post.ok
theorem w_min : Post (bMin [.int i, .int j] S) Q ↔ Q (.int (if j < i then j else i)) S := Post.ok
theorem w_len (h : seqOf S x = some xs) : Post (bLen [x] S) Q ↔ Q (.int xs.length) S := by unfold bLen; simp only [h]; exact Post.ok
theorem w_ix (h : seqOf S x = some xs) (h2 : atI xs i = some y) : Post (oIx x (.int i) S) Q ↔ Q y S := by unfold oIx; simp only [h, h2]; exact Post.ok
theorem w_ix0 (h : seqOf S x = some xs) (h2 : xs[0]? = some y) : Post (oIx x (.int 0) S) Q ↔ Q y S := w_ix h (by rw [show (0 : Int) = ((0 : Nat) : Int) from rfl, L2.atI_nat (j := 0)]; exact h2)
theorem w_ix1 (h : seqOf S x = some xs) (h2 : xs[1]? = some y) : Post (oIx x (.int 1) S) Q ↔ Q y S := w_ix h (by rw [show (1 : Int) = ((1 : Nat) : Int) from rfl, L2.atI_nat (j := 1)]; exact h2)
theorem w_ix2 (h : seqOf S x = some xs) (h2 : xs[2]? = some y) : Post (oIx x (.int 2) S) Q ↔ Q y S := w_ix h (by rw [show (2 : Int) = ((2 : Nat) : Int) from rfl, L2.atI_nat (j := 2)]; exact h2)
theorem w_ix3 (h : seqOf S x = some xs) (h2 : xs[3]? = some y) : Post (oIx x (.int 3) S) Q ↔ Q y S := w_ix h (by rw [show (3 : Int) = ((3 : Nat) : Int) from rfl, L2.atI_nat (j := 3)]; exact h2)
theorem w_ix4 (h : seqOf S x = some xs) (h2 : xs[4]? = some y) : Post (oIx x (.int 4) S) Q ↔ Q y S := w_ix h (by rw [show (4 : Int) = ((4 : Nat) : Int) from rfl, L2.atI_nat (j := 4)]; exact h2)
theorem w_ix5 (h : seqOf S x = some xs) (h2 : xs[5]? = some y) : Post (oIx x (.int 5) S) Q ↔ Q y S := w_ix h (by rw [show (5 : Int) = ((5 : Nat) : Int) from rfl, L2.atI_nat (j := 5)]; exact h2)
theorem w_ixS {ks : List Str} {vs : List PV} {k : Str} (h : dksOf S x = some (ks, vs)) (h2 : lookS ks vs k = some y) : Post (oIx x (.str k) S) Q ↔ Q y S := by unfold oIx; simp only [h, h2]; exact Post.ok
theorem w_eqI : Post (oEq (.int i) (.int j) S) Q ↔ Q (.bl (i == j)) S := by unfold oEq; simp [res, plain, eqv]; exact Post.ok
theorem w_neI : Post (oNe (.int i) (.int j) S) Q ↔ Q (.bl (!(i == j))) S := by unfold oNe; simp [res, plain, eqv]; exact Post.ok
theorem w_eqS {a b : Str} (h : PyData.strOk a = true) (h2 : PyData.strOk b = true) : Post (oEq (.str a) (.str b) S) Q ↔ Q (.bl (decide (a = b))) S := by unfold oEq; simp [res, plain, eqv, h, h2]; exact Post.ok
theorem w_neS {a b : Str} (h : PyData.strOk a = true) (h2 : PyData.strOk b = true) : Post (oNe (.str a) (.str b) S) Q ↔ Q (.bl (!decide (a = b))) S := by unfold oNe; simp [res, plain, eqv, h, h2]; exact Post.ok
/-- == of lists of ints and the empty list -/
theorem plain_ints : ∀ (ns : List Int), (ns.map PV.int).all (plain 19) = true
  | [] => rfl
  | _ :: r => by rw [List.map_cons, List.all_cons, plain_ints r]; rfl
theorem res_ints (n : Nat) : ∀ (ns : List Int), (ns.map PV.int).map (res n S) = ns.map PV.int
  | [] => rfl
  | i :: r => by
    rw [List.map_cons, List.map_cons, res_ints n r]
    cases n <;> rfl
theorem eq_ints (h : S[l]? = some (.lst (xs))) {ns : List Int} (e : xs = ns.map .int) : plain 20 (res 20 S (.loc l)) = true ∧ eqv (res 20 S (.loc l)) (.ls []) = ns.isEmpty := by
  subst e
  have r : res 20 S (.loc l) = .ls (ns.map .int) := by
    show (match S[l]? with | some (.lst xs) => PV.ls (xs.map (res 19 S)) | _ => .loc l) = _
    rw [h]
    show PV.ls ((ns.map PV.int).map (res 19 S)) = _
    rw [res_ints]
  rw [r]
  refine ⟨?_, ?_⟩
  · show (ns.map PV.int).all (plain 19) = true
    exact plain_ints ns
  · cases ns <;> rfl
theorem w_neE {ns : List Int} (h : S[l]? = some (.lst (ns.map .int))) : Post (oNe (.loc l) (.ls []) S) Q ↔ Q (.bl (!ns.isEmpty)) S := by
  obtain ⟨h1, h2⟩ := eq_ints h rfl
  unfold oNe
  rw [if_pos ⟨h1, rfl⟩]
  show Post (R.ok (PV.bl (!eqv (res 20 S (.loc l)) (.ls []))) S) Q ↔ _
  rw [h2]
  exact Post.ok
theorem w_eqE {ns : List Int} (h : S[l]? = some (.lst (ns.map .int))) : Post (oEq (.loc l) (.ls []) S) Q ↔ Q (.bl ns.isEmpty) S := by
  obtain ⟨h1, h2⟩ := eq_ints h rfl
  unfold oEq
  rw [if_pos ⟨h1, rfl⟩]
  show Post (R.ok (PV.bl (eqv (res 20 S (.loc l)) (.ls []))) S) Q ↔ _
  rw [h2]
  exact Post.ok
theorem w_tupK (h : xs.length ≤ lim) {Q : PV → Store → Prop} : Post (if xs.length ≤ lim then R.ok (PV.tup xs) S else .bad) Q ↔ Q (.tup xs) S := by rw [if_pos h]; exact Post.ok
theorem w_lsK (h : xs.length ≤ lim) {Q : PV → Store → Prop} : Post (if xs.length ≤ lim then R.ok (PV.ls xs) S else .bad) Q ↔ Q (.ls xs) S := by rw [if_pos h]; exact Post.ok
theorem w_newK (h : xs.length ≤ lim) {Q : PV → Store → Prop} : Post (if xs.length ≤ lim then R.ok (PV.loc S.length) (S ++ [Cell.lst xs]) else .bad) Q ↔ Q (.loc S.length) (S ++ [.lst xs]) := by rw [if_pos h]; exact Post.ok
theorem w_setL {k : Nat} {QU : Unit → Store → Prop} (h : S[l]? = some (.lst xs)) (h2 : ixOf xs.length i = some k) : Post (oSet (.loc l) (.int i) x S) QU ↔ QU () (S.set l (.lst (xs.set k x))) := by unfold oSet; simp only [h, h2]; exact Post.ok
theorem w_setS {k : Str} {ks : List Str} {vs : List PV} {QU : Unit → Store → Prop} (h : S[l]? = some (.dks ks vs)) (h2 : ks.length < lim) : Post (oSet (.loc l) (.str k) x S) QU ↔ QU () (S.set l (.dks (putS ks vs k x).1 (putS ks vs k x).2)) := by unfold oSet; simp only [h]; rw [if_pos h2]; exact Post.ok
theorem w_gSb {o i : XE} {QE : Env → Store → Prop} : Post (gSb o i x env S) QE ↔ Post (o env S) fun ov S => Post (i env S) fun iv S => Post (oSet ov iv x S) fun _ S => QE env S := by unfold gSb; rw [Post.bind]; simp only [Post.bind, Post.ok]
theorem w_gTp {gs : List XG} {QE : Env → Store → Prop} (h : seqOf S x = some xs) (h2 : xs.length = gs.length) : Post (gTp gs x env S) QE ↔ Post (gTp.go gs xs env S) QE := by unfold gTp; simp only [h]; rw [if_pos h2]
theorem w_go0 {QE : Env → Store → Prop} : Post (gTp.go [] xs env S) QE ↔ QE env S := by unfold gTp.go; exact Post.ok
theorem w_go1 {g : XG} {gs : List XG} {QE : Env → Store → Prop} : Post (gTp.go (g :: gs) (x :: xs) env S) QE ↔ Post (g x env S) fun env S => Post (gTp.go gs xs env S) QE := by
  show Post (R.bind _ _) _ ↔ _
  rw [Post.bind]
/-- a comprehension's run over what is walked -/
def LcP (it : It) (g : XG) (t : XB) (e : XE) (env : Env) (S : Store) (QA : List PV → Store → Prop) : Prop := ∃ all, it.items S = some all ∧ Post (lcGo it all g t e env all [] S) QA
theorem w_eLc {i : XI} {g : XG} {t : XB} {e : XE} {own : List Nat} : Post (eLc i g t e own env S) Q ↔ Post (i env S) fun it S => LcP it g t e (wipeE env own) S fun xs S => Q (.ls xs) S := by
  unfold eLc xLc
  rw [Post.bind, Post.bind]
  constructor
  · intro h
    refine h.mono fun it S h => ?_
    cases ha : it.items S with
    | none => simp only [ha] at h; exact (Post.bad.mp h).elim
    | some all => simp only [ha] at h; exact ⟨all, ha, h.mono fun _ _ h => Post.ok.mp h⟩
  · intro h
    refine h.mono fun it S h => ?_
    obtain ⟨all, ha, h⟩ := h
    simp only [ha]
    exact h.mono fun _ _ h => Post.ok.mpr h
theorem w_eLcN {i : XI} {g : XG} {t : XB} {e : XE} {own : List Nat} : Post (eLcN i g t e own env S) Q ↔ Post (i env S) fun it S => LcP it g t e (wipeE env own) S fun (xs : List PV) (S : Store) => Q (PV.loc S.length) (S ++ [Cell.lst xs]) := by
  unfold eLcN xLc
  rw [Post.bind, Post.bind]
  constructor
  · intro h
    refine h.mono fun it S h => ?_
    cases ha : it.items S with
    | none => simp only [ha] at h; exact (Post.bad.mp h).elim
    | some all => simp only [ha] at h; exact ⟨all, ha, h.mono fun _ _ h => Post.ok.mp h⟩
  · intro h
    refine h.mono fun it S h => ?_
    obtain ⟨all, ha, h⟩ := h
    simp only [ha]
    exact h.mono fun _ _ h => Post.ok.mpr h
theorem w_iSeq {a : XE} {QI : It → Store → Prop} : Post (iSeq a env S) QI ↔ Post (a env S) fun x S => QI (.seq x) S := by unfold iSeq; rw [Post.bind]; simp only [Post.ok]
theorem w_iEnum {a : XE} {QI : It → Store → Prop} : Post (iEnum a env S) QI ↔ Post (a env S) fun x S => QI (.enum x) S := by unfold iEnum; rw [Post.bind]; simp only [Post.ok]
theorem w_iRev {a : XE} {QI : It → Store → Prop} : Post (iRev a env S) QI ↔ Post (a env S) fun x S => QI (.rev x) S := by unfold iRev; rw [Post.bind]; simp only [Post.ok]
theorem w_iZip {a b : XE} {QI : It → Store → Prop} : Post (iZip a b env S) QI ↔ Post (a env S) fun x S => Post (b env S) fun y S => QI (.zip x y) S := by unfold iZip; rw [Post.bind]; simp only [Post.bind, Post.ok]
def rngOk (x : PV) (S : Store) : R It := match x with
  | .int j => if -(lim : Int) ≤ j ∧ j ≤ lim then .ok (.rng 0 j.toNat) S else .bad
  | _ => .bad
theorem w_iRng {a : XE} {QI : It → Store → Prop} : Post (iRng a env S) QI ↔ Post (a env S) fun x S => Post (rngOk x S) QI := by unfold iRng; rw [Post.bind]; exact Iff.rfl
theorem w_rng {QI : It → Store → Prop} (h : -1000000 ≤ j ∧ j ≤ 1000000) : Post (rngOk (.int j) S) QI ↔ QI (.rng 0 j.toNat) S := by unfold rngOk; simp only []; rw [if_pos (by unfold lim; omega)]; exact Post.ok
/-- a for's run over what is walked -/
def ForP (it : It) (g : XG) (b : XS) (env : Env) (S : Store) (QS : Fl × Env → Store → Prop) : Prop := ∃ all, it.items S = some all ∧ Post (forGo it all g b all env S) QS
theorem w_sFor {i : XI} {g : XG} {b : XS} {QS : Fl × Env → Store → Prop} : Post (sFor i g b env S) QS ↔ Post (i env S) fun it S => ForP it g b env S QS := by
  unfold sFor
  rw [Post.bind]
  constructor
  · intro h
    refine h.mono fun it S h => ?_
    cases ha : it.items S with
    | none => simp only [ha] at h; exact (Post.bad.mp h).elim
    | some all => simp only [ha] at h; exact ⟨all, ha, h⟩
  · intro h
    refine h.mono fun it S h => ?_
    obtain ⟨all, ha, h⟩ := h
    simp only [ha]
    exact h
theorem w_list (h : seqOf S x = some xs) : Post (bList [x] S) Q ↔ Q (.ls xs) S := by unfold bList; simp only [h]; exact Post.ok
theorem w_listN (h : seqOf S x = some xs) : Post (bListN [x] S) Q ↔ Q (.loc S.length) (S ++ [.lst xs]) := by unfold bListN; simp only [h]; exact Post.ok
theorem w_tuple (h : seqOf S x = some xs) : Post (bTuple [x] S) Q ↔ Q (.tup xs) S := by unfold bTuple; simp only [h]; exact Post.ok
theorem w_intI : Post (bInt [.int i] S) Q ↔ Q (.int i) S := Post.ok
theorem w_intB {k : Bool} : Post (bInt [.bl k] S) Q ↔ Q (.int (if k = true then 1 else 0)) S := Post.ok
theorem w_eCut {o : XE} {lo hi : Option XE} : Post (eCut o lo hi env S) Q ↔ Post (o env S) fun x S => Post (ePart lo env S) fun i S => Post (ePart hi env S) fun j S => Post (oCut x i j S) Q := by unfold eCut; rw [Post.bind]; simp only [Post.bind]
theorem w_ePart0 {QO : Option Int → Store → Prop} : Post (ePart none env S) QO ↔ QO none S := Post.ok
theorem w_ePart1 {f : XE} {QO : Option Int → Store → Prop} : Post (ePart (some f) env S) QO ↔ Post (f env S) fun x S => match x with | .int i => QO (some i) S | _ => False := by
  unfold ePart
  simp only []
  rw [Post.bind]
  constructor <;> (intro h; refine h.mono fun x S h => ?_; cases x <;> first | exact Post.ok.mp h | exact Post.ok.mpr h | exact (Post.bad.mp h).elim | exact False.elim h)
theorem w_cutL {lo hi : Option Int} : Post (oCut (.ls xs) lo hi S) Q ↔ Q (.ls (cut xs lo hi)) S := Post.ok
theorem w_cutT {lo hi : Option Int} : Post (oCut (.tup xs) lo hi S) Q ↔ Q (.tup (cut xs lo hi)) S := Post.ok
theorem w_in (h : seqOf S y = some xs) (hf : flat x = true) (ha : xs.all flat = true) : Post (oIn x y S) Q ↔ Q (.bl (inSeq x xs)) S := by unfold oIn; simp only [h]; rw [if_pos ⟨hf, ha⟩]; exact Post.ok
theorem w_notIn (h : seqOf S y = some xs) (hf : flat x = true) (ha : xs.all flat = true) : Post (oNotIn x y S) Q ↔ Q (.bl (!inSeq x xs)) S := by unfold oNotIn; simp only [h]; rw [if_pos ⟨hf, ha⟩]; exact Post.ok
theorem w_addT (h : xs.length + ys.length ≤ lim) : Post (oAdd (.tup xs) (.tup ys) S) Q ↔ Q (.tup (xs ++ ys)) S := by unfold oAdd; simp only []; rw [if_pos h]; exact Post.ok
theorem ixOf_nat {n k : Nat} (h : k < n) : ixOf n (k : Int) = some k := by
  unfold ixOf
  rw [if_pos (by omega), if_pos (by omega)]
  simp
theorem w_ff {A B : Prop} : (if false = true then A else B) ↔ B := by simp
theorem w_tt {A B : Prop} : (if true = true then A else B) ↔ A := by simp
theorem w_nf {A B : Prop} : (if (!false) = true then A else B) ↔ A := by simp
theorem w_nt {A B : Prop} : (if (!true) = true then A else B) ↔ B := by simp
end
end
local macro_rules | `(tactic| array_get_dec) => `(tactic| ((with_reducible refine (w_neS ?wh ?wk).mpr ?_); (case wh => decide +kernel); (case wk => decide +kernel)))
local macro_rules | `(tactic| array_get_dec) => `(tactic| ((with_reducible refine (w_eqS ?wh ?wk).mpr ?_); (case wh => decide +kernel); (case wk => decide +kernel)))
local macro_rules | `(tactic| array_get_dec) => `(tactic| ((with_reducible refine (w_newK ?wh).mpr ?_); (case wh => exact Nat.le_of_ble_eq_true rfl)))
local macro_rules | `(tactic| array_get_dec) => `(tactic| ((with_reducible refine (w_lsK ?wh).mpr ?_); (case wh => exact Nat.le_of_ble_eq_true rfl)))
local macro_rules | `(tactic| array_get_dec) => `(tactic| ((with_reducible refine (w_tupK ?wh).mpr ?_); (case wh => exact Nat.le_of_ble_eq_true rfl)))
local macro_rules | `(tactic| array_get_dec) => `(tactic| ((with_reducible refine (w_pow ?wh).mpr ?_); (case wh => decide)))
local macro_rules | `(tactic| array_get_dec) => `(tactic| ((with_reducible refine (w_mod ?wh).mpr ?_); (case wh => omega)))
local macro_rules | `(tactic| array_get_dec) => `(tactic| ((with_reducible refine (w_div ?wh).mpr ?_); (case wh => constructor <;> omega)))
local macro_rules | `(tactic| array_get_dec) => `(tactic| ((with_reducible refine (w_mulC ?wh).mpr ?_); (case wh => constructor <;> omega)))
local macro_rules | `(tactic| array_get_dec) => `(tactic| ((with_reducible refine (w_gTp (xs := ?wx) ?wh ?wk).mpr ?_); (case wh => rfl); (case wk => rfl)))
local macro_rules | `(tactic| array_get_dec) => `(tactic| ((with_reducible refine (w_ixS (ks := ?wx) (vs := ?wz) (y := ?wy) ?wh ?wk).mpr ?_); (case wh => rfl); (case wk => rfl)))
local macro_rules | `(tactic| array_get_dec) => `(tactic| ((with_reducible refine (w_ix5 (xs := ?wx) (y := ?wy) ?wh ?wk).mpr ?_); (case wh => rfl); (case wk => rfl)))
local macro_rules | `(tactic| array_get_dec) => `(tactic| ((with_reducible refine (w_ix4 (xs := ?wx) (y := ?wy) ?wh ?wk).mpr ?_); (case wh => rfl); (case wk => rfl)))
local macro_rules | `(tactic| array_get_dec) => `(tactic| ((with_reducible refine (w_ix3 (xs := ?wx) (y := ?wy) ?wh ?wk).mpr ?_); (case wh => rfl); (case wk => rfl)))
local macro_rules | `(tactic| array_get_dec) => `(tactic| ((with_reducible refine (w_ix2 (xs := ?wx) (y := ?wy) ?wh ?wk).mpr ?_); (case wh => rfl); (case wk => rfl)))
local macro_rules | `(tactic| array_get_dec) => `(tactic| ((with_reducible refine (w_ix1 (xs := ?wx) (y := ?wy) ?wh ?wk).mpr ?_); (case wh => rfl); (case wk => rfl)))
local macro_rules | `(tactic| array_get_dec) => `(tactic| ((with_reducible refine (w_ix0 (xs := ?wx) (y := ?wy) ?wh ?wk).mpr ?_); (case wh => rfl); (case wk => rfl)))
local macro_rules | `(tactic| array_get_dec) => `(tactic| ((with_reducible refine (w_len (xs := ?wx) ?wh).mpr ?_); (case wh => rfl)))
local macro_rules | `(tactic| array_get_dec) => `(tactic| ((with_reducible refine (w_eqE (ns := ?wx) ?wh).mpr ?_); (case wh => rfl)))
local macro_rules | `(tactic| array_get_dec) => `(tactic| ((with_reducible refine (w_neE (ns := ?wx) ?wh).mpr ?_); (case wh => rfl)))
local macro_rules | `(tactic| array_get_dec) => `(tactic| ((with_reducible refine (w_var (x := ?wx) ?wh).mpr ?_); (case wh => rfl)))
local macro_rules | `(tactic| array_get_dec) => `(tactic| (with_reducible refine w_neI.mpr ?_))
local macro_rules | `(tactic| array_get_dec) => `(tactic| (with_reducible refine w_eqI.mpr ?_))
local macro_rules | `(tactic| array_get_dec) => `(tactic| (with_reducible refine w_min.mpr ?_))
local macro_rules | `(tactic| array_get_dec) => `(tactic| (with_reducible refine w_max.mpr ?_))
local macro_rules | `(tactic| array_get_dec) => `(tactic| (with_reducible refine w_isN.mpr ?_))
local macro_rules | `(tactic| array_get_dec) => `(tactic| (with_reducible refine w_ge.mpr ?_))
local macro_rules | `(tactic| array_get_dec) => `(tactic| (with_reducible refine w_gt.mpr ?_))
local macro_rules | `(tactic| array_get_dec) => `(tactic| (with_reducible refine w_le.mpr ?_))
local macro_rules | `(tactic| array_get_dec) => `(tactic| (with_reducible refine w_lt.mpr ?_))
local macro_rules | `(tactic| array_get_dec) => `(tactic| (with_reducible refine w_neg.mpr ?_))
local macro_rules | `(tactic| array_get_dec) => `(tactic| (with_reducible refine w_sub.mpr ?_))
local macro_rules | `(tactic| array_get_dec) => `(tactic| (with_reducible refine w_add.mpr ?_))
local macro_rules | `(tactic| array_get_dec) => `(tactic| (with_reducible refine w_go1.mpr ?_))
local macro_rules | `(tactic| array_get_dec) => `(tactic| (with_reducible refine w_go0.mpr ?_))
local macro_rules | `(tactic| array_get_dec) => `(tactic| (with_reducible refine w_gSb.mpr ?_))
local macro_rules | `(tactic| array_get_dec) => `(tactic| (with_reducible refine w_retN.mpr ?_))
local macro_rules | `(tactic| array_get_dec) => `(tactic| (with_reducible refine w_yes.mpr ?_))
local macro_rules | `(tactic| array_get_dec) => `(tactic| (with_reducible refine w_sNil.mpr ?_))
local macro_rules | `(tactic| array_get_dec) => `(tactic| (with_reducible refine w_gNm.mpr ?_))
local macro_rules | `(tactic| array_get_dec) => `(tactic| (with_reducible refine w_c.mpr ?_))
local macro_rules | `(tactic| array_get_dec) => `(tactic| (with_reducible refine w_not.mpr ?_))
local macro_rules | `(tactic| array_get_dec) => `(tactic| (with_reducible refine w_or.mpr ?_))
local macro_rules | `(tactic| array_get_dec) => `(tactic| (with_reducible refine w_and.mpr ?_))
local macro_rules | `(tactic| array_get_dec) => `(tactic| (with_reducible refine w_ifE.mpr ?_))
local macro_rules | `(tactic| array_get_dec) => `(tactic| (with_reducible refine w_nil.mpr ?_))
local macro_rules | `(tactic| array_get_dec) => `(tactic| (with_reducible refine w_cons.mpr ?_))
local macro_rules | `(tactic| array_get_dec) => `(tactic| (with_reducible refine w_new.mpr ?_))
local macro_rules | `(tactic| array_get_dec) => `(tactic| (with_reducible refine w_ls.mpr ?_))
local macro_rules | `(tactic| array_get_dec) => `(tactic| (with_reducible refine w_tup.mpr ?_))
local macro_rules | `(tactic| array_get_dec) => `(tactic| (with_reducible refine w_bf.mpr ?_))
local macro_rules | `(tactic| array_get_dec) => `(tactic| (with_reducible refine w_call.mpr ?_))
local macro_rules | `(tactic| array_get_dec) => `(tactic| (with_reducible refine w_un.mpr ?_))
local macro_rules | `(tactic| array_get_dec) => `(tactic| (with_reducible refine w_op.mpr ?_))
local macro_rules | `(tactic| array_get_dec) => `(tactic| (with_reducible refine w_bNot.mpr ?_))
local macro_rules | `(tactic| array_get_dec) => `(tactic| (with_reducible refine w_bOr.mpr ?_))
local macro_rules | `(tactic| array_get_dec) => `(tactic| (with_reducible refine w_bAnd.mpr ?_))
local macro_rules | `(tactic| array_get_dec) => `(tactic| (with_reducible refine w_val.mpr ?_))
local macro_rules | `(tactic| array_get_dec) => `(tactic| (with_reducible refine w_if.mpr ?_))
local macro_rules | `(tactic| array_get_dec) => `(tactic| (with_reducible refine w_ret.mpr ?_))
local macro_rules | `(tactic| array_get_dec) => `(tactic| (with_reducible refine w_drop.mpr ?_))
local macro_rules | `(tactic| array_get_dec) => `(tactic| ((with_reducible refine (w_tuple (xs := ?wx) ?wh).mpr ?_); (case wh => rfl)))
local macro_rules | `(tactic| array_get_dec) => `(tactic| ((with_reducible refine (w_listN (xs := ?wx) ?wh).mpr ?_); (case wh => rfl)))
local macro_rules | `(tactic| array_get_dec) => `(tactic| ((with_reducible refine (w_list (xs := ?wx) ?wh).mpr ?_); (case wh => rfl)))
local macro_rules | `(tactic| array_get_dec) => `(tactic| ((with_reducible refine (w_rng ?wh).mpr ?_); (case wh => constructor <;> omega)))
local macro_rules | `(tactic| array_get_dec) => `(tactic| (with_reducible refine w_cutT.mpr ?_))
local macro_rules | `(tactic| array_get_dec) => `(tactic| (with_reducible refine w_cutL.mpr ?_))
local macro_rules | `(tactic| array_get_dec) => `(tactic| (with_reducible refine w_ePart1.mpr ?_))
local macro_rules | `(tactic| array_get_dec) => `(tactic| (with_reducible refine w_ePart0.mpr ?_))
local macro_rules | `(tactic| array_get_dec) => `(tactic| (with_reducible refine w_eCut.mpr ?_))
local macro_rules | `(tactic| array_get_dec) => `(tactic| (with_reducible refine w_intB.mpr ?_))
local macro_rules | `(tactic| array_get_dec) => `(tactic| (with_reducible refine w_intI.mpr ?_))
local macro_rules | `(tactic| array_get_dec) => `(tactic| (with_reducible refine w_sFor.mpr ?_))
local macro_rules | `(tactic| array_get_dec) => `(tactic| (with_reducible refine w_iRng.mpr ?_))
local macro_rules | `(tactic| array_get_dec) => `(tactic| (with_reducible refine w_iZip.mpr ?_))
local macro_rules | `(tactic| array_get_dec) => `(tactic| (with_reducible refine w_iRev.mpr ?_))
local macro_rules | `(tactic| array_get_dec) => `(tactic| (with_reducible refine w_iEnum.mpr ?_))
local macro_rules | `(tactic| array_get_dec) => `(tactic| (with_reducible refine w_iSeq.mpr ?_))
local macro_rules | `(tactic| array_get_dec) => `(tactic| (with_reducible refine w_eLcN.mpr ?_))
local macro_rules | `(tactic| array_get_dec) => `(tactic| (with_reducible refine w_eLc.mpr ?_))
local macro_rules | `(tactic| array_get_dec) => `(tactic| (with_reducible refine w_nt.mpr ?_))
local macro_rules | `(tactic| array_get_dec) => `(tactic| (with_reducible refine w_nf.mpr ?_))
local macro_rules | `(tactic| array_get_dec) => `(tactic| (with_reducible refine w_tt.mpr ?_))
local macro_rules | `(tactic| array_get_dec) => `(tactic| (with_reducible refine w_ff.mpr ?_))
local macro_rules | `(tactic| array_get_dec) => `(tactic| (with_reducible refine w_asg.mpr ?_))
local macro_rules | `(tactic| array_get_dec) => `(tactic| (with_reducible refine w_seq.mpr ?_))
section
open PySem L2
end

/-! PureA -/
/-! PureA: the draws. -/
section
open PySem L2
/-- what is drawn from: the script's numbers, the mixed number, how many were drawn -/
structure Hs where
  l : List Int
  a : Int
  c : Int
def Hs.st (g : Hs) (rest : Store) : Store := .lst (g.l.map .int) :: .lst [.int g.a, .loc 0, .int g.c] :: rest
structure Hs.Ok (g : Hs) : Prop where
  len : g.l.length ≤ 63
  c0 : 0 ≤ g.c
theorem next_spec (g : Hs) (rest : Store) (n : Int) (hg : g.Ok) (h0 : 0 < n) (h1 : n < 1073741824) :
    Post (m_next [.loc 1, .int n] (g.st rest)) fun v S => ∃ r g', v = .int r ∧ S = Hs.st g' rest ∧ g'.Ok ∧ 0 ≤ r ∧ r < n := by
  unfold m_next
  refine w_fnP rfl ?_
  ((repeat array_get_dec) <;> (try dsimp only))
  have hat : ∀ ns : List Int, ns ≠ [] → ∃ k : Nat, g.c % (if ((ns.map PV.int).length : Int) > 1 then ((ns.map PV.int).length : Int) else 1) = k ∧ k < ns.length := by
    intro ns hn
    have hp : 0 < ns.length := List.length_pos_iff.mpr hn
    rw [List.length_map]
    split
    · refine ⟨(g.c % ns.length).toNat, ?_, ?_⟩
      · have := Int.emod_nonneg g.c (b := (ns.length : Int)) (by omega)
        omega
      · have := Int.emod_nonneg g.c (b := (ns.length : Int)) (by omega)
        have := Int.emod_lt_of_pos g.c (b := (ns.length : Int)) (by omega)
        omega
    · exact ⟨0, by omega, hp⟩
  by_cases hl : g.l = []
  · generalize (g.c % if ((g.l.map PV.int).length : Int) > 1 then ((g.l.map PV.int).length : Int) else 1) = at'
    rw [if_neg (by rw [hl]; decide)]
    ((repeat array_get_dec) <;> (try dsimp only))
    rw [if_neg (by decide)]
    ((repeat array_get_dec) <;> (try dsimp only))
    refine (w_setL rfl rfl).mpr ?_
    ((repeat array_get_dec) <;> (try dsimp only))
    refine (w_setL rfl rfl).mpr ?_
    ((repeat array_get_dec) <;> (try dsimp only))
    refine (leave_same rfl).mpr ?_
    exact ⟨_, ⟨g.l, (g.a * 48271 + 0 * 69621 + 11) % 2147483647, g.c + 1⟩, rfl, rfl, ⟨hg.len, by have := hg.c0; show 0 ≤ g.c + 1; omega⟩, Int.emod_nonneg _ (by omega), Int.emod_lt_of_pos _ h0⟩
  · obtain ⟨k, hk, hk2⟩ := hat g.l hl
    have hx : atI (g.l.map PV.int) (k : Int) = some (.int g.l[k]) := by
      rw [L2.atI_nat (j := k)]
      rw [List.getElem?_map, List.getElem?_eq_getElem hk2]
      rfl
    rw [hk]
    rw [if_pos (by cases h : g.l with | nil => exact absurd h hl | cons _ _ => rfl)]
    ((repeat array_get_dec) <;> (try dsimp only))
    refine (w_ix rfl hx).mpr ?_
    ((repeat array_get_dec) <;> (try dsimp only))
    split
    · ((repeat array_get_dec) <;> (try dsimp only))
      refine (w_setL rfl (ixOf_nat (by rw [List.length_map]; exact hk2))).mpr ?_
      ((repeat array_get_dec) <;> (try dsimp only))
      refine (leave_same rfl).mpr ?_
      refine ⟨_, ⟨g.l.set k (g.l[k] / n), g.a, g.c⟩, rfl, ?_, ⟨by rw [List.length_set]; exact hg.len, hg.c0⟩, Int.emod_nonneg _ (by omega), Int.emod_lt_of_pos _ h0⟩
      unfold Hs.st
      rw [List.map_set]
      rfl
    · ((repeat array_get_dec) <;> (try dsimp only))
      refine (w_setL rfl rfl).mpr ?_
      ((repeat array_get_dec) <;> (try dsimp only))
      refine (w_setL rfl rfl).mpr ?_
      ((repeat array_get_dec) <;> (try dsimp only))
      refine (leave_same rfl).mpr ?_
      exact ⟨_, ⟨g.l, (g.a * 48271 + g.l[k] * 69621 + 11) % 2147483647, g.c + 1⟩, rfl, rfl, ⟨hg.len, by have := hg.c0; show 0 ≤ g.c + 1; omega⟩, Int.emod_nonneg _ (by omega), Int.emod_lt_of_pos _ h0⟩
end

/-! PureC -/
/-! PureC: houses, numbers. -/
section
open PySem L2
/-- [x for x in range(n) if p(x)]: what is taken, the store as it was -/
theorem lc_filter {env : Env} {S : Store} {QA : List PV → Store → Prop} {v n : Nat} {t : XB} (hn : n ≤ 1000) (hv : v < env.length) (p : Nat → Bool)
    (ht : ∀ i, i < n → Post (t (env.set v (some (.int (i : Int)))) S) fun k S' => k = p i ∧ S' = S) (hQ : QA (((List.range n).filter p).map fun (i : Nat) => PV.int (i : Int)) S) : LcP (.rng 0 n) (gNm v) t (eVar v) env S QA := by
  refine ⟨upto 0 n, rfl, lc_inv (fun i acc S' => i ≤ n ∧ acc = ((List.range i).filter p).map (fun (i : Nat) => PV.int (i : Int)) ∧ S' = S) ?_ ?_ _ 0 rfl (Nat.zero_le _) _ _ ⟨Nat.zero_le _, rfl, rfl⟩⟩
  · rintro i acc S' x ⟨hi, rfl, rfl⟩ hx
    refine ⟨rfl, ?_⟩
    have hlt : i < n := by
      have := (List.getElem?_eq_some_iff.mp hx).1
      rw [upto_length] at this
      exact this
    rw [upto_get hlt] at hx
    cases hx
    refine w_gNm.mpr ?_
    rw [Int.zero_add]
    refine (ht i hlt).mono ?_
    rintro k S2 ⟨rfl, rfl⟩
    have hr : (List.range (i + 1)).filter p = (List.range i).filter p ++ (if p i = true then [i] else []) := by
      rw [List.range_succ, List.filter_append]
      by_cases hp : p i = true <;> simp [hp]
    by_cases hp : p i = true
    · rw [if_pos hp]
      refine (w_var (x := .int (i : Int)) ?_).mpr ⟨?_, hlt, ?_, rfl⟩
      · rw [List.getElem?_set_self hv]
      · rw [List.length_map]
        exact Nat.lt_of_le_of_lt (Nat.le_trans (List.length_filter_le _ _) (by rw [List.length_range]; omega)) (by decide : 1000 < lim)
      · rw [hr, if_pos hp, List.map_append]
        rfl
    · rw [if_neg hp]
      refine ⟨hlt, ?_, rfl⟩
      rw [hr, if_neg hp, List.append_nil]
  · rintro acc S' ⟨_, rfl, rfl⟩
    rw [upto_length]
    exact ⟨rfl, hQ⟩
end
section
open PySem L2
/-- [e for x in range(n)], e draws -/
theorem lc_draws {env : LW.Env} {g : Hs} {rest : Store} {QA : List PV → Store → Prop} {v n : Nat} {e : XE} (hg : g.Ok) (hn : n ≤ 1000) (P : Nat → PV → Prop)
    (he : ∀ i g, i < n → Hs.Ok g → Post (e (env.set v (some (.int (i : Int)))) (g.st rest)) fun x S => ∃ g', S = Hs.st g' rest ∧ g'.Ok ∧ P i x)
    (hQ : ∀ xs g', Hs.Ok g' → xs.length = n → (∀ i x, xs[i]? = some x → P i x) → QA xs (g'.st rest)) : LcP (.rng 0 n) (gNm v) bYes e env (g.st rest) QA := by
  refine ⟨upto 0 n, rfl, lc_inv (fun i acc S' => i ≤ n ∧ acc.length = i ∧ (∀ j x, acc[j]? = some x → P j x) ∧ ∃ g', Hs.Ok g' ∧ S' = g'.st rest) ?_ ?_ _ 0 rfl (Nat.zero_le _) _ _ ⟨Nat.zero_le _, rfl, fun j x h => (by cases h), g, hg, rfl⟩⟩
  · rintro i acc S' x ⟨hi, hl, hP, g', hg', rfl⟩ hx
    refine ⟨rfl, ?_⟩
    have hlt : i < n := by
      have := (List.getElem?_eq_some_iff.mp hx).1
      rw [upto_length] at this
      exact this
    rw [upto_get hlt] at hx
    cases hx
    refine w_gNm.mpr (w_yes.mpr ?_)
    rw [Int.zero_add, if_pos rfl]
    refine (he i g' hlt hg').mono ?_
    rintro y S2 ⟨g2, rfl, hg2, hy⟩
    refine ⟨by rw [hl]; exact Nat.lt_of_lt_of_le hlt (Nat.le_trans hn (by decide)), hlt, by rw [List.length_append, hl]; rfl, fun j z hz => ?_, g2, hg2, rfl⟩
    rcases Nat.lt_or_ge j acc.length with h | h
    · rw [List.getElem?_append_left h] at hz
      exact hP j z hz
    · rw [List.getElem?_append_right h] at hz
      have : j - acc.length = 0 := by
        have := (List.getElem?_eq_some_iff.mp hz).1
        simp at this
        omega
      rw [this] at hz
      cases hz
      have : j = i := by omega
      rw [this]
      exact hy
  · rintro acc S' ⟨_, hl, hP, g', hg', rfl⟩
    rw [upto_length] at hl
    exact ⟨rfl, hQ acc g' hg' hl hP⟩
theorem number_spec (g : Hs) (rest : Store) (hg : g.Ok) : Post (m_number [.loc 1] (g.st rest)) fun v S => ∃ r g', v = .int r ∧ S = Hs.st g' rest ∧ g'.Ok ∧ 0 ≤ r ∧ r < 1000 := by
  unfold m_number
  refine w_fnP rfl ?_
  ((repeat array_get_dec) <;> (try dsimp only))
  ((refine Post.mono (next_spec _ _ _ hg ?hn0 ?hn1) ?_); (case hn0 => omega); (case hn1 => omega))
  rintro _ _ ⟨r1, g1, rfl, rfl, hg1, a1, b1⟩
  ((repeat array_get_dec) <;> (try dsimp only))
  ((refine Post.mono (next_spec _ _ _ hg1 ?hn0 ?hn1) ?_); (case hn0 => omega); (case hn1 => omega))
  rintro _ _ ⟨r2, g2, rfl, rfl, hg2, a2, b2⟩
  ((repeat array_get_dec) <;> (try dsimp only))
  ((refine Post.mono (next_spec _ _ _ hg2 ?hn0 ?hn1) ?_); (case hn0 => omega); (case hn1 => omega))
  rintro _ _ ⟨r3, g3, rfl, rfl, hg3, a3, b3⟩
  rcases (by omega : r3 = 0 ∨ r3 = 1) with rfl | rfl
  · ((repeat array_get_dec) <;> (try dsimp only))
    refine (leave_same rfl).mpr ?_
    exact ⟨_, _, rfl, rfl, hg3, a1, by omega⟩
  · ((repeat array_get_dec) <;> (try dsimp only))
    refine (leave_same rfl).mpr ?_
    exact ⟨_, _, rfl, rfl, hg3, a2, by omega⟩
/-- boxes, rising -/
def Boxes (xs : List Nat) : Prop := xs.Pairwise (· < ·) ∧ ∀ x ∈ xs, x < 6
def ivs (xs : List Nat) : List PV := xs.map fun (i : Nat) => PV.int (i : Int)
structure House where
  ins : List Nat
  out : Nat
  kept : List Nat
structure House.Ok (h : House) : Prop where
  ins : Boxes h.ins
  out : h.out < 6
  kept : Boxes h.kept
  apart : ∀ b ∈ h.kept, b ∉ h.ins ∧ b ≠ h.out
def House.pv (h : House) : PV := .tup [.tup (ivs h.ins), .int h.out, .tup (ivs h.kept)]
theorem boxes_filter (p : Nat → Bool) : Boxes ((List.range 6).filter p) := ⟨List.Pairwise.filter _ List.pairwise_lt_range, fun x h => List.mem_range.mp (List.mem_filter.mp h).1⟩
theorem Boxes.sub {xs ys : List Nat} (h : Boxes ys) (s : xs.Sublist ys) : Boxes xs := ⟨h.1.sublist s, fun x hx => h.2 x (s.subset hx)⟩
theorem cut_ivs (l : List Nat) (lo hi : Option Int) : ∃ l', cut (ivs l) lo hi = ivs l' ∧ l'.Sublist l := by
  unfold cut ivs
  rw [← List.map_drop, ← List.map_take]
  exact ⟨_, rfl, (List.take_sublist _ _).trans (List.drop_sublist _ _)⟩
theorem ints_of : ∀ {xs : List PV}, (∀ (i : Nat) (x : PV), xs[i]? = some x → ∃ s : Int, x = .int s) → ∃ ss : List Int, xs = ss.map .int
  | [], _ => ⟨[], rfl⟩
  | x :: r, h => by
    obtain ⟨s, rfl⟩ := h 0 x rfl
    obtain ⟨ss, rfl⟩ := ints_of (xs := r) fun i x hx => h (i + 1) x hx
    exact ⟨s :: ss, rfl⟩
theorem house_spec (g : Hs) (rest : Store) (hg : g.Ok) : Post (m_house [.loc 1] (g.st rest)) fun v S => ∃ h g', v = House.pv h ∧ h.Ok ∧ S = Hs.st g' rest ∧ g'.Ok := by
  unfold m_house
  refine w_fnP rfl ?_
  ((repeat array_get_dec) <;> (try dsimp only))
  ((refine Post.mono (next_spec _ _ _ hg ?hn0 ?hn1) ?_); (case hn0 => omega); (case hn1 => omega))
  rintro _ _ ⟨r1, g1, rfl, rfl, hg1, a1, b1⟩
  ((repeat array_get_dec) <;> (try dsimp only))
  obtain ⟨few, hf, hfew⟩ : ∃ few : Int, (few = 3 ∨ few = 2) ∧ atI [PV.int 3, PV.int 3, PV.int 3, PV.int 2] r1 = some (.int few) := by
    rcases (by omega : r1 = 0 ∨ r1 = 1 ∨ r1 = 2 ∨ r1 = 3) with rfl | rfl | rfl | rfl
    · exact ⟨3, .inl rfl, rfl⟩
    · exact ⟨3, .inl rfl, rfl⟩
    · exact ⟨3, .inl rfl, rfl⟩
    · exact ⟨2, .inr rfl, rfl⟩
  refine (w_ix rfl hfew).mpr ?_
  ((repeat array_get_dec) <;> (try dsimp only))
  refine lc_draws (P := fun _ x => ∃ s : Int, x = .int s) hg1 (by decide) (fun i g0 hi hg0 => ?_) (fun sorts0 g2 hg2 hl hP => ?_)
  · ((repeat array_get_dec) <;> (try dsimp only))
    ((refine Post.mono (next_spec _ _ _ hg0 ?hn0 ?hn1) ?_); (case hn0 => omega); (case hn1 => omega))
    rintro _ _ ⟨r2, g3, rfl, rfl, hg3, a2, b2⟩
    ((repeat array_get_dec) <;> (try dsimp only))
    cases hk : (few == 3) with
    | true =>
      ((repeat array_get_dec) <;> (try dsimp only))
      exact ⟨g3, rfl, hg3, _, rfl⟩
    | false =>
      ((repeat array_get_dec) <;> (try dsimp only))
      ((refine Post.mono (next_spec _ _ _ hg3 ?hn0 ?hn1) ?_); (case hn0 => omega); (case hn1 => omega))
      rintro _ _ ⟨r3, g4, rfl, rfl, hg4, a3, b3⟩
      ((repeat array_get_dec) <;> (try dsimp only))
      exact ⟨g4, rfl, hg4, _, rfl⟩
  · obtain ⟨sorts, rfl⟩ := ints_of hP
    rw [List.length_map] at hl
    have at6 : ∀ i : Nat, i < 6 → ∃ s : Int, sorts[i]? = some s ∧ atI (sorts.map PV.int) (i : Int) = some (.int s) := fun i hi => by
      have h6 : i < sorts.length := by rw [hl]; exact hi
      refine ⟨sorts[i], List.getElem?_eq_getElem h6, ?_⟩
      rw [L2.atI_nat (j := i)]
      rw [List.getElem?_map, List.getElem?_eq_getElem h6]
      rfl
    ((repeat array_get_dec) <;> (try dsimp only))
    ((refine Post.mono (next_spec _ _ _ hg2 ?hn0 ?hn1) ?_); (case hn0 => omega); (case hn1 => omega))
    rintro _ _ ⟨out, g3, rfl, rfl, hg3, a3, b3⟩
    ((repeat array_get_dec) <;> (try dsimp only))
    refine lc_filter (n := 6) (by decide) (by show 3 < 6; decide) (fun i => match sorts[i]? with | some s => s == 0 | none => false) (fun i hi => ?_) ?_
    · obtain ⟨s, h1, h2⟩ := at6 i hi
      ((repeat array_get_dec) <;> (try dsimp only))
      refine (w_ix rfl h2).mpr ?_
      ((repeat array_get_dec) <;> (try dsimp only))
      rw [h1]
      exact ⟨rfl, rfl⟩
    · ((repeat array_get_dec) <;> (try dsimp only))
      ((refine Post.mono (next_spec _ _ _ hg3 ?hn0 ?hn1) ?_); (case hn0 => omega); (case hn1 => omega))
      rintro _ _ ⟨r4, g4, rfl, rfl, hg4, a4, b4⟩
      obtain ⟨mx, hm, hmx⟩ : ∃ mx : Int, (mx = 3 ∨ mx = 6) ∧ atI [PV.int 3, PV.int 6] r4 = some (.int mx) := by
        rcases (by omega : r4 = 0 ∨ r4 = 1) with rfl | rfl
        · exact ⟨3, .inl rfl, rfl⟩
        · exact ⟨6, .inr rfl, rfl⟩
      refine (w_ix rfl hmx).mpr ?_
      ((repeat array_get_dec) <;> (try dsimp only))
      ((refine Post.mono (next_spec _ _ _ hg4 ?hn0 ?hn1) ?_); (case hn0 => omega); (case hn1 => omega))
      rintro _ _ ⟨r5, g5, rfl, rfl, hg5, a5, b5⟩
      ((repeat array_get_dec) <;> (try dsimp only))
      obtain ⟨ins, e1, hins⟩ := cut_ivs ((List.range 6).filter fun i => match sorts[i]? with | some s => s == 0 | none => false) none (some (1 + r5))
      rw [show ivs _ = List.map _ _ from rfl] at e1
      rw [e1]
      refine lc_filter (n := 6) (by decide) (by show 3 < 6; decide) (fun i => match sorts[i]? with | some s => s == 1 && !((i : Int) == out) | none => false) (fun i hi => ?_) ?_
      · obtain ⟨s, h1, h2⟩ := at6 i hi
        ((repeat array_get_dec) <;> (try dsimp only))
        refine (w_ix rfl h2).mpr ?_
        ((repeat array_get_dec) <;> (try dsimp only))
        rw [h1]
        split
        · rename_i hs
          ((repeat array_get_dec) <;> (try dsimp only))
          refine ⟨?_, rfl⟩
          show _ = (s == 1 && _)
          rw [hs]
          rfl
        · rename_i hs
          refine ⟨?_, rfl⟩
          show _ = (s == 1 && _)
          rw [Bool.not_eq_true] at hs
          rw [hs]
          rfl
      · ((repeat array_get_dec) <;> (try dsimp only))
        refine (leave_same rfl).mpr ?_
        refine ⟨⟨ins, out.toNat, (List.range 6).filter fun i => match sorts[i]? with | some s => s == 1 && !((i : Int) == out) | none => false⟩, g5, ?_, ⟨(boxes_filter _).sub hins, by show out.toNat < 6; omega, ?_, fun b hb => ?_⟩, rfl, hg5⟩
        rotate_left
        · exact boxes_filter (fun i => match sorts[i]? with | some s => s == 1 && !((i : Int) == out) | none => false)
        rotate_left
        · unfold House.pv
          rw [Int.toNat_of_nonneg a3]
          rfl
        · obtain ⟨hb1, hb2⟩ := List.mem_filter.mp hb
          have hb6 : b < 6 := List.mem_range.mp hb1
          obtain ⟨s, h1, h2⟩ := at6 b hb6
          rw [h1] at hb2
          simp only [Bool.and_eq_true, beq_iff_eq, Bool.not_eq_true', beq_eq_false_iff_ne] at hb2
          refine ⟨fun z => ?_, fun z => ?_⟩
          · have := (List.mem_filter.mp (hins.subset z)).2
            rw [h1] at this
            simp only [beq_iff_eq] at this
            omega
          · apply hb2.2
            have z : b = out.toNat := z
            omega
end

/-! PureD -/
/-! PureD: what is handed in is a program. -/
section
open PySem L2
/-- isinstance of a value whose kind is seen -/
def isaR (t : Ty) (x : PV) (S : Store) : R PV := match isTy S x t with
  | some k => .ok (.bl k) S
  | none => .bad
theorem w_isa {t : Ty} {a : XE} {env : LW.Env} {S : Store} {Q : PV → Store → Prop} : Post (eIsa t a env S) Q ↔ Post (a env S) fun x S => Post (isaR t x S) Q := by
  unfold eIsa
  rw [Post.bind]
  exact Iff.rfl
theorem w_isaK {S : Store} {Q : PV → Store → Prop} {x : PV} {t : Ty} {k : Bool} (h : isTy S x t = some k) : Post (isaR t x S) Q ↔ Q (.bl k) S := by unfold isaR; rw [h]; exact Post.ok
theorem w_chain {o1 o2 : Op2} {a b c : XE} {env : LW.Env} {S : Store} {Q : PV → Store → Prop} : Post (eChain o1 o2 a b c env S) Q ↔ Post (a env S) fun x S => Post (b env S) fun y S => Post (o1 x y S) fun k S => match k with
    | .bl true => Post (c env S) fun z S => Post (o2 y z S) Q
    | .bl false => Q (.bl false) S
    | _ => False := by
  unfold eChain
  simp only [Post.bind]
  constructor
  · intro h
    refine h.mono fun x S h => h.mono fun y S h => h.mono fun k S h => ?_
    split at h
    · rw [Post.bind] at h; exact h
    · exact Post.ok.mp h
    · exact (Post.bad.mp h).elim
  · intro h
    refine h.mono fun x S h => h.mono fun y S h => h.mono fun k S h => ?_
    split at h
    · rw [Post.bind]; exact h
    · exact Post.ok.mpr h
    · exact h.elim
/-- all([..]) of a comprehension over a sequence's values, the store as it was -/
theorem lc_all {it : It} {all : List PV} {env : LW.Env} {S : Store} {QA : List PV → Store → Prop} {g : XG} {e : XE} (ha : it.items S = some all) (hn : all.length ≤ 1000) (p : PV → Bool)
    (he : ∀ x, x ∈ all → Post (g x env S) fun env' S' => S' = S ∧ Post (e env' S) fun y S'' => y = .bl (p x) ∧ S'' = S) (hQ : QA (all.map fun x => PV.bl (p x)) S) : LcP it g bYes e env S QA := by
  refine ⟨all, ha, lc_inv (fun i acc S' => i ≤ all.length ∧ acc = (all.take i).map (fun x => PV.bl (p x)) ∧ S' = S) ?_ ?_ _ 0 rfl (Nat.zero_le _) _ _ ⟨Nat.zero_le _, rfl, rfl⟩⟩
  · rintro i acc S' x ⟨hi, rfl, rfl⟩ hx
    refine ⟨ha, ?_⟩
    have hlt := (List.getElem?_eq_some_iff.mp hx).1
    refine (he x (List.mem_of_getElem? hx)).mono ?_
    rintro env' S2 ⟨rfl, h2⟩
    refine w_yes.mpr ?_
    rw [if_pos rfl]
    refine h2.mono ?_
    rintro y S3 ⟨rfl, rfl⟩
    refine ⟨?_, hlt, ?_, rfl⟩
    · rw [List.length_map, List.length_take]
      exact Nat.lt_of_le_of_lt (Nat.le_trans (Nat.min_le_right _ _) hn) (by decide : 1000 < lim)
    · rw [List.take_add_one, hx, List.map_append]
      rfl
  · rintro acc S' ⟨_, rfl, rfl⟩
    rw [List.take_length]
    exact ⟨ha, hQ⟩
theorem bools_map (p : PV → Bool) : ∀ xs : List PV, bools (xs.map fun x => PV.bl (p x)) = some (xs.map p)
  | [] => rfl
  | x :: r => by
    show (bools (r.map fun x => PV.bl (p x))).map (p x :: ·) = _
    rw [bools_map p r]
    rfl
theorem w_all {S : Store} {Q : PV → Store → Prop} {p : PV → Bool} {xs : List PV} : Post (bAll [.ls (xs.map fun x => PV.bl (p x))] S) Q ↔ Q (.bl (xs.all p)) S := by
  unfold bAll
  show Post (match (some (xs.map fun x => PV.bl (p x))).bind bools with | some ks => R.ok (PV.bl (ks.all id)) S | none => .bad) Q ↔ _
  rw [show (some (xs.map fun x => PV.bl (p x))).bind bools = some (xs.map p) from bools_map p xs]
  show Post (R.ok (PV.bl ((xs.map p).all id)) S) Q ↔ _
  rw [Post.ok, List.all_map]
  exact Iff.rfl
theorem w_any {S : Store} {Q : PV → Store → Prop} {p : PV → Bool} {xs : List PV} : Post (bAny [.ls (xs.map fun x => PV.bl (p x))] S) Q ↔ Q (.bl (xs.any p)) S := by
  unfold bAny
  show Post (match (some (xs.map fun x => PV.bl (p x))).bind bools with | some ks => R.ok (PV.bl (ks.any id)) S | none => .bad) Q ↔ _
  rw [show (some (xs.map fun x => PV.bl (p x))).bind bools = some (xs.map p) from bools_map p xs]
  show Post (R.ok (PV.bl ((xs.map p).any id)) S) Q ↔ _
  rw [Post.ok, List.any_map]
  exact Iff.rfl
end
local macro_rules | `(tactic| array_mem_dec) => `(tactic| (simp only [Bool.not_true, Bool.not_false]))
local macro_rules | `(tactic| array_mem_dec) => `(tactic| ((with_reducible refine (w_isaK (k := ?wx) ?wh).mpr ?_); (case wh => rfl)))
local macro_rules | `(tactic| array_mem_dec) => `(tactic| (with_reducible refine w_chain.mpr ?_))
local macro_rules | `(tactic| array_mem_dec) => `(tactic| (with_reducible refine w_isa.mpr ?_))
local macro_rules | `(tactic| array_mem_dec) => `(tactic| array_get_dec)
section
open PySem L2
end
section
open PySem L2
theorem is_below_spec (S : Store) (i n : Int) : Post (m_is_below [.int i, .int n] S) fun v S' => v = .bl (decide (0 ≤ i ∧ i < n)) ∧ S' = S := by
  unfold m_is_below
  refine w_fnP rfl ?_
  ((repeat array_mem_dec) <;> (try dsimp only))
  by_cases h : 0 ≤ i
  · rw [decide_eq_true h]
    ((repeat array_mem_dec) <;> (try dsimp only))
    refine (leave_same rfl).mpr ⟨?_, rfl⟩
    by_cases h2 : i < n <;> simp [h, h2]
  · rw [decide_eq_false h]
    ((repeat array_mem_dec) <;> (try dsimp only))
    refine (leave_same rfl).mpr ⟨?_, rfl⟩
    simp [h]
theorem is_tuple_of_spec (S : Store) (xs : List PV) (a b : Int) : Post (m_is_tuple_of [.tup xs, .int a, .int b] S) fun v S' => v = .bl (decide (a ≤ xs.length ∧ (xs.length : Int) ≤ b)) ∧ S' = S := by
  unfold m_is_tuple_of
  refine w_fnP rfl ?_
  ((repeat array_mem_dec) <;> (try dsimp only))
  by_cases h : a ≤ (xs.length : Int)
  · rw [decide_eq_true h]
    ((repeat array_mem_dec) <;> (try dsimp only))
    refine (leave_same rfl).mpr ⟨?_, rfl⟩
    by_cases h2 : (xs.length : Int) ≤ b <;> simp [h, h2]
  · rw [decide_eq_false h]
    ((repeat array_mem_dec) <;> (try dsimp only))
    refine (leave_same rfl).mpr ⟨?_, rfl⟩
    simp [h]
end

/-! PureE -/
/-! PureE: houses are houses. -/
section
open PySem L2
theorem cut_tail (xs : List PV) : cut xs (some 1) none = xs.drop 1 := by
  unfold cut
  have h1 : HT.sIx xs.length 0 (some 1) = min 1 xs.length := HT.sIx_nat xs.length 0 1
  rw [h1, HT.sIx_none]
  cases xs with
  | nil => rfl
  | cons x r =>
    have h2 : min 1 (x :: r).length = 1 := by rw [List.length_cons]; omega
    rw [h2]
    show List.take ((r.length + 1) - 1) r = r
    rw [Nat.add_sub_cancel]
    exact List.take_length
def isB (n : Int) : PV → Bool
  | .int i => decide (0 ≤ i ∧ i < n)
  | _ => false
def isUp : PV → Bool
  | .tup [.int a, .int b] => decide (a < b)
  | _ => false
theorem ivs_mem {xs : List Nat} {x : PV} (h : x ∈ ivs xs) : ∃ i : Nat, i ∈ xs ∧ x = .int i := by
  obtain ⟨i, h1, rfl⟩ := List.mem_map.mp h
  exact ⟨i, h1, rfl⟩
theorem ivs_length (xs : List Nat) : (ivs xs).length = xs.length := List.length_map ..
theorem asc_len : ∀ (xs : List Nat) (k n : Nat), xs.Pairwise (· < ·) → (∀ x ∈ xs, k ≤ x ∧ x < n) → xs.length ≤ n - k
  | [], _, _, _, _ => Nat.zero_le _
  | a :: r, k, n, h, hb => by
    have h1 := List.pairwise_cons.mp h
    have h2 := asc_len r (a + 1) n h1.2 fun x hx => ⟨h1.1 x hx, (hb x (by simp [hx])).2⟩
    have h3 := hb a (by simp)
    rw [List.length_cons]
    omega
theorem Boxes.len {xs : List Nat} (h : Boxes xs) : xs.length ≤ 6 := asc_len xs 0 6 h.1 fun x hx => ⟨Nat.zero_le _, h.2 x hx⟩
theorem ups {xs : List Nat} (h : xs.Pairwise (· < ·)) : (pairs (ivs xs) ((ivs xs).drop 1)).all isUp = true := by
  induction xs with
  | nil => rfl
  | cons a r ih =>
    cases r with
    | nil => rfl
    | cons b r =>
      have h1 := List.pairwise_cons.mp h
      have h2 := ih h1.2
      have h3 : a < b := h1.1 b (by simp)
      show (isUp (.tup [.int a, .int b]) && (pairs (ivs (b :: r)) ((ivs (b :: r)).drop 1)).all isUp) = true
      rw [h2]
      show (decide ((a : Int) < (b : Int)) && true) = true
      rw [decide_eq_true (by omega)]
      rfl
theorem are_rising_spec (S : Store) (xs : List Nat) (h : Boxes xs) : Post (m_are_rising_boxes [.tup (ivs xs)] S) fun v S' => v = .bl true ∧ S' = S := by
  unfold m_are_rising_boxes
  refine w_fnP rfl ?_
  ((repeat array_mem_dec) <;> (try dsimp only))
  refine lc_all (all := ivs xs) (by rfl) (by rw [ivs_length]; have := h.len; omega) (isB 6) (fun x hx => ?_) ?_
  · obtain ⟨i, hi, rfl⟩ := ivs_mem hx
    ((repeat array_mem_dec) <;> (try dsimp only))
    refine ⟨by trivial, ?_⟩
    ((repeat array_mem_dec) <;> (try dsimp only))
    exact is_below_spec _ _ _
  · ((repeat array_mem_dec) <;> (try dsimp only))
    refine w_all.mpr ?_
    have e : (ivs xs).all (isB 6) = true := List.all_eq_true.mpr fun x hx => by
      obtain ⟨i, hi, rfl⟩ := ivs_mem hx
      have := h.2 i hi
      exact decide_eq_true (by omega)
    rw [e]
    ((repeat array_mem_dec) <;> (try dsimp only))
    rw [cut_tail]
    refine lc_all (all := pairs (ivs xs) ((ivs xs).drop 1)) (by rfl) ?_ isUp (fun x hx => ?_) ?_
    · rw [pairs_length, ivs_length]
      have := h.len
      omega
    · obtain ⟨⟨a, b⟩, hab, rfl⟩ := List.mem_map.mp hx
      obtain ⟨i, hi, rfl⟩ := ivs_mem (List.of_mem_zip hab).1
      obtain ⟨j, hj, rfl⟩ := ivs_mem (List.mem_of_mem_drop (List.of_mem_zip hab).2)
      refine (w_gTp rfl rfl).mpr ?_
      ((repeat array_mem_dec) <;> (try dsimp only))
      refine ⟨by trivial, ?_⟩
      ((repeat array_mem_dec) <;> (try dsimp only))
      exact ⟨by trivial, by trivial⟩
    · ((repeat array_mem_dec) <;> (try dsimp only))
      refine w_all.mpr ?_
      rw [ups h.1]
      ((repeat array_mem_dec) <;> (try dsimp only))
      exact (leave_same rfl).mpr ⟨rfl, rfl⟩
theorem inSeq_ivs (b : Nat) : ∀ xs : List Nat, inSeq (.int b) (ivs xs) = xs.contains b
  | [] => rfl
  | x :: r => by
    show (eqv (.int x) (.int b) || inSeq (.int b) (ivs r)) = _
    rw [inSeq_ivs b r, List.contains_cons]
    show (((x : Int) == (b : Int)) || _) = _
    congr 1
    by_cases e : b = x
    · subst e; rw [beq_self_eq_true, beq_self_eq_true]
    · rw [beq_eq_false_iff_ne.mpr e, beq_eq_false_iff_ne.mpr (by omega : (x : Int) ≠ b)]
theorem flat_ivs (xs : List Nat) : (ivs xs).all flat = true := List.all_eq_true.mpr fun x hx => by
  obtain ⟨i, _, rfl⟩ := ivs_mem hx
  rfl
theorem is_house_spec (S : Store) (h : House) (ho : h.Ok) : Post (m_is_house [House.pv h] S) fun v S' => v = .bl true ∧ S' = S := by
  unfold m_is_house
  refine w_fnP rfl ?_
  ((repeat array_mem_dec) <;> (try dsimp only))
  refine (is_tuple_of_spec _ _ _ _).mono ?_
  rintro _ _ ⟨rfl, rfl⟩
  rw [decide_eq_true (by constructor <;> simp)]
  ((repeat array_mem_dec) <;> (try dsimp only))
  refine (are_rising_spec _ _ ho.ins).mono ?_
  rintro _ _ ⟨rfl, rfl⟩
  ((repeat array_mem_dec) <;> (try dsimp only))
  refine (is_below_spec _ _ _).mono ?_
  rintro _ _ ⟨rfl, rfl⟩
  rw [decide_eq_true (by have := ho.out; omega)]
  ((repeat array_mem_dec) <;> (try dsimp only))
  refine (are_rising_spec _ _ ho.kept).mono ?_
  rintro _ _ ⟨rfl, rfl⟩
  ((repeat array_mem_dec) <;> (try dsimp only))
  refine lc_all (all := ivs h.kept) (by rfl) (by rw [ivs_length]; have := ho.kept.len; omega) (fun _ => false) (fun x hx => ?_) ?_
  · obtain ⟨i, hi, rfl⟩ := ivs_mem hx
    ((repeat array_mem_dec) <;> (try dsimp only))
    refine ⟨by trivial, ?_⟩
    ((repeat array_mem_dec) <;> (try dsimp only))
    refine (w_in rfl rfl (flat_ivs _)).mpr ?_
    obtain ⟨h1, h2⟩ := ho.apart i hi
    rw [inSeq_ivs, show h.ins.contains i = false by rw [Bool.eq_false_iff]; intro z; exact h1 (List.contains_iff_mem.mp z)]
    ((repeat array_mem_dec) <;> (try dsimp only))
    rw [beq_eq_false_iff_ne.mpr (by omega : (i : Int) ≠ h.out)]
    exact ⟨rfl, by trivial⟩
  · ((repeat array_mem_dec) <;> (try dsimp only))
    refine w_any.mpr ?_
    rw [show (ivs h.kept).any (fun _ => false) = false from List.any_eq_false.mpr fun _ _ => by decide]
    ((repeat array_mem_dec) <;> (try dsimp only))
    exact (leave_same rfl).mpr ⟨rfl, rfl⟩
end

/-! PureF -/
/-! PureF: checks. -/
section
open PySem L2
/-- a for over what stays; I: by the item's number -/
theorem for_go {it : It} {all : List PV} {env : LW.Env} {S : Store} {g : XG} {b : XS} {QS : Fl × LW.Env → Store → Prop} (I : Nat → LW.Env → Store → Prop) (ha : it.items S = some all) (h0 : I 0 env S)
    (h : ∀ i env S x, I i env S → all[i]? = some x → it.items S = some all ∧ Post (g x env S) fun env S => Post (b env S) fun p S => match p.1 with
      | .nx => I (i + 1) p.2 S
      | .ct => I (i + 1) p.2 S
      | .bk => QS (.nx, p.2) S
      | .rt v => QS (.rt v, p.2) S)
    (he : ∀ env S, I all.length env S → it.items S = some all ∧ QS (.nx, env) S) : ForP it g b env S QS := ⟨all, ha, for_inv I h he all 0 rfl (Nat.zero_le _) env S h0⟩
theorem pairs_at {xs ys : List PV} {i : Nat} {z : PV} (h : (pairs xs ys)[i]? = some z) : ∃ x y, xs[i]? = some x ∧ ys[i]? = some y ∧ z = .tup [x, y] := by
  unfold pairs at h
  rw [List.getElem?_map] at h
  cases e : (xs.zip ys)[i]? with
  | none => rw [e] at h; cases h
  | some p =>
    rw [e] at h
    obtain ⟨x, y⟩ := p
    obtain ⟨h1, h2⟩ := List.getElem?_zip_eq_some.mp e
    exact ⟨x, y, h1, h2, (Option.some.inj h).symm⟩
end
section
open PySem L2
theorem check_houses_spec (S : Store) (hs : List House) (h1 : 1 ≤ hs.length) (h3 : hs.length ≤ 3) (ho : ∀ h ∈ hs, House.Ok h) : Post (m_check_houses [.tup (hs.map House.pv)] S) fun v S' => v = .non ∧ S' = S := by
  unfold m_check_houses
  refine w_fnP rfl ?_
  ((repeat array_mem_dec) <;> (try dsimp only))
  refine (is_tuple_of_spec _ _ _ _).mono ?_
  rintro _ _ ⟨rfl, rfl⟩
  rw [List.length_map, decide_eq_true (by omega)]
  ((repeat array_mem_dec) <;> (try dsimp only))
  refine for_go (all := pairs (upto 0 (hs.map House.pv).length) (hs.map House.pv)) (fun i env S' => S' = _ ∧ ∃ a b, env = [some (.tup (hs.map House.pv)), a, b]) (by rfl) ⟨rfl, none, none, rfl⟩ ?_ ?_
  · rintro i env S' x ⟨rfl, a, b, rfl⟩ hx
    obtain ⟨x, y, hx, hy, rfl⟩ := pairs_at hx
    refine ⟨by rfl, ?_⟩
    rw [List.getElem?_map] at hy
    cases hh : hs[i]? with
    | none => rw [hh] at hy; cases hy
    | some h =>
      rw [hh] at hy
      cases hy
      ((repeat array_mem_dec) <;> (try dsimp only))
      refine (is_house_spec _ h (ho h (List.mem_of_getElem? hh))).mono ?_
      rintro _ _ ⟨rfl, rfl⟩
      ((repeat array_mem_dec) <;> (try dsimp only))
      exact ⟨by trivial, _, _, rfl⟩
  · rintro env S' ⟨rfl, a, b, rfl⟩
    refine ⟨by rfl, ?_⟩
    ((repeat array_mem_dec) <;> (try dsimp only))
    exact (leave_same rfl).mpr ⟨rfl, rfl⟩
end

/-! PureG -/
/-! PureG: rows are rows. -/
section
open PySem L2
theorem w_getS {ks : List Str} {vs : List PV} {k : XE} {env : LW.Env} {S : Store} {Q : PV → Store → Prop} : Post (eGetS ks vs k env S) Q ↔ Post (k env S) fun kv S => match kv with
    | .str k => Q ((lookS ks vs k).getD .non) S
    | _ => False := by
  unfold eGetS
  rw [Post.bind]
  constructor <;> (intro h; refine h.mono fun x S h => ?_; cases x <;> first | exact Post.ok.mp h | exact Post.ok.mpr h | exact (Post.bad.mp h).elim | exact False.elim h)
theorem cut1 (x : PV) (r : List PV) : cut (x :: r) (some 1) none = r := by
  have h1 : HT.sIx (x :: r).length 0 (some 1) = min 1 (x :: r).length := HT.sIx_nat (x :: r).length 0 1
  unfold cut
  rw [h1, HT.sIx_none]
  have h2 : min 1 (x :: r).length = 1 := by rw [List.length_cons]; omega
  rw [h2]
  show List.take ((r.length + 1) - 1) r = r
  rw [Nat.add_sub_cancel]
  exact List.take_length
end
section
open PySem L2
def lims (rows routines : Nat) : Cell := .dks ["box", "number", "row", "routine"] [.int 6, .int 1000, .int rows, .int routines]
def limOf (rows routines : Nat) (k : Str) : Option PV := lookS ["box", "number", "row", "routine"] [.int 6, .int 1000, .int rows, .int routines] k
/-- a value below its place's limit -/
def Fits (rows routines : Nat) (v p : PV) : Prop := ∃ (i n : Int) (k : Str), v = .int i ∧ p = .str k ∧ limOf rows routines k = some (.int n) ∧ 0 ≤ i ∧ i < n
theorem is_row_spec (S : Store) (l rows routines : Nat) (w : Str) (vs ps : List PV) (hl : S[l]? = some (lims rows routines)) (hp : lookS K_PLACES V_PLACES w = some (.tup ps)) (hn : vs.length = ps.length) (hn3 : vs.length ≤ 3)
    (hf : ∀ (i : Nat) v p, vs[i]? = some v → ps[i]? = some p → Fits rows routines v p) : Post (m_is_row [.tup (.str w :: vs), .loc l] S) fun v S' => v = .bl true ∧ S' = S := by
  unfold m_is_row
  refine w_fnP rfl ?_
  ((repeat array_mem_dec) <;> (try dsimp only))
  rw [beq_eq_false_iff_ne.mpr (by rw [List.length_cons]; omega : ((PV.str w :: vs).length : Int) ≠ 0)]
  ((repeat array_mem_dec) <;> (try dsimp only))
  refine w_getS.mpr ?_
  ((repeat array_mem_dec) <;> (try dsimp only))
  rw [hp, show (some (PV.tup ps)).getD PV.non = PV.tup ps from rfl, show (PV.tup ps).isNon = false from rfl]
  ((repeat array_mem_dec) <;> (try dsimp only))
  rw [show ((((PV.str w :: vs).length : Int)) == (ps.length : Int) + 1) = true from beq_iff_eq.mpr (by rw [List.length_cons]; omega)]
  ((repeat array_mem_dec) <;> (try dsimp only))
  rw [cut1]
  refine lc_all (all := pairs vs ps) (by rfl) (by rw [pairs_length]; omega) (fun _ => true) (fun x hx => ?_) ?_
  · obtain ⟨i, hi⟩ := List.getElem?_of_mem hx
    obtain ⟨v, p, h1, h2, rfl⟩ := pairs_at hi
    obtain ⟨j, n, k, rfl, rfl, hk, h0, h3⟩ := hf i v p h1 h2
    refine (w_gTp (xs := [.int j, .str k]) (by rfl) (by rfl)).mpr ?_
    ((repeat array_mem_dec) <;> (try dsimp only))
    refine ⟨by trivial, ?_⟩
    ((repeat array_mem_dec) <;> (try dsimp only))
    refine (w_ixS (show dksOf S (.loc l) = some _ by unfold dksOf; simp only [hl]; rfl) hk).mpr ?_
    ((repeat array_mem_dec) <;> (try dsimp only))
    refine (is_below_spec _ _ _).mono ?_
    rintro _ _ ⟨rfl, rfl⟩
    exact ⟨by rw [decide_eq_true ⟨h0, h3⟩], rfl⟩
  · ((repeat array_mem_dec) <;> (try dsimp only))
    refine w_all.mpr ?_
    rw [show (pairs vs ps).all (fun _ => true) = true from List.all_eq_true.mpr fun _ _ => rfl]
    exact (leave_same rfl).mpr ⟨rfl, rfl⟩
inductive Row where
  | put (b n : Nat) | move (a b : Nat) | add (a b c : Nat) | take (a b c : Nat) | push (b : Nat) | pop (b : Nat) | say (b : Nat) | zero (b t : Nat) | go (t : Nat) | call (r : Nat) | back
def Row.pv : Row → PV
  | .put b n => .tup [.str "put", .int b, .int n]
  | .move a b => .tup [.str "move", .int a, .int b]
  | .add a b c => .tup [.str "add", .int a, .int b, .int c]
  | .take a b c => .tup [.str "take", .int a, .int b, .int c]
  | .push b => .tup [.str "push", .int b]
  | .pop b => .tup [.str "pop", .int b]
  | .say b => .tup [.str "say", .int b]
  | .zero b t => .tup [.str "zero", .int b, .int t]
  | .go t => .tup [.str "go", .int t]
  | .call r => .tup [.str "call", .int r]
  | .back => .tup [.str "back"]
def Row.Ok (rows routines : Nat) : Row → Prop
  | .put b n => b < 6 ∧ n < 1000
  | .move a b => a < 6 ∧ b < 6
  | .add a b c => a < 6 ∧ b < 6 ∧ c < 6
  | .take a b c => a < 6 ∧ b < 6 ∧ c < 6
  | .push b => b < 6
  | .pop b => b < 6
  | .say b => b < 6
  | .zero b t => b < 6 ∧ t < rows
  | .go t => t < rows
  | .call r => r < routines
  | .back => True
theorem fitsBox {rows routines b : Nat} (h : b < 6) : Fits rows routines (.int b) (.str "box") := ⟨b, 6, _, rfl, rfl, by rfl, by omega, by omega⟩
theorem fitsNum {rows routines b : Nat} (h : b < 1000) : Fits rows routines (.int b) (.str "number") := ⟨b, 1000, _, rfl, rfl, by rfl, by omega, by omega⟩
theorem fitsRow {rows routines b : Nat} (h : b < rows) : Fits rows routines (.int b) (.str "row") := ⟨b, rows, _, rfl, rfl, by rfl, by omega, by omega⟩
theorem fitsRou {rows routines b : Nat} (h : b < routines) : Fits rows routines (.int b) (.str "routine") := ⟨b, routines, _, rfl, rfl, by rfl, by omega, by omega⟩
theorem fits0 {rows routines : Nat} : ∀ (i : Nat) (v p : PV), ([] : List PV)[i]? = some v → ([] : List PV)[i]? = some p → Fits rows routines v p := fun i v p h => by cases h
theorem fits1 {rows routines : Nat} {v p : PV} {vs ps : List PV} (h : Fits rows routines v p) (r : ∀ (i : Nat) (v p : PV), vs[i]? = some v → ps[i]? = some p → Fits rows routines v p) : ∀ (i : Nat) (v' p' : PV), (v :: vs)[i]? = some v' → (p :: ps)[i]? = some p' → Fits rows routines v' p' := fun i v' p' h1 h2 => by
  cases i with
  | zero => cases h1; cases h2; exact h
  | succ i => exact r i v' p' h1 h2
theorem row_spec (S : Store) (l rows routines : Nat) (hl : S[l]? = some (lims rows routines)) (r : Row) (h : r.Ok rows routines) : Post (m_is_row [r.pv, .loc l] S) fun v S' => v = .bl true ∧ S' = S := by
  cases r with
  | put b n => exact is_row_spec S l rows routines _ _ [.str "box", .str "number"] hl (by decide +kernel) rfl (Nat.le_of_ble_eq_true rfl) (fits1 (fitsBox h.1) (fits1 (fitsNum h.2) fits0))
  | move a b => exact is_row_spec S l rows routines _ _ [.str "box", .str "box"] hl (by decide +kernel) rfl (Nat.le_of_ble_eq_true rfl) (fits1 (fitsBox h.1) (fits1 (fitsBox h.2) fits0))
  | add a b c => exact is_row_spec S l rows routines _ _ [.str "box", .str "box", .str "box"] hl (by decide +kernel) rfl (Nat.le_of_ble_eq_true rfl) (fits1 (fitsBox h.1) (fits1 (fitsBox h.2.1) (fits1 (fitsBox h.2.2) fits0)))
  | take a b c => exact is_row_spec S l rows routines _ _ [.str "box", .str "box", .str "box"] hl (by decide +kernel) rfl (Nat.le_of_ble_eq_true rfl) (fits1 (fitsBox h.1) (fits1 (fitsBox h.2.1) (fits1 (fitsBox h.2.2) fits0)))
  | push b => exact is_row_spec S l rows routines _ _ [.str "box"] hl (by decide +kernel) rfl (Nat.le_of_ble_eq_true rfl) (fits1 (fitsBox h) fits0)
  | pop b => exact is_row_spec S l rows routines _ _ [.str "box"] hl (by decide +kernel) rfl (Nat.le_of_ble_eq_true rfl) (fits1 (fitsBox h) fits0)
  | say b => exact is_row_spec S l rows routines _ _ [.str "box"] hl (by decide +kernel) rfl (Nat.le_of_ble_eq_true rfl) (fits1 (fitsBox h) fits0)
  | zero b t => exact is_row_spec S l rows routines _ _ [.str "box", .str "row"] hl (by decide +kernel) rfl (Nat.le_of_ble_eq_true rfl) (fits1 (fitsBox h.1) (fits1 (fitsRow h.2) fits0))
  | go t => exact is_row_spec S l rows routines _ _ [.str "row"] hl (by decide +kernel) rfl (Nat.le_of_ble_eq_true rfl) (fits1 (fitsRow h) fits0)
  | call r => exact is_row_spec S l rows routines _ _ [.str "routine"] hl (by decide +kernel) rfl (Nat.le_of_ble_eq_true rfl) (fits1 (fitsRou h) fits0)
  | back => exact is_row_spec S l rows routines _ _ [] hl (by decide +kernel) rfl (Nat.le_of_ble_eq_true rfl) fits0
end

/-! PureH -/
/-! PureH: programs are programs. -/
section
open PySem L2
def LowS (S : Store) : Prop := S.all (Cell.low S.length) = true
theorem leave_drop {S more : Store} {v w : PV} {Q : PV → Store → Prop} (h : LowS S) (hm : more ≠ []) (hv : out1 S.length (S ++ more) v = some w) : Post (leave S.length v (S ++ more)) Q ↔ Q w S := by
  have h : S.all (Cell.low S.length) = true := h
  unfold leave
  rw [if_neg (by rw [List.length_append]; intro z; exact hm (List.eq_nil_of_length_eq_zero (by omega))), List.take_left, if_pos h]
  simp only [hv]
  exact Post.ok
theorem w_eDks {ks : List Str} {a : XA} {env : LW.Env} {S : Store} {Q : PV → Store → Prop} : Post (eDks ks a env S) Q ↔ Post (a env S) fun vs S => ks.length = vs.length ∧ ks.length ≤ 15 ∧ ks.Nodup ∧ Q (.loc S.length) (S ++ [.dks ks vs]) := by
  unfold eDks
  rw [Post.bind]
  constructor <;> (intro h; refine h.mono fun vs S h => ?_)
  · split at h
    · rename_i hc
      exact ⟨hc.1, hc.2.1, hc.2.2, Post.ok.mp h⟩
    · exact (Post.bad.mp h).elim
  · rw [if_pos ⟨h.1, h.2.1, h.2.2.1⟩]
    exact Post.ok.mpr h.2.2.2
end
section
open PySem L2
def Row.isEnd : Row → Prop
  | .go _ => True
  | .back => True
  | _ => False
theorem last_at (init : List Row) (r : Row) : atI ((init ++ [r]).map Row.pv) (-1) = some r.pv := by
  rw [List.map_append]
  exact L2.atI_last _ _
theorem check_rows_spec (S : Store) (hS : LowS S) (init : List Row) (last : Row) (number : Int) (many : Nat) (he : last.isEnd) (hr : ∀ r ∈ init ++ [last], r.Ok (init ++ [last]).length many) :
    Post (m_check_rows [.tup ((init ++ [last]).map Row.pv), .int number, .int many] S) fun v S' => v = .non ∧ S' = S := by
  unfold m_check_rows
  refine w_fnP rfl ?_
  ((repeat array_mem_dec) <;> (try dsimp only))
  refine w_eDks.mpr ?_
  ((repeat array_mem_dec) <;> (try dsimp only))
  refine ⟨rfl, by decide, by decide +kernel, ?_⟩
  ((repeat array_mem_dec) <;> (try dsimp only))
  have hl : (S ++ [Cell.dks ["box", "number", "row", "routine"] [PV.int 6, PV.int 1000, PV.int ((init ++ [last]).map Row.pv).length, PV.int many]])[S.length]? = some (lims (init ++ [last]).length many) := by
    rw [List.getElem?_append_right (Nat.le_refl _), Nat.sub_self, List.length_map]
    rfl
  refine for_go (all := pairs (upto 0 ((init ++ [last]).map Row.pv).length) ((init ++ [last]).map Row.pv)) (fun i env S' => S' = _ ∧ ∃ a b, env = [some (.tup ((init ++ [last]).map Row.pv)), some (.int number), some (.int many), some (.loc S.length), a, b]) (by rfl) ⟨rfl, none, none, rfl⟩ ?_ ?_
  · rintro i env S' x ⟨rfl, a, b, rfl⟩ hx
    obtain ⟨x, y, hx, hy, rfl⟩ := pairs_at hx
    refine ⟨by rfl, ?_⟩
    rw [List.getElem?_map] at hy
    cases hh : (init ++ [last])[i]? with
    | none => rw [hh] at hy; cases hy
    | some r =>
      rw [hh] at hy
      cases hy
      ((repeat array_mem_dec) <;> (try dsimp only))
      refine (row_spec _ _ _ _ hl r (hr r (List.mem_of_getElem? hh))).mono ?_
      rintro _ _ ⟨rfl, rfl⟩
      ((repeat array_mem_dec) <;> (try dsimp only))
      exact ⟨by trivial, _, _, rfl⟩
  · rintro env S' ⟨rfl, a, b, rfl⟩
    refine ⟨by rfl, ?_⟩
    ((repeat array_mem_dec) <;> (try dsimp only))
    refine (w_ix (by rfl) (last_at init last)).mpr ?_
    cases last with
    | go t =>
      ((repeat array_mem_dec) <;> (try dsimp only))
      refine (w_notIn (by rfl) rfl rfl).mpr ?_
      rw [show inSeq (.str "go") [.str "go", .str "back"] = true by decide +kernel]
      ((repeat array_mem_dec) <;> (try dsimp only))
      exact (leave_drop hS (by simp) (by rfl)).mpr ⟨rfl, rfl⟩
    | back =>
      ((repeat array_mem_dec) <;> (try dsimp only))
      refine (w_notIn (by rfl) rfl rfl).mpr ?_
      rw [show inSeq (.str "back") [.str "go", .str "back"] = true by decide +kernel]
      ((repeat array_mem_dec) <;> (try dsimp only))
      exact (leave_drop hS (by simp) (by rfl)).mpr ⟨rfl, rfl⟩
    | _ => exact he.elim
structure Routine where
  house : Nat
  init : List Row
  last : Row
def Routine.rows (r : Routine) : List Row := r.init ++ [r.last]
structure Routine.Ok (houses many : Nat) (r : Routine) : Prop where
  house : r.house < houses
  len : r.rows.length ≤ 32
  rows : ∀ x ∈ r.rows, x.Ok r.rows.length many
  last : r.last.isEnd
def Routine.pv (r : Routine) : PV := .tup [.int r.house, .tup (r.rows.map Row.pv)]
structure Prog where
  houses : List House
  routines : List Routine
structure Prog.Ok (p : Prog) : Prop where
  h1 : 1 ≤ p.houses.length
  h3 : p.houses.length ≤ 3
  r1 : 1 ≤ p.routines.length
  r6 : p.routines.length ≤ 6
  houses : ∀ h ∈ p.houses, h.Ok
  routines : ∀ r ∈ p.routines, r.Ok p.houses.length p.routines.length
def Prog.pv (p : Prog) : PV := .tup [.tup (p.houses.map House.pv), .tup (p.routines.map Routine.pv)]
theorem Routine.rows_pos (r : Routine) : 1 ≤ r.rows.length := by
  unfold Routine.rows
  rw [List.length_append]
  exact Nat.le_add_left _ _
theorem check_routines_spec (S : Store) (hS : LowS S) (p : Prog) (ho : p.Ok) : Post (m_check_routines [.tup (p.routines.map Routine.pv), .int p.houses.length] S) fun v S' => v = .non ∧ S' = S := by
  unfold m_check_routines
  refine w_fnP rfl ?_
  ((repeat array_mem_dec) <;> (try dsimp only))
  refine (is_tuple_of_spec _ _ _ _).mono ?_
  rintro _ _ ⟨rfl, rfl⟩
  rw [List.length_map, decide_eq_true (by have := ho.r1; have := ho.r6; omega)]
  ((repeat array_mem_dec) <;> (try dsimp only))
  refine for_go (all := pairs (upto 0 (p.routines.map Routine.pv).length) (p.routines.map Routine.pv)) (fun i env S' => S' = _ ∧ ∃ a b c d, env = [some (.tup (p.routines.map Routine.pv)), some (.int p.houses.length), a, b, c, d]) (by rfl) ⟨rfl, none, none, none, none, rfl⟩ ?_ ?_
  · rintro i env S' x ⟨rfl, a, b, c, d, rfl⟩ hx
    obtain ⟨x, y, hx1, hy, rfl⟩ := pairs_at hx
    refine ⟨by rfl, ?_⟩
    rw [List.getElem?_map] at hy
    cases hh : p.routines[i]? with
    | none => rw [hh] at hy; cases hy
    | some r =>
      rw [hh] at hy
      cases hy
      have hlt : i < (upto 0 (p.routines.map Routine.pv).length).length := (List.getElem?_eq_some_iff.mp hx1).1
      rw [upto_length] at hlt
      rw [upto_get hlt] at hx1
      cases hx1
      have hr := ho.routines r (List.mem_of_getElem? hh)
      ((repeat array_mem_dec) <;> (try dsimp only))
      refine (is_tuple_of_spec _ _ _ _).mono ?_
      rintro _ _ ⟨rfl, rfl⟩
      rw [decide_eq_true (by constructor <;> simp)]
      ((repeat array_mem_dec) <;> (try dsimp only))
      refine (is_below_spec _ _ _).mono ?_
      rintro _ _ ⟨rfl, rfl⟩
      rw [decide_eq_true (by have := hr.house; omega)]
      ((repeat array_mem_dec) <;> (try dsimp only))
      refine (is_tuple_of_spec _ _ _ _).mono ?_
      rintro _ _ ⟨rfl, rfl⟩
      rw [List.length_map, decide_eq_true (by have := hr.len; have := r.rows_pos; omega)]
      ((repeat array_mem_dec) <;> (try dsimp only))
      rw [List.length_map]
      refine (check_rows_spec _ hS r.init r.last _ p.routines.length hr.last hr.rows).mono ?_
      rintro _ _ ⟨rfl, rfl⟩
      exact ⟨by trivial, _, _, _, _, rfl⟩
  · rintro env S' ⟨rfl, a, b, c, d, rfl⟩
    refine ⟨by rfl, ?_⟩
    ((repeat array_mem_dec) <;> (try dsimp only))
    exact (leave_same rfl).mpr ⟨rfl, rfl⟩
theorem check_program_spec (S : Store) (hS : LowS S) (p : Prog) (ho : p.Ok) : Post (m_check_program [p.pv] S) fun v S' => v = .non ∧ S' = S := by
  unfold m_check_program
  refine w_fnP rfl ?_
  ((repeat array_mem_dec) <;> (try dsimp only))
  refine (is_tuple_of_spec _ _ _ _).mono ?_
  rintro _ _ ⟨rfl, rfl⟩
  rw [decide_eq_true (by constructor <;> simp)]
  ((repeat array_mem_dec) <;> (try dsimp only))
  refine (check_houses_spec _ _ ho.h1 ho.h3 ho.houses).mono ?_
  rintro _ _ ⟨rfl, rfl⟩
  ((repeat array_mem_dec) <;> (try dsimp only))
  rw [List.length_map]
  refine (check_routines_spec _ hS p ho).mono ?_
  rintro _ _ ⟨rfl, rfl⟩
  exact (leave_same rfl).mpr ⟨rfl, rfl⟩
end

/-! PureI0 -/
/-! PureI0: houses and rows by numbers. -/
section
open PySem L2
theorem atI_map {α : Type} {f : α → PV} {xs : List α} {i : Nat} {x : α} (h : xs[i]? = some x) : atI (xs.map f) (i : Int) = some (f x) := by
  rw [L2.atI_nat (j := i)]
  rw [List.getElem?_map, h]
  rfl
theorem house_of_spec (S : Store) (p : Prog) (i : Nat) (r : Routine) (h : House) (hr : p.routines[i]? = some r) (hh : p.houses[r.house]? = some h) : Post (m_house_of [p.pv, .int i] S) fun v S' => v = h.pv ∧ S' = S := by
  unfold m_house_of
  refine w_fnP rfl ?_
  ((repeat array_mem_dec) <;> (try dsimp only))
  refine (w_ix (by rfl) (atI_map hr)).mpr ?_
  ((repeat array_mem_dec) <;> (try dsimp only))
  refine (w_ix (by rfl) (atI_map hh)).mpr ?_
  ((repeat array_mem_dec) <;> (try dsimp only))
  exact (leave_same rfl).mpr ⟨rfl, rfl⟩
theorem rows_of_spec (S : Store) (p : Prog) (i : Nat) (r : Routine) (hr : p.routines[i]? = some r) : Post (m_rows_of [p.pv, .int i] S) fun v S' => v = .tup (r.rows.map Row.pv) ∧ S' = S := by
  unfold m_rows_of
  refine w_fnP rfl ?_
  ((repeat array_mem_dec) <;> (try dsimp only))
  refine (w_ix (by rfl) (atI_map hr)).mpr ?_
  ((repeat array_mem_dec) <;> (try dsimp only))
  exact (leave_same rfl).mpr ⟨rfl, rfl⟩
/-- routine 0's house -/
theorem Prog.Ok.first {p : Prog} (ho : p.Ok) : ∃ r h, p.routines[0]? = some r ∧ p.houses[r.house]? = some h ∧ r.Ok p.houses.length p.routines.length ∧ h.Ok := by
  have h1 := ho.r1
  have hr := ho.routines p.routines[0] (List.getElem_mem _)
  exact ⟨p.routines[0], p.houses[p.routines[0].house]'hr.house, List.getElem?_eq_getElem _, List.getElem?_eq_getElem hr.house, hr, ho.houses _ (List.getElem_mem _)⟩
end

/-! PureJ0 -/
/-! PureJ0: draws over what stays. -/
section
open PySem L2
end

/-! PureKa -/
/-! PureKa: dicts of words. -/
section
open PySem L2
theorem w_eDc {ks : List Str} {a : XA} {env : LW.Env} {S : Store} {Q : PV → Store → Prop} : Post (eDc ks a env S) Q ↔ Post (a env S) fun vs S => ks.length = vs.length ∧ ks.length ≤ 15 ∧ ks.Nodup ∧ Q (.dc ks vs) S := by
  unfold eDc
  rw [Post.bind]
  constructor <;> (intro h; refine h.mono fun vs S h => ?_)
  · split at h
    · rename_i hc
      exact ⟨hc.1, hc.2.1, hc.2.2, Post.ok.mp h⟩
    · exact (Post.bad.mp h).elim
  · rw [if_pos ⟨h.1, h.2.1, h.2.2.1⟩]
    exact Post.ok.mpr h.2.2.2
theorem w_get2 {o k d : XE} {env : LW.Env} {S : Store} {Q : PV → Store → Prop} (h : Post (o env S) fun ov S => ∃ ks vs, ov = .dc ks vs ∧ Post (k env S) fun kv S => ∃ w, kv = .str w ∧ Post (d env S) fun dv S => Q ((lookS ks vs w).getD dv) S) : Post (eGet2 o k d env S) Q := by
  unfold eGet2
  rw [Post.bind]
  refine h.mono ?_
  rintro _ S ⟨ks, vs, rfl, h⟩
  show Post ((k env S).bind _) Q
  rw [Post.bind]
  refine h.mono ?_
  rintro _ S ⟨w, rfl, h⟩
  rw [Post.bind]
  exact h.mono fun dv S h => Post.ok.mpr h
end

/-! PureL -/
/-! PureL: routines that are drawn row by row: the dict e and its lists. -/
section
open PySem L2
theorem w_meth1 {f : Nat → PV → Store → R PV} {o a : XE} {env : LW.Env} {S : Store} {Q : PV → Store → Prop} (h : Post (o env S) fun x S => ∃ l xs, x = .loc l ∧ S[l]? = some (.lst xs) ∧ Post (a env S) fun y S => Post (f l y S) Q) : Post (eMeth1 f o a env S) Q := by
  unfold eMeth1
  rw [Post.bind]
  refine h.mono ?_
  rintro _ S ⟨l, xs, rfl, h, k⟩
  simp only [h]
  rw [Post.bind]
  exact k
theorem w_mAppend {l : Nat} {xs : List PV} {y : PV} {S : Store} {Q : PV → Store → Prop} (h : S[l]? = some (.lst xs)) (h2 : xs.length < lim) : Post (mAppend l y S) Q ↔ Q .non (S.set l (.lst (xs ++ [y]))) := by
  unfold mAppend
  simp only [h]
  rw [if_pos h2]
  exact Post.ok
theorem w_mExtend {l : Nat} {xs ys : List PV} {y : PV} {S : Store} {Q : PV → Store → Prop} (h : S[l]? = some (.lst xs)) (hy : lstOf S y = some ys) (h2 : xs.length + ys.length ≤ lim) : Post (mExtend l y S) Q ↔ Q .non (S.set l (.lst (xs ++ ys))) := by
  unfold mExtend
  simp only [h, hy]
  rw [if_pos h2]
  exact Post.ok
theorem w_sPar {i j : Nat} {a : XA} {env : LW.Env} {S : Store} {QS : Fl × LW.Env → Store → Prop} : Post (sPar i j a env S) QS ↔ Post (a env S) fun xs S => ∃ x y, xs = [x, y] ∧ QS (.nx, (env.set i (some x)).set j (some y)) S := by
  unfold sPar
  rw [Post.bind]
  constructor <;> (intro h; refine h.mono fun xs S h => ?_)
  · split at h
    · exact ⟨_, _, rfl, Post.ok.mp h⟩
    · exact (Post.bad.mp h).elim
  · obtain ⟨x, y, rfl, h⟩ := h
    exact Post.ok.mpr h
theorem w_ifT {A B : Prop} {d : Decidable True} : (@ite Prop True d A B) ↔ A := by rw [if_pos True.intro]
theorem w_ifF {A B : Prop} {d : Decidable False} : (@ite Prop False d A B) ↔ B := by rw [if_neg id]
theorem pick {xs : List PV} {r : Int} (h0 : 0 ≤ r) (h1 : r < xs.length) : ∃ x, x ∈ xs ∧ atI xs r = some x := by
  obtain ⟨n, rfl⟩ : ∃ n : Nat, r = n := ⟨r.toNat, by omega⟩
  have hn : n < xs.length := by omega
  refine ⟨xs[n], List.getElem_mem hn, ?_⟩
  rw [L2.atI_nat (j := n)]
  exact List.getElem?_eq_getElem hn
theorem get_app {A B : Store} {i : Nat} : (A ++ B)[A.length + i]? = B[i]? := by
  rw [List.getElem?_append_right (Nat.le_add_right _ _), Nat.add_sub_cancel_left]
theorem set_app {A B : Store} {i : Nat} {c : Cell} : (A ++ B).set (A.length + i) c = A ++ B.set i c := by
  rw [List.set_append_right _ _ (Nat.le_add_right _ _), Nat.add_sub_cancel_left]
theorem eq_nil_ls {xs : List PV} {S : Store} : (plain 20 (res 20 S (.ls xs)) = true) → eqv (res 20 S (.ls xs)) (.ls []) = xs.isEmpty := by
  intro _
  cases xs <;> rfl
theorem w_eqE' {xs : List PV} {S : Store} {Q : PV → Store → Prop} (h : plain 20 (res 20 S (.ls xs)) = true) : Post (oEq (.ls xs) (.ls []) S) Q ↔ Q (.bl xs.isEmpty) S := by
  unfold oEq
  rw [if_pos ⟨h, rfl⟩]
  show Post (R.ok (PV.bl (eqv (res 20 S (.ls xs)) (.ls []))) S) Q ↔ _
  rw [eq_nil_ls h]
  exact Post.ok
theorem w_neE' {xs : List PV} {S : Store} {Q : PV → Store → Prop} (h : plain 20 (res 20 S (.ls xs)) = true) : Post (oNe (.ls xs) (.ls []) S) Q ↔ Q (.bl (!xs.isEmpty)) S := by
  unfold oNe
  rw [if_pos ⟨h, rfl⟩]
  show Post (R.ok (PV.bl (!eqv (res 20 S (.ls xs)) (.ls []))) S) Q ↔ _
  rw [eq_nil_ls h]
  exact Post.ok
end
section
open PySem L2
theorem plain_ivs (xs : List Nat) (S : Store) : plain 20 (res 20 S (.ls (ivs xs))) = true := by
  have h : ∀ xs : List Nat, ((ivs xs).map (res 19 S)).all (plain 19) = true := by
    intro xs
    induction xs with
    | nil => rfl
    | cons x r ih =>
      show (true && ((ivs r).map (res 19 S)).all (plain 19)) = true
      rw [ih]
      rfl
  exact h xs
theorem pick_ivs {xs : List Nat} {r : Int} (h0 : 0 ≤ r) (h1 : r < xs.length) : ∃ b : Nat, b ∈ xs ∧ atI (ivs xs) r = some (.int b) := by
  obtain ⟨x, hx, h⟩ := pick (xs := ivs xs) h0 (by rw [ivs_length]; exact h1)
  obtain ⟨i, hi, rfl⟩ := ivs_mem hx
  exact ⟨i, hi, h⟩
/-- what a routine is made of -/
structure Es where
  rows : List Row
  houses : List House
  owners : List Nat
  boxes : List Str
  free : List Nat
def Es.cells (e : Es) (m : Nat) : Store := [.lst (e.rows.map Row.pv), .dks ["rows", "houses", "owners", "boxes", "free"] [.loc (m + 2), .tup (e.houses.map House.pv), .ls (ivs e.owners), .loc (m + 4), .ls (ivs e.free)], .lst (e.boxes.map .str)]
abbrev Es.st (e : Es) (g : Hs) (rest : Store) : Store := g.st (rest ++ e.cells rest.length)
structure Es.Ok (many : Nat) (e : Es) : Prop where
  six : e.boxes.length = 6
  marks : ∀ b ∈ e.boxes, PyData.strOk b = true
  rows : ∀ r ∈ e.rows, r.Ok (e.rows.length + 1) many
  free : Boxes e.free
  most : 0 < e.free.length
  mpos : 0 < many
  owned : e.owners.length = many
  few : many ≤ 6
  owners : ∀ o ∈ e.owners, o < e.houses.length
  houses : ∀ h ∈ e.houses, h.Ok
def Es.Like (e e' : Es) : Prop := e'.houses = e.houses ∧ e'.owners = e.owners ∧ e'.free = e.free ∧ e.rows.length ≤ e'.rows.length
theorem Row.Ok.mono {n n' m : Nat} {r : Row} (h : r.Ok n m) (hn : n ≤ n') : r.Ok n' m := by
  cases r with
  | zero b t => exact ⟨h.1, Nat.lt_of_lt_of_le h.2 hn⟩
  | go t => exact Nat.lt_of_lt_of_le (show t < n from h) hn
  | put b n => exact h
  | move a b => exact h
  | add a b c => exact h
  | take a b c => exact h
  | push b => exact h
  | pop b => exact h
  | say b => exact h
  | call r => exact h
  | back => exact h
section
variable {e : Es} {g : Hs} {rest : Store} {Q : PV → Store → Prop} {i : Nat} {b : Str} {many : Nat}
theorem Es.len : (e.st g rest).length = rest.length + 5 := by
  show (rest ++ e.cells rest.length).length + 1 + 1 = _
  rw [List.length_append]
  rfl
theorem Es.at0 : (e.st g rest)[rest.length + 2]? = some (.lst (e.rows.map Row.pv)) := get_app (A := rest) (B := e.cells rest.length) (i := 0)
theorem Es.at1 : (e.st g rest)[rest.length + 3]? = some (.dks ["rows", "houses", "owners", "boxes", "free"] [.loc (rest.length + 2), .tup (e.houses.map House.pv), .ls (ivs e.owners), .loc (rest.length + 4), .ls (ivs e.free)]) := get_app (A := rest) (B := e.cells rest.length) (i := 1)
theorem Es.at2 : (e.st g rest)[rest.length + 4]? = some (.lst (e.boxes.map .str)) := get_app (A := rest) (B := e.cells rest.length) (i := 2)
theorem Es.set0 {rs : List Row} : (e.st g rest).set (rest.length + 2) (.lst (rs.map Row.pv)) = Es.st { e with rows := rs } g rest := congrArg (fun z => Cell.lst (g.l.map .int) :: Cell.lst [.int g.a, .loc 0, .int g.c] :: z) (set_app (A := rest) (B := e.cells rest.length) (i := 0))
theorem Es.set2 {bs : List Str} : (e.st g rest).set (rest.length + 4) (.lst (bs.map .str)) = Es.st { e with boxes := bs } g rest := congrArg (fun z => Cell.lst (g.l.map .int) :: Cell.lst [.int g.a, .loc 0, .int g.c] :: z) (set_app (A := rest) (B := e.cells rest.length) (i := 2))
theorem Es.dksAt : dksOf (e.st g rest) (.loc (rest.length + 3)) = some ((["rows", "houses", "owners", "boxes", "free"] : List Str), [PV.loc (rest.length + 2), PV.tup (e.houses.map House.pv), PV.ls (ivs e.owners), PV.loc (rest.length + 4), PV.ls (ivs e.free)]) := by
  show (match (e.st g rest)[rest.length + 3]? with | some (.dks ks vs) => some (ks, vs) | _ => none) = _
  rw [Es.at1]
theorem w_eRows : Post (oIx (.loc (rest.length + 3)) (.str "rows") (e.st g rest)) Q ↔ Q (.loc (rest.length + 2)) (e.st g rest) := w_ixS Es.dksAt rfl
theorem w_eHouses : Post (oIx (.loc (rest.length + 3)) (.str "houses") (e.st g rest)) Q ↔ Q (.tup (e.houses.map House.pv)) (e.st g rest) := w_ixS Es.dksAt rfl
theorem w_eOwners : Post (oIx (.loc (rest.length + 3)) (.str "owners") (e.st g rest)) Q ↔ Q (.ls (ivs e.owners)) (e.st g rest) := w_ixS Es.dksAt rfl
theorem w_eBoxes : Post (oIx (.loc (rest.length + 3)) (.str "boxes") (e.st g rest)) Q ↔ Q (.loc (rest.length + 4)) (e.st g rest) := w_ixS Es.dksAt rfl
theorem w_eFree : Post (oIx (.loc (rest.length + 3)) (.str "free") (e.st g rest)) Q ↔ Q (.ls (ivs e.free)) (e.st g rest) := w_ixS Es.dksAt rfl
theorem Es.seq0 : seqOf (e.st g rest) (.loc (rest.length + 2)) = some (e.rows.map Row.pv) := by
  show (match (e.st g rest)[rest.length + 2]? with | some (.lst xs) => some xs | _ => none) = _
  rw [Es.at0]
theorem Es.seq2 : seqOf (e.st g rest) (.loc (rest.length + 4)) = some (e.boxes.map .str) := by
  show (match (e.st g rest)[rest.length + 4]? with | some (.lst xs) => some xs | _ => none) = _
  rw [Es.at2]
theorem w_eBox (h : e.boxes[i]? = some b) : Post (oIx (.loc (rest.length + 4)) (.int (i : Int)) (e.st g rest)) Q ↔ Q (.str b) (e.st g rest) := w_ix Es.seq2 (atI_map h)
theorem w_eLenR : Post (bLen [.loc (rest.length + 2)] (e.st g rest)) Q ↔ Q (.int e.rows.length) (e.st g rest) := by rw [w_len Es.seq0, List.length_map]
theorem w_eLenI {S : Store} {xs : List Nat} : Post (bLen [.ls (ivs xs)] S) Q ↔ Q (.int xs.length) S := by rw [w_len rfl, ivs_length]
theorem Es.Ok.at (h : e.Ok many) {i : Nat} (hi : i < 6) : ∃ b, e.boxes[i]? = some b ∧ PyData.strOk b = true := by
  have h6 : i < e.boxes.length := by rw [h.six]; exact hi
  exact ⟨e.boxes[i], List.getElem?_eq_getElem h6, h.marks _ (List.getElem_mem h6)⟩
theorem w_eAdd {r : Row} (h : e.rows.length < 20000) : Post (mAppend (rest.length + 2) r.pv (e.st g rest)) Q ↔ Q .non (Es.st { e with rows := e.rows ++ [r] } g rest) := by
  rw [w_mAppend Es.at0 (by rw [List.length_map]; exact Nat.lt_trans h (by decide)), show e.rows.map Row.pv ++ [r.pv] = (e.rows ++ [r]).map Row.pv by rw [List.map_append]; rfl, Es.set0]
theorem w_eMore {y : PV} {rs : List Row} (hy : y = .ls (rs.map Row.pv)) (h : e.rows.length + rs.length < 20000) : Post (mExtend (rest.length + 2) y (e.st g rest)) Q ↔ Q .non (Es.st { e with rows := e.rows ++ rs } g rest) := by
  subst hy
  rw [w_mExtend (ys := rs.map Row.pv) Es.at0 rfl (by rw [List.length_map, List.length_map]; exact Nat.le_of_lt (Nat.lt_trans h (by decide))), show e.rows.map Row.pv ++ rs.map Row.pv = (e.rows ++ rs).map Row.pv by rw [List.map_append], Es.set0]
theorem w_eSetB {QU : Unit → Store → Prop} (h : e.Ok many) (hi : i < 6) : Post (oSet (.loc (rest.length + 4)) (.int (i : Int)) (.str b) (e.st g rest)) QU ↔ QU () (Es.st { e with boxes := e.boxes.set i b } g rest) := by
  rw [w_setL Es.at2 (ixOf_nat (by rw [List.length_map, h.six]; exact hi)), ← Es.set2 (e := e) (bs := e.boxes.set i b), List.map_set]
theorem Es.Ok.box (h : e.Ok many) (hb : PyData.strOk b = true) : Es.Ok many { e with boxes := e.boxes.set i b } :=
  ⟨by show (e.boxes.set i b).length = 6; rw [List.length_set]; exact h.six, fun c hc => (List.mem_or_eq_of_mem_set hc).elim (fun z => h.marks c z) (fun z => z ▸ hb), h.rows, h.free, h.most, h.mpos, h.owned, h.few, h.owners, h.houses⟩
theorem Es.Ok.more (h : e.Ok many) {rs : List Row} (hr : ∀ r ∈ rs, r.Ok (e.rows.length + rs.length + 1) many) : Es.Ok many { e with rows := e.rows ++ rs } :=
  ⟨h.six, h.marks, fun r hr' => by
    show r.Ok ((e.rows ++ rs).length + 1) many
    rw [List.length_append]
    rcases List.mem_append.mp hr' with z | z
    · exact (h.rows r z).mono (by omega)
    · exact hr r z, h.free, h.most, h.mpos, h.owned, h.few, h.owners, h.houses⟩
end
end
local macro_rules | `(tactic| sizeOf_list_dec) => `(tactic| array_mem_dec)
local macro_rules | `(tactic| sizeOf_list_dec) => `(tactic| (with_reducible refine w_ifF.mpr ?_))
local macro_rules | `(tactic| sizeOf_list_dec) => `(tactic| (with_reducible refine w_ifT.mpr ?_))
local macro_rules | `(tactic| sizeOf_list_dec) => `(tactic| (with_reducible refine w_meth1 ?_))
local macro_rules | `(tactic| sizeOf_list_dec) => `(tactic| (with_reducible refine w_eLenI.mpr ?_))
local macro_rules | `(tactic| sizeOf_list_dec) => `(tactic| (with_reducible refine w_eLenR.mpr ?_))
local macro_rules | `(tactic| sizeOf_list_dec) => `(tactic| (with_reducible refine w_eFree.mpr ?_))
local macro_rules | `(tactic| sizeOf_list_dec) => `(tactic| (with_reducible refine w_eBoxes.mpr ?_))
local macro_rules | `(tactic| sizeOf_list_dec) => `(tactic| (with_reducible refine w_eOwners.mpr ?_))
local macro_rules | `(tactic| sizeOf_list_dec) => `(tactic| (with_reducible refine w_eHouses.mpr ?_))
local macro_rules | `(tactic| sizeOf_list_dec) => `(tactic| (with_reducible refine w_eRows.mpr ?_))
section
open PySem L2
end

/-! PureM -/
/-! PureM: one simple row. -/
section
open PySem L2
theorem lc_some {env : LW.Env} {S : Store} {QA : List PV → Store → Prop} {v n : Nat} {t : XB} (hn : n ≤ 1000) (hv : v < env.length) (p : Nat → Bool)
    (ht : ∀ i, i < n → Post (t (env.set v (some (.int (i : Int)))) S) fun k S' => k = p i ∧ S' = S) (hQ : ∀ xs : List Nat, xs.Pairwise (· < ·) → (∀ i, i ∈ xs ↔ i < n ∧ p i = true) → QA (ivs xs) S) : LcP (.rng 0 n) (gNm v) t (eVar v) env S QA :=
  lc_filter hn hv p ht (hQ _ (List.Pairwise.filter _ List.pairwise_lt_range) fun i => by rw [List.mem_filter, List.mem_range])
theorem some_boxes {xs : List Nat} {p : Nat → Bool} (h : xs.Pairwise (· < ·)) (m : ∀ i, i ∈ xs ↔ i < 6 ∧ p i = true) : Boxes xs := ⟨h, fun x hx => ((m x).mp hx).1⟩
inductive SRow (goal : Nat) : Row → Prop
  | put (n : Nat) (h : n < 1000) : SRow goal (.put goal n)
  | say (b : Nat) (h : b < 6) : SRow goal (.say b)
  | move (b : Nat) (h : b < 6) : SRow goal (.move goal b)
  | add (b c : Nat) (h : b < 6) (h2 : c < 6) : SRow goal (.add goal b c)
  | take (b c : Nat) (h : b < 6) (h2 : c < 6) : SRow goal (.take goal b c)
theorem SRow.ok {goal : Nat} (hg : goal < 6) {r : Row} (h : SRow goal r) (n m : Nat) : r.Ok n m := by
  cases h with
  | put n h => exact ⟨hg, h⟩
  | say b h => exact h
  | move b h => exact ⟨hg, h⟩
  | add b c h h2 => exact ⟨hg, h, h2⟩
  | take b c h h2 => exact ⟨hg, h, h2⟩
/-- how a dict of this kind is after a step -/
def EsOut (many : Nat) (e : Es) (rest : Store) (k : Nat) (v : PV) (S : Store) : Prop := ∃ e' g', v = .non ∧ S = Es.st e' g' rest ∧ g'.Ok ∧ e'.Ok many ∧ e.Like e' ∧ e'.rows.length ≤ e.rows.length + k
theorem simple_spec (g : Hs) (rest : Store) (e : Es) (many : Nat) (hg : g.Ok) (he : e.Ok many) (hs : e.rows.length ≤ 9000) :
    Post (m_simple [.loc 1, .loc (rest.length + 3)] (e.st g rest)) (EsOut many e rest 1) := by
  have hf6 := he.free.len
  have hf0 := he.most
  unfold m_simple
  refine w_fnP rfl ?_
  ((repeat sizeOf_list_dec) <;> (try dsimp only))
  refine lc_some (n := 6) (by decide) (by show 3 < 10; decide) (fun i => decide (e.boxes[i]? = some ("good" : Str))) (fun i hi => ?_) (fun good good1 good2 => ?_)
  · obtain ⟨b, hb, hbo⟩ := he.at hi
    ((repeat sizeOf_list_dec) <;> (try dsimp only))
    refine (w_eBox hb).mpr ?_
    ((repeat sizeOf_list_dec) <;> (try dsimp only))
    refine (w_eqS hbo (by decide +kernel)).mpr ?_
    ((repeat sizeOf_list_dec) <;> (try dsimp only))
    exact ⟨by rw [hb]; simp, by trivial⟩
  ((repeat sizeOf_list_dec) <;> (try dsimp only))
  ((refine Post.mono (next_spec _ _ _ hg ?hn0 ?hn1) ?_); (case hn0 => omega); (case hn1 => omega))
  rintro _ _ ⟨r1, g1, rfl, rfl, hg1, a1, b1⟩
  obtain ⟨goal, hgoal, hat⟩ := pick_ivs a1 b1
  have hgoal6 : goal < 6 := he.free.2 _ hgoal
  refine (w_ix rfl hat).mpr ?_
  ((repeat sizeOf_list_dec) <;> (try dsimp only))
  ((refine Post.mono (next_spec _ _ _ hg1 ?hn0 ?hn1) ?_); (case hn0 => omega); (case hn1 => omega))
  rintro _ _ ⟨turn, g2, rfl, rfl, hg2, a2, b2⟩
  ((repeat ((fail_if_success (with_reducible refine w_if.mpr ?_)); sizeOf_list_dec)) <;> (try dsimp only))
  have hgood : Boxes good := some_boxes good1 good2
  have hgl := hgood.len
  refine Post.mono (Q := fun p S => p.1 = .nx ∧ ∃ r g3 x7 x8 x9, p.2 = [some (.loc 1), some (.loc (rest.length + 3)), some (.ls (ivs good)), none, some (.int goal), some (.int turn), some r.pv, x7, x8, x9] ∧ S = e.st g3 rest ∧ g3.Ok ∧ SRow goal r) ?_ ?_
  · ((repeat sizeOf_list_dec) <;> (try dsimp only))
    refine (w_eqE' (plain_ivs _ _)).mpr ?_
    ((repeat sizeOf_list_dec) <;> (try dsimp only))
    cases hne : (ivs good).isEmpty with
    | true =>
      ((repeat sizeOf_list_dec) <;> (try dsimp only))
      refine (number_spec _ _ hg2).mono ?_
      rintro _ _ ⟨n, g3, rfl, rfl, hg3, n0, n1⟩
      ((repeat sizeOf_list_dec) <;> (try dsimp only))
      exact ⟨by trivial, .put goal n.toNat, g3, _, _, _, by show _ = [_, _, _, _, _, _, some (PV.tup [_, _, _]), _, _, _]; rw [Int.toNat_of_nonneg n0]; rfl, rfl, hg3, .put _ (by omega)⟩
    | false =>
      have hg0 : 0 < good.length := by
        cases good with
        | nil => cases hne
        | cons a r => exact Nat.succ_pos _
      have pickGood : ∀ {i : Int}, 0 ≤ i → i < good.length → ∃ b : Nat, b < 6 ∧ e.boxes[b]? = some ("good" : Str) ∧ atI (ivs good) i = some (.int b) := fun h0 h1 => by
        obtain ⟨b, hb, h⟩ := pick_ivs h0 h1
        exact ⟨b, hgood.2 b hb, of_decide_eq_true ((good2 b).mp hb).2, h⟩
      ((repeat sizeOf_list_dec) <;> (try dsimp only))
      cases ht0 : (turn == 0) with
      | true =>
        ((repeat sizeOf_list_dec) <;> (try dsimp only))
        refine (number_spec _ _ hg2).mono ?_
        rintro _ _ ⟨n, g3, rfl, rfl, hg3, n0, n1⟩
        ((repeat sizeOf_list_dec) <;> (try dsimp only))
        exact ⟨by trivial, .put goal n.toNat, g3, _, _, _, by show _ = [_, _, _, _, _, _, some (PV.tup [_, _, _]), _, _, _]; rw [Int.toNat_of_nonneg n0]; rfl, rfl, hg3, .put _ (by omega)⟩
      | false =>
        ((repeat sizeOf_list_dec) <;> (try dsimp only))
        cases ht1 : (turn == 1) with
        | true =>
          ((repeat sizeOf_list_dec) <;> (try dsimp only))
          ((refine Post.mono (next_spec _ _ _ hg2 ?hn0 ?hn1) ?_); (case hn0 => omega); (case hn1 => omega))
          rintro _ _ ⟨r3, g3, rfl, rfl, hg3, a3, b3⟩
          obtain ⟨b, hb6, hbg, hb⟩ := pickGood a3 b3
          refine (w_ix rfl hb).mpr ?_
          ((repeat sizeOf_list_dec) <;> (try dsimp only))
          exact ⟨by trivial, .say b, g3, _, _, _, rfl, rfl, hg3, .say _ hb6⟩
        | false =>
          ((repeat sizeOf_list_dec) <;> (try dsimp only))
          cases ht2 : (turn == 2) with
          | true =>
            ((repeat sizeOf_list_dec) <;> (try dsimp only))
            refine lc_some (n := 6) (by decide) (by show 3 < 10; decide) (fun i => !decide (e.boxes[i]? = some ("loose" : Str))) (fun i hi => ?_) (fun sm sm1 sm2 => ?_)
            · obtain ⟨b, hb, hbo⟩ := he.at hi
              ((repeat sizeOf_list_dec) <;> (try dsimp only))
              refine (w_eBox hb).mpr ?_
              ((repeat sizeOf_list_dec) <;> (try dsimp only))
              refine (w_neS hbo (by decide +kernel)).mpr ?_
              ((repeat sizeOf_list_dec) <;> (try dsimp only))
              exact ⟨by rw [hb]; simp, by trivial⟩
            have hsb : Boxes sm := some_boxes sm1 sm2
            have hsl := hsb.len
            have hs0 : 0 < sm.length := by
              obtain ⟨b, hb6, hbg, hb⟩ := pickGood (i := 0) (by omega) (by omega)
              exact List.length_pos_of_mem ((sm2 b).mpr ⟨hb6, by rw [hbg]; decide +kernel⟩)
            ((repeat sizeOf_list_dec) <;> (try dsimp only))
            ((refine Post.mono (next_spec _ _ _ hg2 ?hn0 ?hn1) ?_); (case hn0 => omega); (case hn1 => omega))
            rintro _ _ ⟨r3, g3, rfl, rfl, hg3, a3, b3⟩
            obtain ⟨b, hb, hbat⟩ := pick_ivs a3 b3
            refine (w_ix rfl hbat).mpr ?_
            ((repeat sizeOf_list_dec) <;> (try dsimp only))
            exact ⟨by trivial, .move goal b, g3, _, _, _, rfl, rfl, hg3, .move _ (hsb.2 b hb)⟩
          | false =>
            ((repeat sizeOf_list_dec) <;> (try dsimp only))
            refine w_sPar.mpr ?_
            ((repeat sizeOf_list_dec) <;> (try dsimp only))
            ((refine Post.mono (next_spec _ _ _ hg2 ?hn0 ?hn1) ?_); (case hn0 => omega); (case hn1 => omega))
            rintro _ _ ⟨r3, g3, rfl, rfl, hg3, a3, b3⟩
            obtain ⟨b, hb6, hbg, hb⟩ := pickGood a3 b3
            refine (w_ix rfl hb).mpr ?_
            ((repeat sizeOf_list_dec) <;> (try dsimp only))
            ((refine Post.mono (next_spec _ _ _ hg3 ?hn0 ?hn1) ?_); (case hn0 => omega); (case hn1 => omega))
            rintro _ _ ⟨r4, g4, rfl, rfl, hg4, a4, b4⟩
            obtain ⟨c, hc6, hcg, hc⟩ := pickGood a4 b4
            refine (w_ix rfl hc).mpr ?_
            ((repeat sizeOf_list_dec) <;> (try dsimp only))
            refine ⟨_, _, rfl, ?_⟩
            ((repeat sizeOf_list_dec) <;> (try dsimp only))
            rcases (by omega : turn % 2 = 0 ∨ turn % 2 = 1) with hm | hm <;> rw [hm]
            · ((repeat sizeOf_list_dec) <;> (try dsimp only))
              exact ⟨by trivial, .add goal b c, g4, _, _, _, rfl, rfl, hg4, .add _ _ hb6 hc6⟩
            · ((repeat sizeOf_list_dec) <;> (try dsimp only))
              exact ⟨by trivial, .take goal b c, g4, _, _, _, rfl, rfl, hg4, .take _ _ hb6 hc6⟩
  · rintro ⟨fl, env⟩ S ⟨hfl, r, g3, x7, x8, x9, henv, rfl, hg3, hr⟩
    cases hfl
    cases henv
    have hok := hr.ok hgoal6 (e.rows.length + 1 + 1) many
    have he2 : Es.Ok many { e with rows := e.rows ++ [r] } := he.more fun r' hr' => by
      rw [List.mem_singleton.mp hr']
      exact hok
    have hlen : (e.rows ++ [r]).length = e.rows.length + 1 := by rw [List.length_append]; rfl
    have fin : ∀ e' : Es, e'.Ok many → e'.rows = e.rows ++ [r] → e'.houses = e.houses → e'.owners = e.owners → e'.free = e.free → ∀ g : Hs, g.Ok → Post (leave (e.st g3 rest).length .non (e'.st g rest)) (EsOut many e rest 1) := fun e' h1 h2 h3 h4 h5 g hg => by
      refine (leave_same (by rw [Es.len, Es.len])).mpr ?_
      exact ⟨e', g, rfl, rfl, hg, h1, ⟨h3, h4, h5, by rw [h2, hlen]; omega⟩, by rw [h2, hlen]; omega⟩
    have hlen0 : ∀ g : Hs, (e.st g rest).length = (e.st g3 rest).length := fun g => by rw [Es.len, Es.len]
    rw [hlen0]
    ((repeat sizeOf_list_dec) <;> (try dsimp only))
    refine ⟨_, _, rfl, Es.at0, ?_⟩
    ((repeat sizeOf_list_dec) <;> (try dsimp only))
    refine (w_eAdd (by omega)).mpr ?_
    cases hr with
    | say b hb =>
      ((repeat sizeOf_list_dec) <;> (try dsimp only))
      rw [if_neg (by decide +kernel)]
      ((repeat sizeOf_list_dec) <;> (try dsimp only))
      exact fin _ he2 rfl rfl rfl rfl _ hg3
    | move b hb =>
      obtain ⟨m, hm, hmo⟩ := he2.at hb
      ((repeat sizeOf_list_dec) <;> (try dsimp only))
      rw [if_pos (by decide +kernel)]
      ((repeat sizeOf_list_dec) <;> (try dsimp only))
      rw [if_pos (by decide +kernel)]
      ((repeat sizeOf_list_dec) <;> (try dsimp only))
      refine (w_eBox hm).mpr ?_
      ((repeat sizeOf_list_dec) <;> (try dsimp only))
      refine (w_eSetB he2 hgoal6).mpr ?_
      exact fin _ (he2.box hmo) rfl rfl rfl rfl _ hg3
    | put n hn =>
      ((repeat sizeOf_list_dec) <;> (try dsimp only))
      rw [if_pos (by decide +kernel)]
      ((repeat sizeOf_list_dec) <;> (try dsimp only))
      rw [if_neg (by decide +kernel)]
      ((repeat sizeOf_list_dec) <;> (try dsimp only))
      refine (w_eSetB he2 hgoal6).mpr ?_
      exact fin _ (he2.box (by decide +kernel)) rfl rfl rfl rfl _ hg3
    | add b c hb hc =>
      ((repeat sizeOf_list_dec) <;> (try dsimp only))
      rw [if_pos (by decide +kernel)]
      ((repeat sizeOf_list_dec) <;> (try dsimp only))
      rw [if_neg (by decide +kernel)]
      ((repeat sizeOf_list_dec) <;> (try dsimp only))
      refine (w_eSetB he2 hgoal6).mpr ?_
      exact fin _ (he2.box (by decide +kernel)) rfl rfl rfl rfl _ hg3
    | take b c hb hc =>
      ((repeat sizeOf_list_dec) <;> (try dsimp only))
      rw [if_pos (by decide +kernel)]
      ((repeat sizeOf_list_dec) <;> (try dsimp only))
      rw [if_neg (by decide +kernel)]
      ((repeat sizeOf_list_dec) <;> (try dsimp only))
      refine (w_eSetB he2 hgoal6).mpr ?_
      exact fin _ (he2.box (by decide +kernel)) rfl rfl rfl rfl _ hg3
end

/-! PureN -/
/-! PureN: a test of zero with rows behind it. -/
section
open PySem L2
theorem plain_strs {S : Store} {bs : List Str} (h : ∀ b ∈ bs, PyData.strOk b = true) : plain 20 (res 20 S (.ls (bs.map .str))) = true := by
  show ((bs.map PV.str).map (res 19 S)).all (plain 19) = true
  rw [List.map_map, List.all_map]
  exact List.all_eq_true.mpr fun b hb => h b hb
theorem plain_strsL {S : Store} {l : Nat} {bs : List Str} (hl : S[l]? = some (.lst (bs.map .str))) (h : ∀ b ∈ bs, PyData.strOk b = true) : plain 20 (res 20 S (.loc l)) = true := by
  have e : res 20 S (.loc l) = .ls ((bs.map PV.str).map (res 19 S)) := by
    show (match S[l]? with | some (.lst xs) => PV.ls (xs.map (res 19 S)) | _ => .loc l) = _
    rw [hl]
  rw [e]
  exact plain_strs (S := S) h
theorem w_eqAny {S : Store} {x y : PV} {Q : PV → Store → Prop} (h : plain 20 (res 20 S x) = true) (h2 : plain 20 (res 20 S y) = true) (hQ : ∀ k, Q (.bl k) S) : Post (oEq x y S) Q := by
  unfold oEq
  rw [if_pos ⟨h, h2⟩]
  exact Post.ok.mpr (hQ _)
end
section
open PySem L2
section
variable {e : Es} {g : Hs} {rest : Store} {Q : PV → Store → Prop} {i : Nat} {b : Str} {many : Nat}
theorem w_eSetR {r : Row} {QU : Unit → Store → Prop} (hi : i < e.rows.length) : Post (oSet (.loc (rest.length + 2)) (.int (i : Int)) r.pv (e.st g rest)) QU ↔ QU () (Es.st { e with rows := e.rows.set i r } g rest) := by
  rw [w_setL Es.at0 (ixOf_nat (by rw [List.length_map]; exact hi)), ← Es.set0 (e := e) (rs := e.rows.set i r), List.map_set]
theorem Es.Ok.row (h : e.Ok many) {r : Row} (hr : r.Ok (e.rows.length + 1) many) : Es.Ok many { e with rows := e.rows.set i r } :=
  ⟨h.six, h.marks, fun c hc => by
    show c.Ok ((e.rows.set i r).length + 1) many
    rw [List.length_set]
    exact (List.mem_or_eq_of_mem_set hc).elim (fun z => h.rows c z) (fun z => z ▸ hr), h.free, h.most, h.mpos, h.owned, h.few, h.owners, h.houses⟩
end
theorem zeroed_spec (g : Hs) (rest : Store) (e : Es) (many : Nat) (hg : g.Ok) (he : e.Ok many) (hs : e.rows.length ≤ 8000) :
    Post (m_zeroed [.loc 1, .loc (rest.length + 3)] (e.st g rest)) (EsOut many e rest 4) := by
  unfold m_zeroed
  refine w_fnP rfl ?_
  have fin : ∀ e' : Es, e'.Ok many → e'.houses = e.houses → e'.owners = e.owners → e'.free = e.free → e.rows.length ≤ e'.rows.length → e'.rows.length ≤ e.rows.length + 4 → ∀ g1 : Hs, g1.Ok → Post (leave (e.st g rest).length .non (e'.st g1 rest)) (EsOut many e rest 4) := fun e' h1 h3 h4 h5 h6 h7 g hg => by
    refine (leave_same (by rw [Es.len, Es.len])).mpr ?_
    exact ⟨e', g, rfl, rfl, hg, h1, ⟨h3, h4, h5, h6⟩, h7⟩
  generalize hL : (e.st g rest).length = L at fin ⊢
  ((repeat sizeOf_list_dec) <;> (try dsimp only))
  refine lc_some (n := 6) (by decide) (by show 3 < 8; decide) (fun i => decide (e.boxes[i]? = some ("good" : Str))) (fun i hi => ?_) (fun good good1 good2 => ?_)
  · obtain ⟨b, hb, hbo⟩ := he.at hi
    ((repeat sizeOf_list_dec) <;> (try dsimp only))
    refine (w_eBox hb).mpr ?_
    ((repeat sizeOf_list_dec) <;> (try dsimp only))
    refine (w_eqS hbo (by decide +kernel)).mpr ?_
    ((repeat sizeOf_list_dec) <;> (try dsimp only))
    exact ⟨by rw [hb]; simp, by trivial⟩
  have hgood : Boxes good := some_boxes good1 good2
  have hgl := hgood.len
  ((repeat sizeOf_list_dec) <;> (try dsimp only))
  refine (w_eqE' (plain_ivs _ _)).mpr ?_
  ((repeat sizeOf_list_dec) <;> (try dsimp only))
  cases hne : (ivs good).isEmpty with
  | true =>
    ((repeat sizeOf_list_dec) <;> (try dsimp only))
    exact fin e he rfl rfl rfl (Nat.le_refl _) (by omega) g hg
  | false =>
  have hg0 : 0 < good.length := by
    cases good with
    | nil => cases hne
    | cons a r => exact Nat.succ_pos _
  ((repeat sizeOf_list_dec) <;> (try dsimp only))
  ((refine Post.mono (next_spec _ _ _ hg ?hn0 ?hn1) ?_); (case hn0 => omega); (case hn1 => omega))
  rintro _ _ ⟨r1, g1, rfl, rfl, hg1, a1, b1⟩
  obtain ⟨test, htest, hat⟩ := pick_ivs a1 b1
  have ht6 : test < 6 := hgood.2 _ htest
  refine (w_ix rfl hat).mpr ?_
  ((repeat sizeOf_list_dec) <;> (try dsimp only))
  refine ⟨_, _, rfl, Es.at0, ?_⟩
  ((repeat sizeOf_list_dec) <;> (try dsimp only))
  refine (w_eAdd (r := .zero test 0) (by omega)).mpr ?_
  have he1 : Es.Ok many { e with rows := e.rows ++ [.zero test 0] } := he.more fun r' hr' => by
    rw [List.mem_singleton.mp hr']
    exact ⟨ht6, Nat.succ_pos _⟩
  have hl1 : (e.rows ++ [Row.zero test 0]).length = e.rows.length + 1 := by rw [List.length_append]; rfl
  generalize e.rows ++ [Row.zero test 0] = rs1 at he1 hl1
  ((repeat sizeOf_list_dec) <;> (try dsimp only))
  refine (w_list Es.seq2).mpr ?_
  ((repeat sizeOf_list_dec) <;> (try dsimp only))
  ((refine Post.mono (next_spec _ _ _ hg1 ?hn0 ?hn1) ?_); (case hn0 => omega); (case hn1 => omega))
  rintro _ _ ⟨r2, g2, rfl, rfl, hg2, a2, b2⟩
  obtain ⟨n2, rfl⟩ : ∃ n : Nat, r2 = n := ⟨r2.toNat, by omega⟩
  have hn2 : ((1 : Int) + (n2 : Int)).toNat = n2 + 1 := by omega
  ((repeat sizeOf_list_dec) <;> (try dsimp only))
  rw [hn2]
  refine for_go (all := upto 0 (n2 + 1)) (fun i env S => ∃ e' g' x, S = Es.st e' g' rest ∧ g'.Ok ∧ e'.Ok many ∧ e'.houses = e.houses ∧ e'.owners = e.owners ∧ e'.free = e.free ∧ e.rows.length + 1 ≤ e'.rows.length ∧ e'.rows.length ≤ e.rows.length + 1 + i ∧ env = [some (.loc 1), some (.loc (rest.length + 3)), some (.ls (ivs good)), none, some (.int test), some (.int (e.rows.length : Int)), some (.ls (e.boxes.map .str)), x]) (by rfl) ⟨_, g2, none, rfl, hg2, he1, rfl, rfl, rfl, Nat.le_of_eq hl1.symm, Nat.le_of_eq hl1, rfl⟩ ?_ ?_
  · rintro i env S x ⟨e', g', x7, rfl, hg', he', q1, q2, q3, q4, q5, rfl⟩ hx
    refine ⟨by rfl, ?_⟩
    have hi : i < n2 + 1 := by
      have := (List.getElem?_eq_some_iff.mp hx).1
      rw [upto_length] at this
      exact this
    ((repeat sizeOf_list_dec) <;> (try dsimp only))
    refine (simple_spec g' rest e' many hg' he' (by omega)).mono ?_
    rintro _ _ ⟨e2, g3, rfl, rfl, hg3, he2, ⟨s1, s2, s3, s4⟩, s5⟩
    ((repeat sizeOf_list_dec) <;> (try dsimp only))
    exact ⟨e2, g3, _, rfl, hg3, he2, s1.trans q1, s2.trans q2, s3.trans q3, by omega, by omega, rfl⟩
  · rintro env S ⟨e', g', x7, rfl, hg', he', q1, q2, q3, q4, q5, rfl⟩
    rw [upto_length] at q5
    refine ⟨by rfl, ?_⟩
    -- the row that goes back
    ((repeat ((fail_if_success (with_reducible refine w_if.mpr ?_)); sizeOf_list_dec)) <;> (try dsimp only))
    refine Post.mono (Q := fun p S => p.1 = .nx ∧ ∃ e3 g3, p.2 = [some (.loc 1), some (.loc (rest.length + 3)), some (.ls (ivs good)), none, some (.int test), some (.int (e.rows.length : Int)), some (.ls (e.boxes.map .str)), x7] ∧ S = Es.st e3 g3 rest ∧ g3.Ok ∧ e3.Ok many ∧ e3.houses = e.houses ∧ e3.owners = e.owners ∧ e3.free = e.free ∧ e.rows.length + 1 ≤ e3.rows.length ∧ e3.rows.length ≤ e'.rows.length + 1) ?_ ?_
    · ((repeat sizeOf_list_dec) <;> (try dsimp only))
      ((refine Post.mono (next_spec _ _ _ hg' ?hn0 ?hn1) ?_); (case hn0 => omega); (case hn1 => omega))
      rintro _ _ ⟨r3, g3, rfl, rfl, hg3, a3, b3⟩
      ((repeat sizeOf_list_dec) <;> (try dsimp only))
      cases hz : (r3 == 0) with
      | false =>
        ((repeat sizeOf_list_dec) <;> (try dsimp only))
        exact ⟨by trivial, e', g3, by trivial, rfl, hg3, he', q1, q2, q3, q4, by omega⟩
      | true =>
        ((repeat sizeOf_list_dec) <;> (try dsimp only))
        obtain ⟨b, hb, hbo⟩ := he'.at ht6
        refine (w_eBox hb).mpr ?_
        ((repeat sizeOf_list_dec) <;> (try dsimp only))
        refine (w_eqS hbo (by decide +kernel)).mpr ?_
        ((repeat sizeOf_list_dec) <;> (try dsimp only))
        cases hbg : decide (b = "good") with
        | false =>
          ((repeat sizeOf_list_dec) <;> (try dsimp only))
          exact ⟨by trivial, e', g3, by trivial, rfl, hg3, he', q1, q2, q3, q4, by omega⟩
        | true =>
          ((repeat sizeOf_list_dec) <;> (try dsimp only))
          refine w_eqAny (plain_strs he.marks) (plain_strsL Es.at2 he'.marks) fun k => ?_
          ((repeat sizeOf_list_dec) <;> (try dsimp only))
          cases k with
          | false =>
            ((repeat sizeOf_list_dec) <;> (try dsimp only))
            exact ⟨by trivial, e', g3, by trivial, rfl, hg3, he', q1, q2, q3, q4, by omega⟩
          | true =>
            ((repeat sizeOf_list_dec) <;> (try dsimp only))
            refine ⟨_, _, rfl, Es.at0, ?_⟩
            ((repeat sizeOf_list_dec) <;> (try dsimp only))
            refine (w_eAdd (r := .go e.rows.length) (by omega)).mpr ?_
            have hl3 : (e'.rows ++ [Row.go e.rows.length]).length = e'.rows.length + 1 := by rw [List.length_append]; rfl
            exact ⟨by trivial, _, g3, by trivial, rfl, hg3, he'.more fun r' hr' => by rw [List.mem_singleton.mp hr']; exact (show e.rows.length < _ by have : [Row.go e.rows.length].length = 1 := rfl; omega), q1, q2, q3, by rw [hl3]; omega, by rw [hl3]; omega⟩
    · rintro ⟨fl, env⟩ S ⟨hfl, e3, g3, henv, rfl, hg3, he3, p1, p2, p3, p4, p5⟩
      cases hfl
      cases henv
      ((repeat sizeOf_list_dec) <;> (try dsimp only))
      refine (w_eSetR (r := .zero test e3.rows.length) (i := e.rows.length) (by omega)).mpr ?_
      have he4 : Es.Ok many { e3 with rows := e3.rows.set e.rows.length (.zero test e3.rows.length) } := he3.row ⟨ht6, Nat.lt_succ_self _⟩
      have hl4 : (e3.rows.set e.rows.length (.zero test e3.rows.length)).length = e3.rows.length := List.length_set ..
      generalize e3.rows.set e.rows.length (.zero test e3.rows.length) = rs4 at he4 hl4
      ((repeat sizeOf_list_dec) <;> (try dsimp only))
      refine for_go (all := upto 0 6) (fun i env S => ∃ bs x, S = Es.st { e3 with rows := rs4, boxes := bs } g3 rest ∧ Es.Ok many { e3 with rows := rs4, boxes := bs } ∧ env = [some (.loc 1), some (.loc (rest.length + 3)), some (.ls (ivs good)), x, some (.int test), some (.int (e.rows.length : Int)), some (.ls (e.boxes.map .str)), x7]) (by rfl) ⟨_, none, rfl, he4, rfl⟩ ?_ ?_
      · rintro i env S x ⟨bs, x3, rfl, hok, rfl⟩ hx
        refine ⟨by rfl, ?_⟩
        have hi : i < 6 := by
          have := (List.getElem?_eq_some_iff.mp hx).1
          rw [upto_length] at this
          exact this
        rw [upto_get hi, Int.zero_add] at hx
        cases hx
        obtain ⟨b, hb, hbo⟩ := hok.at hi
        obtain ⟨b2, hb2, hbo2⟩ := he.at hi
        ((repeat sizeOf_list_dec) <;> (try dsimp only))
        refine (w_eBox hb).mpr ?_
        ((repeat sizeOf_list_dec) <;> (try dsimp only))
        refine (w_ix rfl (atI_map hb2)).mpr ?_
        refine (w_neS hbo hbo2).mpr ?_
        ((repeat sizeOf_list_dec) <;> (try dsimp only))
        cases hd : (!decide (b = b2)) with
        | false =>
          ((repeat sizeOf_list_dec) <;> (try dsimp only))
          exact ⟨bs, _, rfl, hok, rfl⟩
        | true =>
          ((repeat sizeOf_list_dec) <;> (try dsimp only))
          refine (w_eSetB hok hi).mpr ?_
          ((repeat sizeOf_list_dec) <;> (try dsimp only))
          exact ⟨_, _, rfl, hok.box (by decide +kernel), rfl⟩
      · rintro env S ⟨bs, x3, rfl, hok, rfl⟩
        refine ⟨by rfl, ?_⟩
        ((repeat sizeOf_list_dec) <;> (try dsimp only))
        exact fin _ hok p1 p2 p3 (by show e.rows.length ≤ rs4.length; omega) (by show rs4.length ≤ _; omega) g3 hg3
end

/-! PureO -/
/-! PureO: a call with what is laid in and saved about it. -/
section
open PySem L2
/-- [x for x in xs if p(x)] over boxes -/
theorem lc_keep {it : LW.It} {zs : List Nat} {env : LW.Env} {S : Store} {QA : List PV → Store → Prop} {v : Nat} {t : XB} (ha : it.items S = some (ivs zs)) (hn : zs.length ≤ 1000) (hv : v < env.length) (p : Nat → Bool)
    (ht : ∀ i, i ∈ zs → Post (t (env.set v (some (.int (i : Int)))) S) fun k S' => k = p i ∧ S' = S) (hQ : QA (ivs (zs.filter p)) S) : LcP it (gNm v) t (eVar v) env S QA := by
  refine ⟨ivs zs, ha, lc_inv (fun i acc S' => i ≤ zs.length ∧ acc = ivs ((zs.take i).filter p) ∧ S' = S) ?_ ?_ _ 0 rfl (Nat.zero_le _) _ _ ⟨Nat.zero_le _, rfl, rfl⟩⟩
  · rintro i acc S' x ⟨hi, rfl, rfl⟩ hx
    refine ⟨ha, ?_⟩
    obtain ⟨b, hb, rfl⟩ : ∃ b : Nat, zs[i]? = some b ∧ x = .int b := by
      unfold ivs at hx
      rw [List.getElem?_map] at hx
      cases e : zs[i]? with
      | none => rw [e] at hx; cases hx
      | some b => rw [e] at hx; exact ⟨b, rfl, (Option.some.inj hx).symm⟩
    have hlt := (List.getElem?_eq_some_iff.mp hb).1
    refine w_gNm.mpr ?_
    refine (ht b (List.mem_of_getElem? hb)).mono ?_
    rintro k S2 ⟨rfl, rfl⟩
    have hr : (zs.take (i + 1)).filter p = (zs.take i).filter p ++ (if p b = true then [b] else []) := by
      rw [List.take_add_one, hb, List.filter_append]
      by_cases hp : p b = true <;> simp [hp]
    by_cases hp : p b = true
    · rw [if_pos hp]
      refine (w_var (x := .int (b : Int)) ?_).mpr ⟨?_, hlt, ?_, rfl⟩
      · rw [List.getElem?_set_self hv]
      · rw [ivs_length]
        refine Nat.lt_of_le_of_lt (Nat.le_trans (List.length_filter_le _ _) ?_) (by decide : 1000 < lim)
        rw [List.length_take]
        omega
      · rw [hr, if_pos hp]
        unfold ivs
        rw [List.map_append]
        rfl
    · rw [if_neg hp]
      refine ⟨hlt, ?_, rfl⟩
      rw [hr, if_neg hp, List.append_nil]
  · rintro acc S' ⟨_, rfl, rfl⟩
    rw [ivs_length, List.take_length]
    exact ⟨ha, hQ⟩
/-- .. where the test draws -/
theorem lc_sub {it : LW.It} {zs : List Nat} {env : LW.Env} {g : Hs} {rest : Store} {QA : List PV → Store → Prop} {v : Nat} {t : XB} (ha : ∀ S, it.items S = some (ivs zs)) (hg : g.Ok) (hn : zs.length ≤ 1000) (hv : v < env.length)
    (ht : ∀ i g, i ∈ zs → Hs.Ok g → Post (t (env.set v (some (.int (i : Int)))) (g.st rest)) fun k S' => ∃ g', S' = Hs.st g' rest ∧ g'.Ok) (hQ : ∀ ys g', Hs.Ok g' → ys.Sublist zs → QA (ivs ys) (g'.st rest)) : LcP it (gNm v) t (eVar v) env (g.st rest) QA := by
  refine ⟨ivs zs, ha _, lc_inv (fun i acc S' => i ≤ zs.length ∧ ∃ ys g', acc = ivs ys ∧ ys.Sublist (zs.take i) ∧ Hs.Ok g' ∧ S' = g'.st rest) ?_ ?_ _ 0 rfl (Nat.zero_le _) _ _ ⟨Nat.zero_le _, [], g, rfl, List.nil_sublist _, hg, rfl⟩⟩
  · rintro i acc S' x ⟨hi, ys, g', rfl, hs, hg', rfl⟩ hx
    refine ⟨ha _, ?_⟩
    obtain ⟨b, hb, rfl⟩ : ∃ b : Nat, zs[i]? = some b ∧ x = .int b := by
      unfold ivs at hx
      rw [List.getElem?_map] at hx
      cases e : zs[i]? with
      | none => rw [e] at hx; cases hx
      | some b => rw [e] at hx; exact ⟨b, rfl, (Option.some.inj hx).symm⟩
    have hlt := (List.getElem?_eq_some_iff.mp hb).1
    refine w_gNm.mpr ?_
    refine (ht b g' (List.mem_of_getElem? hb) hg').mono ?_
    rintro k S2 ⟨g2, rfl, hg2⟩
    have hr : zs.take (i + 1) = zs.take i ++ [b] := by rw [List.take_add_one, hb]; rfl
    cases k with
    | true =>
      rw [if_pos rfl]
      refine (w_var (x := .int (b : Int)) ?_).mpr ⟨?_, hlt, ys ++ [b], g2, ?_, ?_, hg2, rfl⟩
      · rw [List.getElem?_set_self hv]
      · rw [ivs_length]
        refine Nat.lt_of_le_of_lt (Nat.le_trans hs.length_le ?_) (by decide : 1000 < lim)
        rw [List.length_take]
        omega
      · unfold ivs
        rw [List.map_append]
        rfl
      · rw [hr]
        exact hs.append (List.Sublist.refl _)
    | false =>
      rw [if_neg (by decide)]
      refine ⟨hlt, ys, g2, rfl, ?_, hg2, rfl⟩
      rw [hr]
      exact hs.trans (List.sublist_append_left _ _)
  · rintro acc S' ⟨_, ys, g', rfl, hs, hg', rfl⟩
    rw [ivs_length, List.take_length] at hs
    exact ⟨ha _, hQ ys g' hg' hs⟩
/-- [f(x) for x in xs] over boxes -/
theorem lc_each {it : LW.It} {zs : List Nat} {env : LW.Env} {S : Store} {QA : List PV → Store → Prop} {v : Nat} {e : XE} (f : Nat → PV) (ha : it.items S = some (ivs zs)) (hn : zs.length ≤ 1000)
    (he : ∀ i, i ∈ zs → Post (e (env.set v (some (.int (i : Int)))) S) fun y S' => y = f i ∧ S' = S) (hQ : QA (zs.map f) S) : LcP it (gNm v) bYes e env S QA := by
  refine ⟨ivs zs, ha, lc_inv (fun i acc S' => i ≤ zs.length ∧ acc = (zs.take i).map f ∧ S' = S) ?_ ?_ _ 0 rfl (Nat.zero_le _) _ _ ⟨Nat.zero_le _, rfl, rfl⟩⟩
  · rintro i acc S' x ⟨hi, rfl, rfl⟩ hx
    refine ⟨ha, ?_⟩
    obtain ⟨b, hb, rfl⟩ : ∃ b : Nat, zs[i]? = some b ∧ x = .int b := by
      unfold ivs at hx
      rw [List.getElem?_map] at hx
      cases e : zs[i]? with
      | none => rw [e] at hx; cases hx
      | some b => rw [e] at hx; exact ⟨b, rfl, (Option.some.inj hx).symm⟩
    have hlt := (List.getElem?_eq_some_iff.mp hb).1
    refine w_gNm.mpr (w_yes.mpr ?_)
    rw [if_pos rfl]
    refine (he b (List.mem_of_getElem? hb)).mono ?_
    rintro y S2 ⟨rfl, rfl⟩
    refine ⟨?_, hlt, ?_, rfl⟩
    · rw [List.length_map, List.length_take]
      exact Nat.lt_of_le_of_lt (by omega) (by decide : 1000 < lim)
    · rw [List.take_add_one, hb, List.map_append]
      rfl
  · rintro acc S' ⟨_, rfl, rfl⟩
    rw [ivs_length, List.take_length]
    exact ⟨ha, hQ⟩
theorem rev_items {zs : List Nat} {S : Store} : (LW.It.rev (.ls (ivs zs))).items S = some (ivs zs.reverse) := by
  show some (ivs zs).reverse = _
  unfold ivs
  rw [List.map_reverse]
theorem ivs_app (xs : List Nat) (b : Nat) : ivs xs ++ [.int b] = ivs (xs ++ [b]) := by
  unfold ivs
  rw [List.map_append]
  rfl
theorem ivs_at {zs : List Nat} {i : Nat} {x : PV} (hx : (ivs zs)[i]? = some x) : ∃ b : Nat, b ∈ zs ∧ x = .int b := by
  unfold ivs at hx
  rw [List.getElem?_map] at hx
  cases e : zs[i]? with
  | none => rw [e] at hx; cases hx
  | some b => rw [e] at hx; exact ⟨b, List.mem_of_getElem? e, (Option.some.inj hx).symm⟩
theorem calling_spec (g : Hs) (rest : Store) (e : Es) (many : Nat) (hg : g.Ok) (he : e.Ok many) (hs : e.rows.length ≤ 8000) :
    Post (m_calling [.loc 1, .loc (rest.length + 3)] (e.st g rest)) (EsOut many e rest 19) := by
  unfold m_calling
  refine w_fnP rfl ?_
  have fin : ∀ e' : Es, e'.Ok many → e'.houses = e.houses → e'.owners = e.owners → e'.free = e.free → e.rows.length ≤ e'.rows.length → e'.rows.length ≤ e.rows.length + 19 → ∀ g1 : Hs, g1.Ok → Post (leave (e.st g rest).length .non (e'.st g1 rest)) (EsOut many e rest 19) := fun e' h1 h3 h4 h5 h6 h7 g hg => by
    refine (leave_same (by rw [Es.len, Es.len])).mpr ?_
    exact ⟨e', g, rfl, rfl, hg, h1, ⟨h3, h4, h5, h6⟩, h7⟩
  generalize hL : (e.st g rest).length = L at fin ⊢
  have how := he.owned
  have hfew := he.few
  have hmp := he.mpos
  ((repeat sizeOf_list_dec) <;> (try dsimp only))
  rw [how]
  ((refine Post.mono (next_spec _ _ _ hg ?hn0 ?hn1) ?_); (case hn0 => omega); (case hn1 => omega))
  rintro _ _ ⟨r1, g1, rfl, rfl, hg1, a1, b1⟩
  obtain ⟨called, rfl⟩ : ∃ n : Nat, r1 = n := ⟨r1.toNat, by omega⟩
  have hcm : called < many := by omega
  ((repeat sizeOf_list_dec) <;> (try dsimp only))
  have hco : called < e.owners.length := by omega
  refine (w_ix rfl (atI_map (List.getElem?_eq_getElem hco))).mpr ?_
  have hoh : e.owners[called] < e.houses.length := he.owners _ (List.getElem_mem hco)
  refine (w_ix rfl (atI_map (List.getElem?_eq_getElem hoh))).mpr ?_
  have hk := he.houses _ (List.getElem_mem hoh)
  generalize e.houses[e.owners[called]] = k at hk ⊢
  have hil := hk.ins.len
  ((repeat sizeOf_list_dec) <;> (try dsimp only))
  refine lc_some (n := 6) (by decide) (by show 7 < 10; decide) (fun i => !e.free.contains i) (fun i hi => ?_) (fun fixed fixed1 fixed2 => ?_)
  · ((repeat sizeOf_list_dec) <;> (try dsimp only))
    refine (w_notIn rfl rfl (flat_ivs _)).mpr ?_
    rw [inSeq_ivs]
    ((repeat sizeOf_list_dec) <;> (try dsimp only))
    exact ⟨by trivial, by trivial⟩
  ((repeat sizeOf_list_dec) <;> (try dsimp only))
  refine (w_addT (by rw [ivs_length]; exact Nat.le_trans (Nat.add_le_add_right hil _) (Nat.le_of_ble_eq_true rfl))).mpr ?_
  rw [ivs_app]
  ((repeat sizeOf_list_dec) <;> (try dsimp only))
  refine lc_keep (zs := k.ins ++ [k.out]) rfl (by rw [List.length_append]; exact Nat.le_trans (Nat.add_le_add_right hil _) (Nat.le_of_ble_eq_true rfl)) (by show 7 < 10; decide) (fun i => fixed.contains i) (fun i hi => ?_) ?_
  · ((repeat sizeOf_list_dec) <;> (try dsimp only))
    refine (w_in rfl rfl (flat_ivs _)).mpr ?_
    rw [inSeq_ivs]
    ((repeat sizeOf_list_dec) <;> (try dsimp only))
    exact ⟨by trivial, by trivial⟩
  ((repeat sizeOf_list_dec) <;> (try dsimp only))
  refine (w_neE' (plain_ivs _ _)).mpr ?_
  cases hz : (!(ivs ((k.ins ++ [k.out]).filter fun i => fixed.contains i)).isEmpty) with
  | true =>
    ((repeat sizeOf_list_dec) <;> (try dsimp only))
    exact fin e he rfl rfl rfl (Nat.le_refl _) (by omega) g1 hg1
  | false =>
  ((repeat sizeOf_list_dec) <;> (try dsimp only))
  refine for_go (all := ivs k.ins) (fun i env S => ∃ e' g' x, S = Es.st e' g' rest ∧ g'.Ok ∧ e'.Ok many ∧ e'.houses = e.houses ∧ e'.owners = e.owners ∧ e'.free = e.free ∧ e.rows.length ≤ e'.rows.length ∧ e'.rows.length ≤ e.rows.length + i ∧ env = [some (.loc 1), some (.loc (rest.length + 3)), some (.int called), some (.tup (ivs k.ins)), some (.int k.out), some (.tup (ivs k.kept)), some (.ls (ivs fixed)), x, none, none]) (by rfl) ⟨e, g1, none, rfl, hg1, he, rfl, rfl, rfl, Nat.le_refl _, Nat.le_refl _, rfl⟩ ?_ ?_
  · rintro i env S x ⟨e', g', x7, rfl, hg', he', q1, q2, q3, q4, q5, rfl⟩ hx
    refine ⟨by rfl, ?_⟩
    have hi := (List.getElem?_eq_some_iff.mp hx).1
    rw [ivs_length] at hi
    obtain ⟨b, hb, rfl⟩ := ivs_at hx
    have hb6 := hk.ins.2 b hb
    obtain ⟨m, hm, hmo⟩ := he'.at hb6
    ((repeat sizeOf_list_dec) <;> (try dsimp only))
    refine (w_eBox hm).mpr ?_
    ((repeat sizeOf_list_dec) <;> (try dsimp only))
    refine (w_neS hmo (by decide +kernel)).mpr ?_
    ((repeat sizeOf_list_dec) <;> (try dsimp only))
    cases hmg : (!decide (m = "good")) with
    | false =>
      ((repeat sizeOf_list_dec) <;> (try dsimp only))
      exact ⟨e', g', _, rfl, hg', he', q1, q2, q3, q4, by omega, rfl⟩
    | true =>
      ((repeat sizeOf_list_dec) <;> (try dsimp only))
      refine ⟨_, _, rfl, Es.at0, ?_⟩
      ((repeat sizeOf_list_dec) <;> (try dsimp only))
      refine (number_spec _ _ hg').mono ?_
      rintro _ _ ⟨n, g3, rfl, rfl, hg3, n0, n1⟩
      obtain ⟨n, rfl⟩ : ∃ n' : Nat, n = n' := ⟨n.toNat, by omega⟩
      ((repeat sizeOf_list_dec) <;> (try dsimp only))
      refine (w_eAdd (r := .put b n) (by omega)).mpr ?_
      have he2 : Es.Ok many { e' with rows := e'.rows ++ [.put b n] } := he'.more fun r' hr' => by
        rw [List.mem_singleton.mp hr']
        exact ⟨hb6, by omega⟩
      have hl2 : (e'.rows ++ [Row.put b n]).length = e'.rows.length + 1 := by rw [List.length_append]; rfl
      ((repeat sizeOf_list_dec) <;> (try dsimp only))
      refine (w_eSetB he2 hb6).mpr ?_
      ((repeat sizeOf_list_dec) <;> (try dsimp only))
      exact ⟨_, g3, _, rfl, hg3, he2.box (by decide +kernel), q1, q2, q3, by show _ ≤ (e'.rows ++ [Row.put b n]).length; omega, by show (e'.rows ++ [Row.put b n]).length ≤ _; omega, rfl⟩
  · rintro env S ⟨e1, g2, x7, rfl, hg2, he1, q1, q2, q3, q4, q5, rfl⟩
    rw [ivs_length] at q5
    refine ⟨by rfl, ?_⟩
    ((repeat sizeOf_list_dec) <;> (try dsimp only))
    refine lc_some (n := 6) (by decide) (by show 7 < 10; decide) (fun i => !k.kept.contains i && (!decide (e1.boxes[i]? = some ("loose" : Str)) && !((i : Int) == k.out))) (fun i hi => ?_) (fun sm sm1 sm2 => ?_)
    · obtain ⟨m, hm, hmo⟩ := he1.at hi
      ((repeat sizeOf_list_dec) <;> (try dsimp only))
      refine (w_notIn rfl rfl (flat_ivs _)).mpr ?_
      rw [inSeq_ivs]
      ((repeat sizeOf_list_dec) <;> (try dsimp only))
      cases hc1 : k.kept.contains i with
      | true =>
        ((repeat sizeOf_list_dec) <;> (try dsimp only))
        exact ⟨by trivial, by trivial⟩
      | false =>
        ((repeat sizeOf_list_dec) <;> (try dsimp only))
        refine (w_eBox hm).mpr ?_
        ((repeat sizeOf_list_dec) <;> (try dsimp only))
        refine (w_neS hmo (by decide +kernel)).mpr ?_
        ((repeat sizeOf_list_dec) <;> (try dsimp only))
        rw [hm]
        cases hc2 : decide (m = "loose") with
        | true =>
          ((repeat sizeOf_list_dec) <;> (try dsimp only))
          exact ⟨by have : m = "loose" := of_decide_eq_true hc2; rw [this]; simp, by trivial⟩
        | false =>
          ((repeat sizeOf_list_dec) <;> (try dsimp only))
          exact ⟨by have : ¬ m = "loose" := of_decide_eq_false hc2; simp [this], by trivial⟩
    have hsb : Boxes sm := some_boxes sm1 sm2
    have hsl := hsb.len
    ((repeat sizeOf_list_dec) <;> (try dsimp only))
    refine lc_sub (zs := sm) (fun _ => rfl) hg2 (by omega) (by show 7 < 10; decide) (fun i g' hi hg' => ?_) (fun saved g3 hg3 hsub => ?_)
    · ((repeat sizeOf_list_dec) <;> (try dsimp only))
      refine (w_in rfl rfl (flat_ivs _)).mpr ?_
      rw [inSeq_ivs]
      ((repeat sizeOf_list_dec) <;> (try dsimp only))
      cases hf : fixed.contains i with
      | true =>
        ((repeat sizeOf_list_dec) <;> (try dsimp only))
        exact ⟨g', rfl, hg'⟩
      | false =>
        ((repeat sizeOf_list_dec) <;> (try dsimp only))
        ((refine Post.mono (next_spec _ _ _ hg' ?hn0 ?hn1) ?_); (case hn0 => omega); (case hn1 => omega))
        rintro _ _ ⟨r2, g3, rfl, rfl, hg3, a2, b2⟩
        ((repeat sizeOf_list_dec) <;> (try dsimp only))
        exact ⟨g3, rfl, hg3⟩
    have hsv : Boxes saved := hsb.sub hsub
    have hvl := hsv.len
    ((repeat sizeOf_list_dec) <;> (try dsimp only))
    refine ⟨_, _, rfl, Es.at0, ?_⟩
    ((repeat sizeOf_list_dec) <;> (try dsimp only))
    refine lc_each (zs := saved) (fun i => (Row.push i).pv) rfl (by omega) (fun i hi => ?_) ?_
    · ((repeat sizeOf_list_dec) <;> (try dsimp only))
      exact ⟨by trivial, by trivial⟩
    ((repeat sizeOf_list_dec) <;> (try dsimp only))
    refine (w_eMore (rs := saved.map Row.push) (by rw [List.map_map]; rfl) (by rw [List.length_map]; omega)).mpr ?_
    have he2 : Es.Ok many { e1 with rows := e1.rows ++ saved.map Row.push } := he1.more fun r' hr' => by
      obtain ⟨b, hb, rfl⟩ := List.mem_map.mp hr'
      exact hsv.2 b hb
    have hl2 : (e1.rows ++ saved.map Row.push).length = e1.rows.length + saved.length := by rw [List.length_append, List.length_map]
    generalize e1.rows ++ saved.map Row.push = rs2 at he2 hl2 ⊢
    ((repeat sizeOf_list_dec) <;> (try dsimp only))
    refine ⟨_, _, rfl, Es.at0, ?_⟩
    ((repeat sizeOf_list_dec) <;> (try dsimp only))
    refine (w_eAdd (r := .call called) (by show rs2.length < _; omega)).mpr ?_
    have he3 : Es.Ok many { e1 with rows := rs2 ++ [.call called] } := he2.more fun r' hr' => by
      rw [List.mem_singleton.mp hr']
      exact hcm
    have hl3 : (rs2 ++ [Row.call called]).length = rs2.length + 1 := by rw [List.length_append]; rfl
    dsimp only
    generalize rs2 ++ [Row.call called] = rs3 at he3 hl3 ⊢
    ((repeat sizeOf_list_dec) <;> (try dsimp only))
    refine ⟨_, _, rfl, Es.at0, ?_⟩
    ((repeat sizeOf_list_dec) <;> (try dsimp only))
    refine lc_each (zs := saved.reverse) (fun i => (Row.pop i).pv) rev_items (by rw [List.length_reverse]; omega) (fun i hi => ?_) ?_
    · ((repeat sizeOf_list_dec) <;> (try dsimp only))
      exact ⟨by trivial, by trivial⟩
    ((repeat sizeOf_list_dec) <;> (try dsimp only))
    refine (w_eMore (rs := saved.reverse.map Row.pop) (by rw [List.map_map]; rfl) (by rw [List.length_map, List.length_reverse]; show rs3.length + _ < _; omega)).mpr ?_
    have he4 : Es.Ok many { e1 with rows := rs3 ++ saved.reverse.map Row.pop } := he3.more fun r' hr' => by
      obtain ⟨b, hb, rfl⟩ := List.mem_map.mp hr'
      exact hsv.2 b (List.mem_reverse.mp hb)
    have hl4 : (rs3 ++ saved.reverse.map Row.pop).length = rs3.length + saved.length := by rw [List.length_append, List.length_map, List.length_reverse]
    dsimp only
    generalize rs3 ++ saved.reverse.map Row.pop = rs4 at he4 hl4 ⊢
    ((repeat sizeOf_list_dec) <;> (try dsimp only))
    refine for_go (all := ivs sm) (fun i env S => ∃ bs x, S = Es.st { e1 with rows := rs4, boxes := bs } g3 rest ∧ Es.Ok many { e1 with rows := rs4, boxes := bs } ∧ env = [some (.loc 1), some (.loc (rest.length + 3)), some (.int called), some (.tup (ivs k.ins)), some (.int k.out), some (.tup (ivs k.kept)), some (.ls (ivs fixed)), x, some (.ls (ivs sm)), some (.ls (ivs saved))]) (by rfl) ⟨_, _, rfl, he4, rfl⟩ ?_ ?_
    · rintro i env S x ⟨bs, x8, rfl, hok, rfl⟩ hx
      refine ⟨by rfl, ?_⟩
      obtain ⟨b, hb, rfl⟩ := ivs_at hx
      have hb6 := hsb.2 b hb
      obtain ⟨m, hm, hmo⟩ := hok.at hb6
      ((repeat sizeOf_list_dec) <;> (try dsimp only))
      refine (w_in rfl rfl (flat_ivs _)).mpr ?_
      rw [inSeq_ivs]
      ((repeat sizeOf_list_dec) <;> (try dsimp only))
      cases hc : saved.contains b with
      | true =>
        ((repeat sizeOf_list_dec) <;> (try dsimp only))
        refine (w_eBox hm).mpr ?_
        ((repeat sizeOf_list_dec) <;> (try dsimp only))
        refine (w_eSetB hok hb6).mpr ?_
        ((repeat sizeOf_list_dec) <;> (try dsimp only))
        exact ⟨_, _, rfl, hok.box hmo, rfl⟩
      | false =>
        ((repeat sizeOf_list_dec) <;> (try dsimp only))
        refine (w_eSetB hok hb6).mpr ?_
        ((repeat sizeOf_list_dec) <;> (try dsimp only))
        exact ⟨_, _, rfl, hok.box (by decide +kernel), rfl⟩
    · rintro env S ⟨bs, x8, rfl, hok, rfl⟩
      refine ⟨by rfl, ?_⟩
      ((repeat sizeOf_list_dec) <;> (try dsimp only))
      refine (w_eSetB hok hk.out).mpr ?_
      ((repeat sizeOf_list_dec) <;> (try dsimp only))
      exact fin _ (hok.box (by decide +kernel)) q1 q2 q3 (by show _ ≤ rs4.length; omega) (by show rs4.length ≤ _; omega) g3 hg3
end

/-! PureP -/
/-! PureP: a routine, drawn row by row. -/
section
open PySem L2
theorem w_str {i : Int} {S : Store} {Q : PV → Store → Prop} (h : i.natAbs.log2 < 1920) : Post (bStr [.int i] S) Q ↔ Q (.str (toString i : String)) S := by
  unfold bStr
  simp only []
  rw [if_pos h]
  exact Post.ok
theorem w_addLoc {l : Nat} {xs ys : List PV} {S : Store} {Q : PV → Store → Prop} (h : S[l]? = some (.lst xs)) (h2 : xs.length + ys.length ≤ lim) : Post (oAdd (.loc l) (.ls ys) S) Q ↔ Q (.ls (xs ++ ys)) S := by
  unfold oAdd
  simp only [lstOf, h]
  rw [if_pos h2]
  exact Post.ok
theorem w_addLL {xs ys : List PV} {S : Store} {Q : PV → Store → Prop} (h2 : xs.length + ys.length ≤ lim) : Post (oAdd (.ls xs) (.ls ys) S) Q ↔ Q (.ls (xs ++ ys)) S := by
  unfold oAdd
  simp only [lstOf]
  rw [if_pos h2]
  exact Post.ok
theorem lows_all (n : Nat) : ∀ xs : List PV, (∀ x ∈ xs, low n x = true) → lows n xs = true
  | [], _ => by unfold lows; rfl
  | x :: r, h => by
    unfold lows
    rw [h x (by simp), lows_all n r fun y hy => h y (by simp [hy])]
    rfl
theorem low_tup {n : Nat} {xs : List PV} (h : ∀ x ∈ xs, low n x = true) : low n (.tup xs) = true := by
  unfold low
  exact lows_all n xs h
theorem low_int {n : Nat} {i : Int} : low n (.int i) = true := by unfold low; rfl
theorem low_str {n : Nat} {i : Str} : low n (.str i) = true := by unfold low; rfl
end
section
open PySem L2
theorem low_ivs {n : Nat} (xs : List Nat) : ∀ x ∈ ivs xs, low n x = true := fun x hx => by
  obtain ⟨i, _, rfl⟩ := ivs_mem hx
  exact low_int
theorem Row.low (n : Nat) (r : Row) : LW.low n r.pv = true := by
  cases r <;> (unfold Row.pv; exact low_tup (by intro x hx; simp only [List.mem_cons, List.not_mem_nil, or_false] at hx; rcases hx with rfl | rfl | rfl | rfl <;> first | exact low_str | exact low_int))
theorem Rows.low (n : Nat) (rs : List Row) : LW.low n (.tup (rs.map Row.pv)) = true := low_tup fun x hx => by
  obtain ⟨r, _, rfl⟩ := List.mem_map.mp hx
  exact r.low n
theorem Routine.low (n : Nat) (r : Routine) : LW.low n r.pv = true := by
  unfold Routine.pv
  exact low_tup (by intro x hx; simp only [List.mem_cons, List.not_mem_nil, or_false] at hx; rcases hx with rfl | rfl; exact low_int; exact Rows.low n _)
def LowR (rest : Store) : Prop := rest.all (Cell.low (rest.length + 2)) = true
theorem LowR.st {rest : Store} (h : LowR rest) (g : Hs) : LowS (g.st rest) := by
  have h : rest.all (Cell.low (rest.length + 2)) = true := h
  show (Cell.low (rest.length + 1 + 1) (.lst (g.l.map .int)) && (Cell.low (rest.length + 1 + 1) (.lst [.int g.a, .loc 0, .int g.c]) && rest.all (Cell.low (rest.length + 1 + 1)))) = true
  rw [h]
  have h1 : Cell.low (rest.length + 1 + 1) (.lst (g.l.map .int)) = true := lows_all _ _ fun x hx => by
    obtain ⟨i, _, rfl⟩ := List.mem_map.mp hx
    exact low_int
  have h2 : Cell.low (rest.length + 1 + 1) (.lst [.int g.a, .loc 0, .int g.c]) = true := lows_all _ _ fun x hx => by
    simp only [List.mem_cons, List.not_mem_nil, or_false] at hx
    rcases hx with rfl | rfl | rfl
    · exact low_int
    · unfold LW.low
      exact decide_eq_true (Nat.succ_pos _)
    · exact low_int
  rw [h1, h2]
  rfl
def House.mark (k : House) (i : Nat) : Str := if k.ins.contains i = true then "good" else if k.kept.contains i = true then (toString (i : Int) : String) else "loose"
theorem House.mark_ok (k : House) {i : Nat} (hi : i < 6) : PyData.strOk (k.mark i) = true := by
  unfold House.mark
  split
  · decide +kernel
  · split
    · rcases (by omega : i = 0 ∨ i = 1 ∨ i = 2 ∨ i = 3 ∨ i = 4 ∨ i = 5) with rfl | rfl | rfl | rfl | rfl | rfl <;> decide +kernel
    · decide +kernel
theorem Hs.app {g : Hs} {A B : Store} : g.st A ++ B = g.st (A ++ B) := rfl
theorem Hs.len2 {g : Hs} {A : Store} {a b : Cell} : (g.st (A ++ [a, b])).length = A.length + 4 := by
  show (A ++ [a, b]).length + 1 + 1 = _
  rw [List.length_append]
  rfl
theorem Hs.at1 {g : Hs} {A B : Store} {a b : Cell} : (g.st (A ++ a :: b :: B))[A.length + 3]? = some b := get_app (A := A) (B := a :: b :: B) (i := 1)
theorem Hs.set1 {g : Hs} {A B : Store} {a b c : Cell} : (g.st (A ++ a :: b :: B)).set (A.length + 3) c = g.st (A ++ a :: c :: B) := congrArg (fun z => Cell.lst (g.l.map .int) :: Cell.lst [.int g.a, .loc 0, .int g.c] :: z) (set_app (A := A) (B := a :: b :: B) (i := 1))
theorem back_ok {e : Es} {many : Nat} (he : e.Ok many) {pops : List Nat} (hp : ∀ b ∈ pops, b < 6) : ∀ r ∈ (e.rows ++ pops.map Row.pop) ++ [Row.back], r.Ok ((e.rows ++ pops.map Row.pop) ++ [Row.back]).length many := fun r hr => by
  rw [List.length_append, List.length_append]
  rcases List.mem_append.mp hr with h | h
  · rcases List.mem_append.mp h with h | h
    · exact (he.rows r h).mono (by show _ ≤ _ + 1; omega)
    · obtain ⟨b, hb, rfl⟩ := List.mem_map.mp h
      exact hp b hb
  · rw [List.mem_singleton.mp h]
    trivial
theorem kept_spec (g : Hs) (rest : Store) (hlow : LowR rest) (hg : g.Ok) (hs : List House) (owners : List Nat) (nh most : Nat) (hho : ∀ h ∈ hs, House.Ok h) (how : ∀ o ∈ owners, o < hs.length) (h6 : owners.length ≤ 6) (hnh : nh < owners.length) (hmost : most ≤ 100) :
    Post (m_kept [.loc 1, .tup (hs.map House.pv), .ls (ivs owners), .int nh, .int most] (g.st rest)) fun v S => ∃ (r : Routine) (g' : Hs), v = r.pv ∧ r.Ok hs.length owners.length ∧ S = g'.st rest ∧ g'.Ok := by
  unfold m_kept
  refine w_fnP rfl ?_
  have fin : ∀ (init : List Row) (e' : Es) (g1 : Hs), g1.Ok → (∀ r ∈ init ++ [Row.back], r.Ok (init ++ [Row.back]).length owners.length) → (init ++ [Row.back]).length ≤ 32 → Post (leave (g.st rest).length (.tup [.int (owners[nh] : Nat), .tup ((init ++ [Row.back]).map Row.pv)]) (e'.st g1 rest)) fun v S => ∃ (r : Routine) (g' : Hs), v = r.pv ∧ r.Ok hs.length owners.length ∧ S = g'.st rest ∧ g'.Ok := fun init e' g1 hg1 hok hlen => by
    show Post (leave (g1.st rest).length (Routine.pv ⟨owners[nh], init, .back⟩) (g1.st rest ++ e'.cells rest.length)) _
    refine (leave_drop (w := Routine.pv ⟨owners[nh], init, .back⟩) (hlow.st g1) (by unfold Es.cells; simp) ?_).mpr ⟨⟨owners[nh], init, .back⟩, g1, rfl, ⟨how _ (List.getElem_mem hnh), hlen, hok, trivial⟩, rfl, hg1⟩
    show (if LW.low _ (Routine.pv ⟨owners[nh], init, .back⟩) = true then some _ else none) = _
    rw [if_pos (Routine.low _ _)]
  generalize hL : (g.st rest).length = L at fin ⊢
  ((repeat sizeOf_list_dec) <;> (try dsimp only))
  have hoa : atI (ivs owners) (nh : Int) = some (.int (owners[nh] : Nat)) := atI_map (List.getElem?_eq_getElem hnh)
  refine (w_ix rfl hoa).mpr ?_
  have hoh : owners[nh] < hs.length := how _ (List.getElem_mem hnh)
  refine (w_ix rfl (atI_map (List.getElem?_eq_getElem hoh))).mpr ?_
  have hk := hho _ (List.getElem_mem hoh)
  generalize hs[owners[nh]] = k at hk ⊢
  have hil := hk.ins.len
  have hkl := hk.kept.len
  ((repeat sizeOf_list_dec) <;> (try dsimp only))
  refine lc_sub (zs := k.kept) (fun _ => rfl) hg (by omega) (by show 9 < 14; decide) (fun i g' hi hg' => ?_) (fun saved g1 hg1 hsub => ?_)
  · ((repeat sizeOf_list_dec) <;> (try dsimp only))
    ((refine Post.mono (next_spec _ _ _ hg' ?hn0 ?hn1) ?_); (case hn0 => omega); (case hn1 => omega))
    rintro _ _ ⟨r2, g3, rfl, rfl, hg3, a2, b2⟩
    ((repeat sizeOf_list_dec) <;> (try dsimp only))
    exact ⟨g3, rfl, hg3⟩
  have hsv : Boxes saved := hk.kept.sub hsub
  have hvl := hsv.len
  ((repeat sizeOf_list_dec) <;> (try dsimp only))
  refine w_eDks.mpr ?_
  ((repeat sizeOf_list_dec) <;> (try dsimp only))
  refine lc_each (zs := saved) (fun i => (Row.push i).pv) rfl (by omega) (fun i hi => ?_) ?_
  · ((repeat sizeOf_list_dec) <;> (try dsimp only))
    exact ⟨by trivial, by trivial⟩
  rw [show (g1.st rest).length = rest.length + 2 from rfl]
  ((repeat sizeOf_list_dec) <;> (try dsimp only))
  refine ⟨rfl, by decide, by decide +kernel, ?_⟩
  rw [show (g1.st rest ++ [Cell.lst (saved.map fun i => (Row.push i).pv)]).length = rest.length + 3 by rw [List.length_append]; rfl]
  ((repeat sizeOf_list_dec) <;> (try dsimp only))
  refine lc_each (zs := List.range 6) (fun i => PV.str (k.mark i)) (by rfl) (by decide) (fun i hi => ?_) ?_
  · have hi6 : i < 6 := List.mem_range.mp hi
    ((repeat sizeOf_list_dec) <;> (try dsimp only))
    refine (w_in rfl rfl (flat_ivs _)).mpr ?_
    rw [inSeq_ivs]
    ((repeat sizeOf_list_dec) <;> (try dsimp only))
    unfold House.mark
    cases hc : k.ins.contains i with
    | true =>
      ((repeat sizeOf_list_dec) <;> (try dsimp only))
      exact ⟨by trivial, by trivial⟩
    | false =>
      ((repeat sizeOf_list_dec) <;> (try dsimp only))
      refine (w_in rfl rfl (flat_ivs _)).mpr ?_
      rw [inSeq_ivs]
      ((repeat sizeOf_list_dec) <;> (try dsimp only))
      cases hc2 : k.kept.contains i with
      | true =>
        ((repeat sizeOf_list_dec) <;> (try dsimp only))
        refine (w_str ?_).mpr ?_
        · rcases (by omega : i = 0 ∨ i = 1 ∨ i = 2 ∨ i = 3 ∨ i = 4 ∨ i = 5) with rfl | rfl | rfl | rfl | rfl | rfl <;> decide
        ((repeat sizeOf_list_dec) <;> (try dsimp only))
        exact ⟨by trivial, by trivial⟩
      | false =>
        ((repeat sizeOf_list_dec) <;> (try dsimp only))
        exact ⟨by trivial, by trivial⟩
  simp only [Hs.app, List.append_assoc, List.cons_append, List.nil_append]
  rw [Hs.len2]
  ((repeat sizeOf_list_dec) <;> (try dsimp only))
  refine (w_setS (Hs.at1 (B := [_])) (by show 3 < lim; decide)).mpr ?_
  rw [Hs.set1]
  ((repeat sizeOf_list_dec) <;> (try dsimp only))
  refine lc_some (n := 6) (by decide) (by show 9 < 14; decide) (fun i => !k.kept.contains i || saved.contains i) (fun i hi => ?_) (fun free free1 free2 => ?_)
  · ((repeat sizeOf_list_dec) <;> (try dsimp only))
    refine (w_notIn rfl rfl (flat_ivs _)).mpr ?_
    rw [inSeq_ivs]
    ((repeat sizeOf_list_dec) <;> (try dsimp only))
    cases hc : k.kept.contains i with
    | false =>
      ((repeat sizeOf_list_dec) <;> (try dsimp only))
      exact ⟨by trivial, by trivial⟩
    | true =>
      ((repeat sizeOf_list_dec) <;> (try dsimp only))
      refine (w_in rfl rfl (flat_ivs _)).mpr ?_
      rw [inSeq_ivs]
      ((repeat sizeOf_list_dec) <;> (try dsimp only))
      exact ⟨by trivial, by trivial⟩
  ((repeat sizeOf_list_dec) <;> (try dsimp only))
  refine (w_setS (Hs.at1 (B := [_])) (by show 4 < lim; decide)).mpr ?_
  rw [Hs.set1]
  have hmk : ((List.range 6).map fun i => PV.str (k.mark i)) = ((List.range 6).map k.mark).map PV.str := (List.map_map ..).symm
  have hpk : (saved.map fun i => (Row.push i).pv) = (saved.map Row.push).map Row.pv := by rw [List.map_map]; rfl
  rw [hmk, hpk]
  have he0 : Es.Ok owners.length ⟨saved.map Row.push, hs, owners, (List.range 6).map k.mark, free⟩ := by
    refine ⟨rfl, fun b hb => ?_, fun r hr => ?_, some_boxes free1 free2, ?_, by show 0 < owners.length; omega, rfl, h6, how, hho⟩
    · obtain ⟨i, hi, rfl⟩ := List.mem_map.mp hb
      exact k.mark_ok (List.mem_range.mp hi)
    · obtain ⟨i, hi, rfl⟩ := List.mem_map.mp hr
      exact hsv.2 i hi
    · refine List.length_pos_of_mem ((free2 k.out).mpr ⟨hk.out, ?_⟩)
      cases hc : k.kept.contains k.out with
      | false => rfl
      | true => exact ((hk.apart _ (List.contains_iff_mem.mp hc)).2 rfl).elim
  show Post (sSeq _ _ _ (Es.st ⟨saved.map Row.push, hs, owners, (List.range 6).map k.mark, free⟩ g1 rest)) _
  generalize hE : (⟨saved.map Row.push, hs, owners, (List.range 6).map k.mark, free⟩ : Es) = e0 at he0 ⊢
  have hl0 : e0.rows.length ≤ 6 := by rw [← hE]; show (saved.map Row.push).length ≤ 6; rw [List.length_map]; omega
  have hh0 : e0.houses = hs := by rw [← hE]
  have ho0 : e0.owners = owners := by rw [← hE]
  clear hE
  ((repeat sizeOf_list_dec) <;> (try dsimp only))
  ((refine Post.mono (next_spec _ _ _ hg1 ?hn0 ?hn1) ?_); (case hn0 => omega); (case hn1 => omega))
  rintro _ _ ⟨r2, g2, rfl, rfl, hg2, a2, b2⟩
  obtain ⟨n2, rfl⟩ : ∃ n : Nat, r2 = n := ⟨r2.toNat, by omega⟩
  ((repeat sizeOf_list_dec) <;> (try dsimp only))
  rw [Int.toNat_natCast]
  refine for_go (all := upto 0 n2) (fun i env S => ∃ e' g' x11 x12, S = Es.st e' g' rest ∧ g'.Ok ∧ e'.Ok owners.length ∧ e'.rows.length ≤ 6 + 19 * i ∧ env = [some (.loc 1), some (.tup (hs.map House.pv)), some (.ls (ivs owners)), some (.int nh), some (.int most), some (.tup (ivs k.ins)), some (.int k.out), some (.tup (ivs k.kept)), some (.ls (ivs saved)), none, some (.loc (rest.length + 3)), x11, x12, none]) (by rfl) ⟨e0, g2, none, none, rfl, hg2, he0, by omega, rfl⟩ ?_ ?_
  · rintro i env S x ⟨e', g', x11, x12, rfl, hg', he', q1, rfl⟩ hx
    refine ⟨by rfl, ?_⟩
    have hi : i < n2 := by
      have := (List.getElem?_eq_some_iff.mp hx).1
      rw [upto_length] at this
      exact this
    ((repeat sizeOf_list_dec) <;> (try dsimp only))
    ((refine Post.mono (next_spec _ _ _ hg' ?hn0 ?hn1) ?_); (case hn0 => omega); (case hn1 => omega))
    rintro _ _ ⟨turn, g3, rfl, rfl, hg3, a3, b3⟩
    ((repeat sizeOf_list_dec) <;> (try dsimp only))
    cases hd : decide (turn < 2) with
    | true =>
      ((repeat sizeOf_list_dec) <;> (try dsimp only))
      refine (calling_spec g3 rest e' owners.length hg3 he' (by omega)).mono ?_
      rintro _ _ ⟨e2, g4, rfl, rfl, hg4, he2, hlk, hl2⟩
      ((repeat sizeOf_list_dec) <;> (try dsimp only))
      exact ⟨e2, g4, _, _, rfl, hg4, he2, by omega, rfl⟩
    | false =>
      ((repeat sizeOf_list_dec) <;> (try dsimp only))
      cases hd2 : (turn == 2) with
      | true =>
        ((repeat sizeOf_list_dec) <;> (try dsimp only))
        refine (zeroed_spec g3 rest e' owners.length hg3 he' (by omega)).mono ?_
        rintro _ _ ⟨e2, g4, rfl, rfl, hg4, he2, hlk, hl2⟩
        ((repeat sizeOf_list_dec) <;> (try dsimp only))
        exact ⟨e2, g4, _, _, rfl, hg4, he2, by omega, rfl⟩
      | false =>
        ((repeat sizeOf_list_dec) <;> (try dsimp only))
        refine (simple_spec g3 rest e' owners.length hg3 he' (by omega)).mono ?_
        rintro _ _ ⟨e2, g4, rfl, rfl, hg4, he2, hlk, hl2⟩
        ((repeat sizeOf_list_dec) <;> (try dsimp only))
        exact ⟨e2, g4, _, _, rfl, hg4, he2, by omega, rfl⟩
  · rintro env S ⟨e1, g3, x11, x12, rfl, hg3, he1, q1, rfl⟩
    rw [upto_length] at q1
    refine ⟨by rfl, ?_⟩
    ((repeat ((fail_if_success (with_reducible refine w_if.mpr ?_)); sizeOf_list_dec)) <;> (try dsimp only))
    refine Post.mono (Q := fun p S => p.1 = .nx ∧ ∃ e3 g3, p.2 = [some (.loc 1), some (.tup (hs.map House.pv)), some (.ls (ivs owners)), some (.int nh), some (.int most), some (.tup (ivs k.ins)), some (.int k.out), some (.tup (ivs k.kept)), some (.ls (ivs saved)), none, some (.loc (rest.length + 3)), x11, x12, none] ∧ S = Es.st e3 g3 rest ∧ g3.Ok ∧ e3.Ok owners.length ∧ e3.rows.length ≤ 3000) ?_ ?_
    · obtain ⟨m, hm, hmo⟩ := he1.at hk.out
      ((repeat sizeOf_list_dec) <;> (try dsimp only))
      refine (w_eBox hm).mpr ?_
      ((repeat sizeOf_list_dec) <;> (try dsimp only))
      refine (w_neS hmo (by decide +kernel)).mpr ?_
      ((repeat sizeOf_list_dec) <;> (try dsimp only))
      cases hmg : (!decide (m = "good")) with
      | false =>
        ((repeat sizeOf_list_dec) <;> (try dsimp only))
        exact ⟨by trivial, e1, g3, by trivial, rfl, hg3, he1, by omega⟩
      | true =>
        ((repeat sizeOf_list_dec) <;> (try dsimp only))
        refine ⟨_, _, rfl, Es.at0, ?_⟩
        ((repeat sizeOf_list_dec) <;> (try dsimp only))
        refine (number_spec _ _ hg3).mono ?_
        rintro _ _ ⟨n, g4, rfl, rfl, hg4, n0, n1⟩
        obtain ⟨n, rfl⟩ : ∃ n' : Nat, n = n' := ⟨n.toNat, by omega⟩
        ((repeat sizeOf_list_dec) <;> (try dsimp only))
        refine (w_eAdd (r := .put k.out n) (by omega)).mpr ?_
        exact ⟨by trivial, _, g4, by trivial, rfl, hg4, he1.more fun r' hr' => by
          rw [List.mem_singleton.mp hr']
          exact ⟨hk.out, by omega⟩, by show (e1.rows ++ [Row.put k.out n]).length ≤ _; rw [List.length_append]; show _ + 1 ≤ _; omega⟩
    · rintro ⟨fl, env⟩ S ⟨hfl, e3, g4, henv, rfl, hg4, he3, p5⟩
      cases hfl
      cases henv
      ((repeat sizeOf_list_dec) <;> (try dsimp only))
      refine lc_each (zs := saved.reverse) (fun i => (Row.pop i).pv) rev_items (by rw [List.length_reverse]; omega) (fun i hi => ?_) ?_
      · ((repeat sizeOf_list_dec) <;> (try dsimp only))
        exact ⟨by trivial, by trivial⟩
      refine (w_addLoc Es.at0 (by rw [List.length_map, List.length_map, List.length_reverse]; exact Nat.le_trans (by omega) (by decide : 4000 ≤ lim))).mpr ?_
      ((repeat sizeOf_list_dec) <;> (try dsimp only))
      refine (w_addLL (by rw [List.length_append, List.length_map, List.length_map, List.length_reverse]; exact Nat.le_trans (by show _ + 1 ≤ 4000; omega) (by decide : 4000 ≤ lim))).mpr ?_
      rw [show e3.rows.map Row.pv ++ (saved.reverse.map fun i => (Row.pop i).pv) ++ [PV.tup [PV.str "back"]] = ((e3.rows ++ saved.reverse.map Row.pop) ++ [Row.back]).map Row.pv by rw [List.map_append, List.map_append, List.map_map]; rfl]
      have hb := back_ok he3 (pops := saved.reverse) fun x hx => hsv.2 x (List.mem_reverse.mp hx)
      ((repeat sizeOf_list_dec) <;> (try dsimp only))
      rw [List.length_map]
      cases hd : decide ((32 : Int) < ((e3.rows ++ saved.reverse.map Row.pop) ++ [Row.back]).length) with
      | true =>
        ((repeat sizeOf_list_dec) <;> (try dsimp only))
        refine (w_ix rfl hoa).mpr ?_
        ((repeat sizeOf_list_dec) <;> (try dsimp only))
        exact fin [.put k.out 1] e3 g4 hg4 (fun r hr => by
          simp only [List.cons_append, List.nil_append, List.mem_cons, List.not_mem_nil, or_false] at hr
          rcases hr with rfl | rfl
          · exact ⟨hk.out, by decide⟩
          · trivial) (Nat.le_of_ble_eq_true rfl)
      | false =>
        ((repeat sizeOf_list_dec) <;> (try dsimp only))
        refine (w_ix rfl hoa).mpr ?_
        ((repeat sizeOf_list_dec) <;> (try dsimp only))
        exact fin _ e3 g4 hg4 hb (by have := of_decide_eq_false hd; omega)
end

/-! PureQa -/
/-! PureQa: programs that are drawn. -/
section
open PySem L2
theorem cut_take (xs : List PV) (n : Nat) : cut xs none (some (n : Int)) = xs.take n := by
  have h1 : HT.sIx xs.length xs.length (some (n : Int)) = min n xs.length := HT.sIx_nat xs.length xs.length n
  unfold cut
  rw [h1, HT.sIx_none]
  show List.take (min n xs.length - 0) (List.drop 0 xs) = _
  rw [List.drop_zero, Nat.sub_zero]
  rcases Nat.le_total n xs.length with h | h
  · rw [Nat.min_eq_left h]
  · rw [Nat.min_eq_right h, List.take_of_length_le (Nat.le_refl _), List.take_of_length_le h]
theorem cut_drop (xs : List PV) (n : Nat) : cut xs (some (n : Int)) none = xs.drop n := by
  have h1 : HT.sIx xs.length 0 (some (n : Int)) = min n xs.length := HT.sIx_nat xs.length 0 n
  unfold cut
  rw [h1, HT.sIx_none]
  show List.take (xs.length - min n xs.length) (List.drop (min n xs.length) xs) = _
  rcases Nat.le_total n xs.length with h | h
  · rw [Nat.min_eq_left h, ← List.length_drop, List.take_length]
  · rw [Nat.min_eq_right h, Nat.sub_self, List.drop_eq_nil_of_le h]
    rfl
theorem w_addT' {xs ys : List PV} {S : Store} {Q : PV → Store → Prop} (h : xs.length + ys.length ≤ 1000) : Post (oAdd (.tup xs) (.tup ys) S) Q ↔ Q (.tup (xs ++ ys)) S := w_addT (Nat.le_trans h (by decide))
theorem map_of {α : Type} {f : α → PV} {P : α → Prop} : ∀ {xs : List PV}, (∀ (i : Nat) (x : PV), xs[i]? = some x → ∃ a, x = f a ∧ P a) → ∃ ys : List α, xs = ys.map f ∧ ∀ a ∈ ys, P a
  | [], _ => ⟨[], rfl, fun x h => absurd h List.not_mem_nil⟩
  | x :: r, h => by
    obtain ⟨s, rfl, h1⟩ := h 0 x rfl
    obtain ⟨ss, rfl, h2⟩ := map_of (xs := r) fun i x hx => h (i + 1) x hx
    refine ⟨s :: ss, rfl, fun x hx => ?_⟩
    rcases List.mem_cons.mp hx with rfl | hx
    · exact h1
    · exact h2 x hx
end
section
open PySem L2
/-- [f(x) for x in xs], xs written values -/
theorem lc_vals {α : Type} {enc : α → PV} {it : LW.It} {zs : List α} {env : LW.Env} {S : Store} {QA : List PV → Store → Prop} {v : Nat} {e : XE} (f : α → PV) (ha : it.items S = some (zs.map enc)) (hn : zs.length ≤ 1000)
    (he : ∀ z, z ∈ zs → Post (e (env.set v (some (enc z))) S) fun y S' => y = f z ∧ S' = S) (hQ : QA (zs.map f) S) : LcP it (gNm v) bYes e env S QA := by
  refine ⟨zs.map enc, ha, lc_inv (fun i acc S' => i ≤ zs.length ∧ acc = (zs.take i).map f ∧ S' = S) ?_ ?_ _ 0 rfl (Nat.zero_le _) _ _ ⟨Nat.zero_le _, rfl, rfl⟩⟩
  · rintro i acc S' x ⟨hi, rfl, rfl⟩ hx
    refine ⟨ha, ?_⟩
    obtain ⟨b, hb, rfl⟩ : ∃ b : α, zs[i]? = some b ∧ x = enc b := by
      rw [List.getElem?_map] at hx
      cases e : zs[i]? with
      | none => rw [e] at hx; cases hx
      | some b => rw [e] at hx; exact ⟨b, rfl, (Option.some.inj hx).symm⟩
    have hlt := (List.getElem?_eq_some_iff.mp hb).1
    refine w_gNm.mpr (w_yes.mpr ?_)
    rw [if_pos rfl]
    refine (he b (List.mem_of_getElem? hb)).mono ?_
    rintro y S2 ⟨rfl, rfl⟩
    refine ⟨?_, hlt, ?_, rfl⟩
    · rw [List.length_map, List.length_take]
      exact Nat.lt_of_le_of_lt (by omega) (by decide : 1000 < lim)
    · rw [List.take_add_one, hb, List.map_append]
      rfl
  · rintro acc S' ⟨_, rfl, rfl⟩
    rw [List.length_map, List.take_length]
    exact ⟨ha, hQ⟩
def Row.word : Row → Str
  | .put _ _ => "put" | .move _ _ => "move" | .add _ _ _ => "add" | .take _ _ _ => "take" | .push _ => "push" | .pop _ => "pop"
  | .say _ => "say" | .zero _ _ => "zero" | .go _ => "go" | .call _ => "call" | .back => "back"
theorem w_word {r : Row} {S : Store} {Q : PV → Store → Prop} : Post (oIx r.pv (.int 0) S) Q ↔ Q (.str r.word) S := by cases r <;> exact w_ix (xs := _ :: _) rfl rfl
def Row.endB : Row → Bool
  | .go _ => true
  | .back => true
  | _ => false
theorem Row.endB_is {r : Row} (h : r.endB = true) : r.isEnd := by cases r <;> first | trivial | cases h
theorem Row.in_end (r : Row) : inSeq (.str r.word) [.str "go", .str "back"] = r.endB := by cases r <;> (simp only [Row.word, Row.endB]; decide +kernel)
def Row.toB : Row → Bool
  | .go _ => true
  | .zero _ _ => true
  | _ => false
theorem Row.in_to (r : Row) : inSeq (.str r.word) [.str "go", .str "zero"] = r.toB := by cases r <;> (simp only [Row.word, Row.toB]; decide +kernel)
def Row.clip (n : Nat) : Row → Row
  | .go t => .go (min t (n - 1))
  | .zero b t => .zero b (min t (n - 1))
  | r => r
theorem Row.clip_ok {n m k : Nat} {r : Row} (h : r.Ok k m) (hn : 0 < n) : (r.clip n).Ok n m := by
  cases r with
  | zero b t => exact ⟨h.1, by show min t (n - 1) < n; omega⟩
  | go t => exact (show min t (n - 1) < n by omega)
  | put b n => exact h
  | move a b => exact h
  | add a b c => exact h
  | take a b c => exact h
  | push b => exact h
  | pop b => exact h
  | say b => exact h
  | call r => exact h
  | back => exact h
abbrev IsProg (rest : Store) (v : PV) (S : Store) : Prop := ∃ (p : Prog) (g' : Hs), v = p.pv ∧ p.Ok ∧ S = g'.st rest ∧ g'.Ok
theorem program_specN (g : Hs) (rest : Store) (hlow : LowR rest) (hg : g.Ok) (up : Nat) (hup : 1 ≤ up ∧ up ≤ 6) : Post (m_program [.loc 1, .int up] (g.st rest)) (IsProg rest) := by
  unfold m_program
  refine w_fnP rfl ?_
  ((repeat sizeOf_list_dec) <;> (try dsimp only))
  ((refine Post.mono (next_spec _ _ _ hg ?hn0 ?hn1) ?_); (case hn0 => omega); (case hn1 => omega))
  rintro _ _ ⟨r1, g1, rfl, rfl, hg1, a1, b1⟩
  obtain ⟨n1, rfl⟩ : ∃ n : Nat, r1 = n := ⟨r1.toNat, by omega⟩
  ((repeat sizeOf_list_dec) <;> (try dsimp only))
  rw [show ((1 : Int) + (n1 : Int)).toNat = n1 + 1 by omega]
  refine lc_draws (P := fun _ x => ∃ h : House, x = h.pv ∧ h.Ok) hg1 (by omega) (fun i g0 hi hg0 => ?_) (fun xs g2 hg2 hl hP => ?_)
  · ((repeat sizeOf_list_dec) <;> (try dsimp only))
    refine (house_spec _ _ hg0).mono ?_
    rintro _ _ ⟨h, g3, rfl, hh, rfl, hg3⟩
    exact ⟨g3, rfl, hg3, h, rfl, hh⟩
  obtain ⟨hs, rfl, hhs⟩ := map_of hP
  rw [List.length_map] at hl
  ((repeat sizeOf_list_dec) <;> (try dsimp only))
  ((refine Post.mono (next_spec _ _ _ hg2 ?hn0 ?hn1) ?_); (case hn0 => omega); (case hn1 => omega))
  rintro _ _ ⟨r2, g3, rfl, rfl, hg3, a2, b2⟩
  obtain ⟨n2, rfl⟩ : ∃ n : Nat, r2 = n := ⟨r2.toNat, by omega⟩
  ((repeat sizeOf_list_dec) <;> (try dsimp only))
  rw [show ((1 : Int) + (n2 : Int)).toNat = n2 + 1 by omega]
  refine lc_draws (P := fun _ x => ∃ o : Nat, x = .int o ∧ o < hs.length) hg3 (by omega) (fun i g0 hi hg0 => ?_) (fun xs g4 hg4 hl2 hP2 => ?_)
  · ((repeat sizeOf_list_dec) <;> (try dsimp only))
    rw [List.length_map]
    ((refine Post.mono (next_spec _ _ _ hg0 ?hn0 ?hn1) ?_); (case hn0 => omega); (case hn1 => omega))
    rintro _ _ ⟨r3, g5, rfl, rfl, hg5, a3, b3⟩
    obtain ⟨n3, rfl⟩ : ∃ n : Nat, r3 = n := ⟨r3.toNat, by omega⟩
    exact ⟨g5, rfl, hg5, n3, rfl, by omega⟩
  obtain ⟨owners, hxs, how⟩ := map_of (f := fun i : Nat => PV.int (i : Int)) hP2
  have hxs : xs = ivs owners := hxs
  subst hxs
  rw [ivs_length] at hl2
  ((repeat sizeOf_list_dec) <;> (try dsimp only))
  ((refine Post.mono (next_spec _ _ _ hg4 ?hn0 ?hn1) ?_); (case hn0 => omega); (case hn1 => omega))
  rintro _ _ ⟨r4, g5, rfl, rfl, hg5, a4, b4⟩
  obtain ⟨most, hmx, hm⟩ : ∃ mx : Nat, mx ≤ 100 ∧ atI [PV.int 6, PV.int 14] r4 = some (.int mx) := by
    rcases (by omega : r4 = 0 ∨ r4 = 1) with rfl | rfl
    · exact ⟨6, by decide, rfl⟩
    · exact ⟨14, by decide, rfl⟩
  refine (w_ix rfl hm).mpr ?_
  ((repeat sizeOf_list_dec) <;> (try dsimp only))
  rw [Int.toNat_natCast]
  refine lc_draws (P := fun _ x => ∃ r : Routine, x = r.pv ∧ r.Ok hs.length owners.length) hg5 (by omega) (fun i g0 hi hg0 => ?_) (fun xs g6 hg6 hl3 hP3 => ?_)
  · ((repeat sizeOf_list_dec) <;> (try dsimp only))
    refine (kept_spec g0 rest hlow hg0 hs owners i most hhs how (by omega) hi hmx).mono ?_
    rintro _ _ ⟨r, g7, rfl, hr, rfl, hg7⟩
    exact ⟨g7, rfl, hg7, r, rfl, hr⟩
  obtain ⟨rs, rfl, hrs⟩ := map_of hP3
  rw [List.length_map] at hl3
  ((repeat sizeOf_list_dec) <;> (try dsimp only))
  refine (leave_same rfl).mpr ⟨⟨hs, rs⟩, g6, rfl, ⟨by show 1 ≤ hs.length; omega, by show hs.length ≤ 3; omega, by show 1 ≤ rs.length; omega, by show rs.length ≤ 6; omega, hhs, ?_⟩, rfl, hg6⟩
  show ∀ r ∈ rs, r.Ok hs.length rs.length
  rw [hl3]
  exact hrs
theorem program_spec (g : Hs) (rest : Store) (hlow : LowR rest) (hg : g.Ok) : Post (m_program [.loc 1, .int 6] (g.st rest)) (IsProg rest) := program_specN g rest hlow hg 6 (by decide)
theorem set_take_drop {α : Type} {x : α} : ∀ {xs : List α} {i : Nat}, i < xs.length → xs.take i ++ [x] ++ xs.drop (i + 1) = xs.set i x
  | [], _, h => by cases h
  | a :: r, 0, _ => rfl
  | a :: r, i + 1, h => by
    show a :: (r.take i ++ [x] ++ r.drop (i + 1)) = a :: r.set i x
    rw [set_take_drop (Nat.lt_of_succ_lt_succ h)]
theorem min_int (t n : Nat) : (if ((n : Int) - 1) < (t : Int) then ((n : Int) - 1) else (t : Int)) = (min t (n - 1) : Nat) ∨ n = 0 := by
  by_cases hn : n = 0
  · exact .inr hn
  · left
    split <;> omega
end

/-! PureLa -/
/-! PureLa: states of a routine: what their rows do to them, how they break the pact. -/
section
open PySem L2
inductive Mk where
  | good | loose | own (b : _root_.Fin 6)
  deriving DecidableEq
def numS (i : Int) : Str := (toString i : String)
def Mk.str : Mk → Str
  | .good => "good"
  | .loose => "loose"
  | .own b => numS (b.val : Int)
def Mk.pv (m : Mk) : PV := .str m.str
def allMk : List Mk := [.good, .loose, .own 0, .own 1, .own 2, .own 3, .own 4, .own 5]
theorem Mk.mem (m : Mk) : m ∈ allMk := by
  rcases m with _ | _ | ⟨b, hb⟩
  · decide
  · decide
  · match b, hb with
    | 0, _ => exact List.mem_of_getElem? (i := 2) rfl
    | 1, _ => exact List.mem_of_getElem? (i := 3) rfl
    | 2, _ => exact List.mem_of_getElem? (i := 4) rfl
    | 3, _ => exact List.mem_of_getElem? (i := 5) rfl
    | 4, _ => exact List.mem_of_getElem? (i := 6) rfl
    | 5, _ => exact List.mem_of_getElem? (i := 7) rfl
theorem Mk.injB : (allMk.all fun a => allMk.all fun b => !decide (a.str = b.str) || decide (a = b)) = true := by decide +kernel
theorem Mk.inj {a b : Mk} (h : a.str = b.str) : a = b := by
  have := List.all_eq_true.mp (List.all_eq_true.mp Mk.injB a a.mem) b b.mem
  rw [decide_eq_true h] at this
  simpa using this
theorem Mk.okB : (allMk.all fun a => PyData.strOk a.str) = true := by decide +kernel
theorem Mk.strOk (a : Mk) : PyData.strOk a.str = true := List.all_eq_true.mp Mk.okB a a.mem
def marks (ms : List Mk) : List PV := ms.map Mk.pv
structure Sg where
  row : Nat
  bx : List Mk
  pile : List Mk
  deriving DecidableEq
def Sg.pv (s : Sg) : PV := .tup [.int s.row, .tup (marks s.bx), .tup (marks s.pile)]
theorem marks_inj : ∀ {a b : List Mk}, marks a = marks b → a = b
  | [], [], _ => rfl
  | [], _ :: _, h => by cases h
  | _ :: _, [], h => by cases h
  | x :: a, y :: b, h => by
    have h : Mk.pv x :: marks a = Mk.pv y :: marks b := h
    injection h with h1 h2
    injection h1 with h1
    rw [Mk.inj h1, marks_inj h2]
theorem Sg.inj {a b : Sg} (h : a.pv = b.pv) : a = b := by
  obtain ⟨r, x, p⟩ := a
  obtain ⟨r', x', p'⟩ := b
  unfold Sg.pv at h
  injection h with h
  injection h with h1 h
  injection h with h2 h
  injection h with h3 _
  injection h1 with h1
  injection h2 with h2
  injection h3 with h3
  have q1 : r = r' := Int.ofNat.inj h1
  have q2 : x = x' := marks_inj h2
  have q3 : p = p' := marks_inj h3
  rw [q1, q2, q3]
theorem marks_len (ms : List Mk) : (marks ms).length = ms.length := List.length_map ..
theorem marks_at {ms : List Mk} {b : Nat} (h : b < ms.length) : atI (marks ms) (b : Int) = some (ms.getD b .loose).pv := by
  have : ms[b]? = some (ms.getD b .loose) := by rw [List.getD_eq_getElem?_getD, List.getElem?_eq_getElem h]; rfl
  exact atI_map this
theorem marks_keys (d : Nat) (ms : List Mk) : (marks ms).all (keyD d) = true := List.all_eq_true.mpr fun x hx => by
  obtain ⟨m, _, rfl⟩ := List.mem_map.mp hx
  cases d <;> rfl
theorem Sg.key (s : Sg) : isKey s.pv = true := by
  show (keyD 7 (.int s.row) && (keyD 7 (.tup (marks s.bx)) && (keyD 7 (.tup (marks s.pile)) && true))) = true
  have h1 : keyD 7 (.tup (marks s.bx)) = true := marks_keys 6 _
  have h2 : keyD 7 (.tup (marks s.pile)) = true := marks_keys 6 _
  rw [h1, h2]
  rfl
theorem marks_low (n : Nat) (ms : List Mk) : ∀ x ∈ marks ms, LW.low n x = true := fun x hx => by
  obtain ⟨m, _, rfl⟩ := List.mem_map.mp hx
  exact low_str
theorem Sg.low (n : Nat) (s : Sg) : LW.low n s.pv = true := low_tup fun x hx => by
  simp only [List.mem_cons, List.not_mem_nil, or_false] at hx
  rcases hx with rfl | rfl | rfl
  · exact low_int
  · exact low_tup (marks_low n _)
  · exact low_tup (marks_low n _)
/-- what the box b has that its caller has in it -/
def fig (b : Nat) : Mk := .own (_root_.Fin.ofNat 6 b)
theorem fig_str {b : Nat} (h : b < 6) : (fig b).str = numS (b : Int) := by
  unfold fig Mk.str
  simp only [_root_.Fin.ofNat]
  rw [Nat.mod_eq_of_lt h]
abbrev Flt : Type := Str × Int
def unfit (bx : List Mk) (carries : Bool) : List Nat → Option Flt
  | [] => none
  | b :: r => if bx.getD b .loose = .loose then some ("loose", (b : Int)) else if bx.getD b .loose ≠ .good ∧ carries = false then some ("caller", (b : Int)) else unfit bx carries r
def lostK (bx : List Mk) : List Nat → Option Flt
  | [] => none
  | b :: r => if bx.getD b .loose = fig b then lostK bx r else some ("kept", (b : Int))
def Row.looks (hc : Nat → House) : Row → List Nat
  | .move _ b => [b]
  | .add _ b c => [b, c]
  | .take _ b c => [b, c]
  | .push b => [b]
  | .say b => [b]
  | .zero b _ => [b]
  | .call k => (hc k).ins
  | _ => []
def Row.carries : Row → Bool
  | .move _ _ => true
  | .push _ => true
  | _ => false
/-- how a state breaks the pact by its row -/
def Sg.brk (h : House) (hc : Nat → House) (s : Sg) (row : Row) : Option Flt := match row with
  | .back => if 0 < s.pile.length then some ("pile", -1) else match lostK s.bx h.kept with
    | some f => some f
    | none => unfit s.bx false [h.out]
  | row => match unfit s.bx row.carries (row.looks hc) with
    | some f => some f
    | none => match row with
      | .push b => if s.pile.length = 8 then some ("deep", (b : Int)) else none
      | .pop b => if s.pile.length = 0 then some ("pile", (b : Int)) else none
      | _ => none
def behind (h : House) (bx : List Mk) : List Mk := ((List.range 6).map fun b => if h.kept.contains b then bx.getD b .loose else .loose).set h.out .good
def Sg.boxes (hc : Nat → House) (s : Sg) : Row → List Mk
  | .put b _ => s.bx.set b .good
  | .add b _ _ => s.bx.set b .good
  | .take b _ _ => s.bx.set b .good
  | .move a b => s.bx.set a (s.bx.getD b .loose)
  | .pop b => s.bx.set b (s.pile.getLastD .loose)
  | .call k => behind (hc k) s.bx
  | _ => s.bx
def Sg.piled (s : Sg) : Row → List Mk
  | .push b => s.pile ++ [s.bx.getD b .loose]
  | .pop _ => s.pile.dropLast
  | _ => s.pile
def Row.goals (at_ : Nat) : Row → List Nat
  | .back => []
  | .go t => [t]
  | .zero _ t => if t = at_ + 1 then [t] else if t < at_ + 1 then [t, at_ + 1] else [at_ + 1, t]
  | _ => [at_ + 1]
def Sg.nexts (hc : Nat → House) (s : Sg) (row : Row) : List Sg := (row.goals s.row).map fun t => ⟨t, s.boxes hc row, s.piled row⟩
/-- a state's row is there, its boxes are six -/
structure Sg.At (r : Routine) (s : Sg) (row : Row) : Prop where
  at_ : r.rows[s.row]? = some row
  six : s.bx.length = 6
  deep : s.pile.length ≤ 8
def optF : Option Flt → PV
  | none => .non
  | some f => .tup [.str f.1, .int f.2]
def hof (p : Prog) (k : Nat) : House := match p.routines[k]? with
  | some r => p.houses.getD r.house ⟨[], 0, []⟩
  | none => ⟨[], 0, []⟩
theorem hof_eq {p : Prog} {k : Nat} {r : Routine} {h : House} (hr : p.routines[k]? = some r) (hh : p.houses[r.house]? = some h) : hof p k = h := by
  unfold hof
  rw [hr]
  simp only []
  rw [List.getD_eq_getElem?_getD, hh]
  rfl
theorem hof_some {p : Prog} (hp : p.Ok) {k : Nat} (hk : k < p.routines.length) : ∃ r, p.routines[k]? = some r ∧ p.houses[r.house]? = some (hof p k) ∧ (hof p k).Ok := by
  have hr := hp.routines p.routines[k] (List.getElem_mem hk)
  have e := hof_eq (List.getElem?_eq_getElem hk) (List.getElem?_eq_getElem hr.house)
  exact ⟨_, List.getElem?_eq_getElem hk, by rw [e]; exact List.getElem?_eq_getElem hr.house, by rw [e]; exact hp.houses _ (List.getElem_mem hr.house)⟩
end

/-! PureLf -/
/-! PureLf: all states by levels. -/
section
open PySem L2
/-- a state that was met: the rows of the way there (its own the last), the one ahead -/
structure Nd where
  s : Sg
  way : List Nat
  pre : Option Sg
abbrev Acc : Type := List Nd × List Nd
def visit (nd : Nd) (acc : Acc) (c : Sg) : Acc := if acc.1.any (fun n => decide (n.s = c)) = true then acc else (acc.1 ++ [⟨c, nd.way ++ [c.row], some nd.s⟩], acc.2 ++ [⟨c, nd.way ++ [c.row], some nd.s⟩])
def expand (hc : Nat → House) (rows : List Row) (acc : Acc) (nd : Nd) : Acc := match rows[nd.s.row]? with
  | some row => (nd.s.nexts hc row).foldl (visit nd) acc
  | none => acc
def brkN (h : House) (hc : Nat → House) (rows : List Row) : List Nd → Option (Nd × Flt)
  | [] => none
  | n :: l => match rows[n.s.row]? with
    | some row => match n.s.brk h hc row with
      | some f => some (n, f)
      | none => brkN h hc rows l
    | none => brkN h hc rows l
inductive Out where
  | many
  | let_ (seen : List Nd)
  | brk (seen : List Nd) (nd : Nd) (f : Flt)
def bfs (h : House) (hc : Nat → House) (rows : List Row) : Nat → List Nd → List Nd → Out
  | 0, _, _ => .many
  | n + 1, seen, level => if level.isEmpty = true then .let_ seen else if 250 < seen.length then .many else match brkN h hc rows level with
    | some (nd, f) => .brk seen nd f
    | none => bfs h hc rows n (level.foldl (expand hc rows) (seen, [])).1 (level.foldl (expand hc rows) (seen, [])).2
def Nd.first (h : House) : Nd := ⟨⟨0, (List.range 6).map fun b => if h.kept.contains b = true then fig b else if h.ins.contains b = true then .good else .loose, []⟩, [0], none⟩
def lookB (h : House) (hc : Nat → House) (rows : List Row) : Out := bfs h hc rows 251 [Nd.first h] [Nd.first h]
/-- what is known of a state of a routine -/
def Sg.In (r : Routine) (s : Sg) : Prop := ∃ row, s.At r row
theorem rows_last {r : Routine} {i : Nat} {row : Row} (h : r.rows[i]? = some row) (hl : r.last.isEnd) (he : row.endB = false) : i + 1 < r.rows.length := by
  have hlt := (List.getElem?_eq_some_iff.mp h).1
  have hlen : r.rows.length = r.init.length + 1 := by unfold Routine.rows; rw [List.length_append]; rfl
  rcases Nat.lt_or_ge (i + 1) r.rows.length with h1 | h1
  · exact h1
  · exfalso
    have hi : i = r.init.length := by omega
    have : r.rows[i]? = some r.last := by
      unfold Routine.rows
      rw [hi, List.getElem?_append_right (Nat.le_refl _), Nat.sub_self]
      rfl
    rw [h] at this
    cases this
    cases hq : r.last <;> rw [hq] at he hl <;> first | exact hl | cases he
theorem in_of {r : Routine} {s : Sg} (h : s.row < r.rows.length) (h6 : s.bx.length = 6) (h8 : s.pile.length ≤ 8) : s.In r := ⟨r.rows[s.row], List.getElem?_eq_getElem h, h6, h8⟩
theorem behind_len (h : House) (bx : List Mk) : (behind h bx).length = 6 := by
  unfold behind
  rw [List.length_set, List.length_map, List.length_range]
theorem boxes_len (hc : Nat → House) (s : Sg) (h6 : s.bx.length = 6) (row : Row) : (s.boxes hc row).length = 6 := by
  cases row <;> first | exact h6 | exact behind_len _ _ | (show (List.set _ _ _).length = 6; rw [List.length_set]; exact h6)
theorem nexts_in {p : Prog} {r : Routine} (hr : r.Ok p.houses.length p.routines.length) {h : House} {hc : Nat → House} {s : Sg} {row : Row} (a : s.At r row) (hb : s.brk h hc row = none) : ∀ c ∈ s.nexts hc row, c.In r := fun c hm => by
  obtain ⟨t, ht, rfl⟩ := List.mem_map.mp hm
  have ho := hr.rows row (List.mem_of_getElem? a.at_)
  have six := boxes_len hc s a.six row
  have d8 := a.deep
  have deep : (s.piled row).length ≤ 8 := by
    cases row with
    | push b =>
      show (s.pile ++ [_]).length ≤ 8
      rw [List.length_append]
      show s.pile.length + 1 ≤ 8
      have e : s.brk h hc (.push b) = match unfit s.bx true [b] with
        | some f => some f
        | none => if s.pile.length = 8 then some (("deep", (b : Int)) : Flt) else none := rfl
      rw [e] at hb
      cases hu : unfit s.bx true [b] with
      | some f => rw [hu] at hb; cases hb
      | none =>
        rw [hu] at hb
        simp only [] at hb
        split at hb
        · cases hb
        · omega
    | pop b =>
      show s.pile.dropLast.length ≤ 8
      rw [List.length_dropLast]
      omega
    | _ => exact d8
  have on : row.endB = false → s.row + 1 < r.rows.length := rows_last a.at_ hr.last
  refine in_of ?_ six deep
  show t < r.rows.length
  cases row with
  | back => cases ht
  | go u => rw [List.mem_singleton.mp ht]; exact ho
  | zero b u =>
    have h1 := on rfl
    have h2 : u < r.rows.length := ho.2
    have ht : t ∈ (if u = s.row + 1 then [u] else if u < s.row + 1 then [u, s.row + 1] else [s.row + 1, u]) := ht
    have : t = u ∨ t = s.row + 1 := by
      split at ht
      · exact .inl (List.mem_singleton.mp ht)
      · split at ht
        · rcases List.mem_cons.mp ht with e | e
          · exact .inl e
          · exact .inr (List.mem_singleton.mp e)
        · rcases List.mem_cons.mp ht with e | e
          · exact .inr e
          · exact .inl (List.mem_singleton.mp e)
    omega
  | _ => rw [List.mem_singleton.mp ht]; exact on rfl
/-- what is known of all that were met -/
structure Seen (r : Routine) (seen : List Nd) : Prop where
  in_ : ∀ n ∈ seen, n.s.In r
  nd : (seen.map (·.s)).Nodup
  way : ∀ n ∈ seen, n.way.length ≤ seen.length ∧ ((n.pre = none ∧ n.way = [n.s.row]) ∨ ∃ q ∈ seen, n.pre = some q.s ∧ n.way = q.way ++ [n.s.row])
theorem visit_seen {r : Routine} {nd : Nd} {acc : Acc} {c : Sg} (h : Seen r acc.1) (hn : nd ∈ acc.1) (hc : c.In r) (hs : ∀ n ∈ acc.2, n ∈ acc.1) : Seen r (visit nd acc c).1 ∧ (∀ n ∈ (visit nd acc c).2, n ∈ (visit nd acc c).1) ∧ (∀ n ∈ acc.1, n ∈ (visit nd acc c).1) ∧ (visit nd acc c).1.length = acc.1.length + ((visit nd acc c).2.length - acc.2.length) ∧ acc.2.length ≤ (visit nd acc c).2.length := by
  unfold visit
  split
  · exact ⟨h, hs, fun _ h => h, by omega, Nat.le_refl _⟩
  · rename_i hnew
    have hnew : acc.1.any (fun n => decide (n.s = c)) = false := by simpa using hnew
    refine ⟨⟨fun n hm => ?_, ?_, fun n hm => ?_⟩, fun n hm => ?_, fun n hm => List.mem_append_left _ hm, ?_, ?_⟩
    · rcases List.mem_append.mp hm with hm | hm
      · exact h.in_ n hm
      · rw [List.mem_singleton.mp hm]; exact hc
    · rw [List.map_append, List.nodup_append]
      refine ⟨h.nd, by simp, fun a ha b hb e => ?_⟩
      obtain ⟨n, hn, rfl⟩ := List.mem_map.mp ha
      have hb : b = c := List.mem_singleton.mp hb
      have := List.any_eq_false.mp hnew n hn
      exact this (by rw [decide_eq_true_eq, e, hb])
    · rw [List.length_append]
      rcases List.mem_append.mp hm with hm | hm
      · obtain ⟨h1, h2⟩ := h.way n hm
        refine ⟨by omega, h2.imp id ?_⟩
        rintro ⟨q, hq, h3⟩
        exact ⟨q, List.mem_append_left _ hq, h3⟩
      · rw [List.mem_singleton.mp hm]
        obtain ⟨h1, _⟩ := h.way nd hn
        refine ⟨?_, .inr ⟨nd, List.mem_append_left _ hn, rfl, rfl⟩⟩
        show (nd.way ++ [c.row]).length ≤ acc.1.length + 1
        rw [List.length_append]
        show nd.way.length + 1 ≤ _
        omega
    · rcases List.mem_append.mp hm with hm | hm
      · exact List.mem_append_left _ (hs n hm)
      · exact List.mem_append_right _ hm
    · simp only [List.length_append, List.length_cons, List.length_nil]
      omega
    · simp only [List.length_append, List.length_cons, List.length_nil]
      omega
/-- what a level's states bring -/
structure Good (r : Routine) (acc : Acc) (base : List Nd) : Prop where
  seen : Seen r acc.1
  sub : ∀ n ∈ acc.2, n ∈ acc.1
  old : ∀ n ∈ base, n ∈ acc.1
  len : acc.1.length = base.length + acc.2.length
theorem Good.visit {r : Routine} {acc : Acc} {base : List Nd} {nd : Nd} {c : Sg} (h : Good r acc base) (hn : nd ∈ base) (hc : c.In r) : Good r (visit nd acc c) base := by
  obtain ⟨h1, h2, h3, h4, h5⟩ := visit_seen h.seen (h.old nd hn) hc h.sub
  have := h.len
  exact ⟨h1, h2, fun n hm => h3 n (h.old n hm), by omega⟩
theorem Good.visits {r : Routine} {base : List Nd} {nd : Nd} (hn : nd ∈ base) : ∀ (cs : List Sg) (acc : Acc), (∀ c ∈ cs, c.In r) → Good r acc base → Good r (cs.foldl (LW.visit nd) acc) base
  | [], acc, _, h => h
  | c :: cs, acc, hc, h => Good.visits hn cs _ (fun d hd => hc d (List.mem_cons_of_mem _ hd)) (h.visit hn (hc c List.mem_cons_self))
theorem visit_two (nd : Nd) (acc : Acc) (c : Sg) : (visit nd acc c).1.length ≤ acc.1.length + 1 := by
  unfold visit
  split
  · omega
  · show (acc.1 ++ [_]).length ≤ _
    rw [List.length_append]
    exact Nat.le_refl _
theorem visits_two (nd : Nd) : ∀ (cs : List Sg) (acc : Acc), (cs.foldl (LW.visit nd) acc).1.length ≤ acc.1.length + cs.length
  | [], acc => Nat.le_refl _
  | c :: cs, acc => by
    have h1 := visits_two nd cs (visit nd acc c)
    have h2 := visit_two nd acc c
    show (cs.foldl (LW.visit nd) (visit nd acc c)).1.length ≤ acc.1.length + (cs.length + 1)
    omega
theorem goals_two (row : Row) (n : Nat) : (row.goals n).length ≤ 2 := by
  cases row with
  | back => exact Nat.zero_le _
  | zero b t =>
    show (if t = n + 1 then [t] else if t < n + 1 then [t, n + 1] else [n + 1, t]).length ≤ 2
    split
    · exact Nat.le_of_ble_eq_true rfl
    · split <;> exact Nat.le_refl _
  | _ => exact Nat.le_of_ble_eq_true rfl
theorem nexts_two (hc : Nat → House) (s : Sg) (row : Row) : (s.nexts hc row).length ≤ 2 := by
  unfold Sg.nexts
  rw [List.length_map]
  exact goals_two row _
/-- a state of a level that lets by -/
structure Fine (r : Routine) (h : House) (hc : Nat → House) (nd : Nd) : Prop where
  fine : ∃ row, nd.s.At r row ∧ nd.s.brk h hc row = none
theorem expand_at {hc : Nat → House} {rows : List Row} {acc : Acc} {nd : Nd} {row : Row} (a : rows[nd.s.row]? = some row) : expand hc rows acc nd = (nd.s.nexts hc row).foldl (LW.visit nd) acc := by
  unfold expand
  rw [a]
theorem Good.expand {p : Prog} {r : Routine} (hr : r.Ok p.houses.length p.routines.length) {h : House} {hc : Nat → House} {acc : Acc} {base : List Nd} {nd : Nd} (g : Good r acc base) (hn : nd ∈ base) (f : Fine r h hc nd) : Good r (expand hc r.rows acc nd) base ∧ (expand hc r.rows acc nd).1.length ≤ acc.1.length + 2 := by
  obtain ⟨row, a, hb⟩ := f.fine
  rw [expand_at a.at_]
  refine ⟨Good.visits hn _ _ (nexts_in hr a hb) g, ?_⟩
  have h1 := visits_two nd (nd.s.nexts hc row) acc
  have h2 := nexts_two hc nd.s row
  omega
theorem Good.level {p : Prog} {r : Routine} (hr : r.Ok p.houses.length p.routines.length) {h : House} {hc : Nat → House} {base : List Nd} : ∀ (level : List Nd) (acc : Acc), (∀ n ∈ level, n ∈ base) → (∀ n ∈ level, Fine r h hc n) → Good r acc base → Good r (level.foldl (LW.expand hc r.rows) acc) base ∧ (level.foldl (LW.expand hc r.rows) acc).1.length ≤ acc.1.length + 2 * level.length
  | [], acc, _, _, g => ⟨g, Nat.le_refl _⟩
  | n :: l, acc, hs, hf, g => by
    obtain ⟨g1, h1⟩ := g.expand hr (hs n List.mem_cons_self) (hf n List.mem_cons_self)
    obtain ⟨g2, h2⟩ := Good.level hr l _ (fun m hm => hs m (List.mem_cons_of_mem _ hm)) (fun m hm => hf m (List.mem_cons_of_mem _ hm)) g1
    refine ⟨g2, ?_⟩
    show (l.foldl (LW.expand hc r.rows) (LW.expand hc r.rows acc n)).1.length ≤ acc.1.length + 2 * (l.length + 1)
    omega
theorem good_base {r : Routine} {seen : List Nd} (h : Seen r seen) : Good r (seen, []) seen := ⟨h, fun _ h => absurd h List.not_mem_nil, fun _ h => h, rfl⟩
theorem brkN_cons {h : House} {hc : Nat → House} {rows : List Row} {n : Nd} {l : List Nd} {row : Row} (a : rows[n.s.row]? = some row) : brkN h hc rows (n :: l) = match n.s.brk h hc row with
    | some f => some (n, f)
    | none => brkN h hc rows l := by
  show (match rows[n.s.row]? with | some row => _ | none => _) = _
  rw [a]
theorem fine_of {r : Routine} {h : House} {hc : Nat → House} : ∀ {level : List Nd}, (∀ n ∈ level, n.s.In r) → brkN h hc r.rows level = none → ∀ n ∈ level, Fine r h hc n
  | [], _, _ => fun _ hm => absurd hm List.not_mem_nil
  | n :: l, hi, hb => fun m hm => by
    obtain ⟨row, a⟩ := hi n List.mem_cons_self
    rw [brkN_cons a.at_] at hb
    cases hq : n.s.brk h hc row with
    | some f => rw [hq] at hb; cases hb
    | none =>
      rw [hq] at hb
      rcases List.mem_cons.mp hm with rfl | hm
      · exact ⟨row, a, hq⟩
      · exact fine_of (fun k hk => hi k (List.mem_cons_of_mem _ hk)) hb m hm
theorem brkN_mem {h : House} {hc : Nat → House} {rows : List Row} : ∀ {level : List Nd} {n : Nd} {f : Flt}, brkN h hc rows level = some (n, f) → n ∈ level
  | [], _, _, h => by cases h
  | m :: l, n, f, hb => by
    unfold brkN at hb
    split at hb
    · split at hb
      · cases hb
        exact List.mem_cons_self
      · exact List.mem_cons_of_mem _ (brkN_mem hb)
    · exact List.mem_cons_of_mem _ (brkN_mem hb)
/-- where a look over levels stands -/
structure Lv (r : Routine) (seen level : List Nd) (n : Nat) : Prop where
  met : Seen r seen
  sub : ∀ m ∈ level, m ∈ seen
  fuel : level ≠ [] → 252 ≤ seen.length + n
  one : 1 ≤ n
  small : seen.length ≤ 750
  lev : level.length ≤ seen.length
theorem Lv.in_ {r : Routine} {seen level : List Nd} {n : Nat} (h : Lv r seen level n) : ∀ m ∈ level, m.s.In r := fun m hm => h.met.in_ m (h.sub m hm)
theorem Lv.next {p : Prog} {r : Routine} (hr : r.Ok p.houses.length p.routines.length) {h : House} {hc : Nat → House} {seen level : List Nd} {n : Nat} (v : Lv r seen level n) (hl : level ≠ []) (hs : seen.length ≤ 250) (hb : brkN h hc r.rows level = none) :
    ∃ m, n = m + 1 ∧ Lv r (level.foldl (LW.expand hc r.rows) (seen, [])).1 (level.foldl (LW.expand hc r.rows) (seen, [])).2 m ∧ bfs h hc r.rows n seen level = bfs h hc r.rows m (level.foldl (LW.expand hc r.rows) (seen, [])).1 (level.foldl (LW.expand hc r.rows) (seen, [])).2 := by
  obtain ⟨m, rfl⟩ : ∃ m, n = m + 1 := ⟨n - 1, by have := v.one; omega⟩
  obtain ⟨g, h2⟩ := Good.level hr level _ v.sub (fine_of v.in_ hb) (good_base v.met)
  have hf := v.fuel hl
  have hlv := v.lev
  have hlen := g.len
  have h2 : (level.foldl (LW.expand hc r.rows) (seen, [])).1.length ≤ seen.length + 2 * level.length := h2
  refine ⟨m, rfl, ⟨g.seen, g.sub, fun hne => ?_, by omega, by omega, by omega⟩, ?_⟩
  · have : 1 ≤ (level.foldl (LW.expand hc r.rows) (seen, [])).2.length := List.length_pos_iff.mpr hne
    omega
  · conv => lhs; unfold bfs
    rw [if_neg (by rw [List.isEmpty_iff]; exact hl), if_neg (by omega), hb]
theorem bfs_let {h : House} {hc : Nat → House} {rows : List Row} {n : Nat} {seen : List Nd} (hn : 1 ≤ n) : bfs h hc rows n seen [] = .let_ seen := by
  obtain ⟨m, rfl⟩ : ∃ m, n = m + 1 := ⟨n - 1, by omega⟩
  rfl
theorem bfs_many {h : House} {hc : Nat → House} {rows : List Row} {n : Nat} {seen level : List Nd} (hn : 1 ≤ n) (hl : level ≠ []) (hs : 250 < seen.length) : bfs h hc rows n seen level = .many := by
  obtain ⟨m, rfl⟩ : ∃ m, n = m + 1 := ⟨n - 1, by omega⟩
  unfold bfs
  rw [if_neg (by rw [List.isEmpty_iff]; exact hl), if_pos hs]
theorem bfs_brk {h : House} {hc : Nat → House} {rows : List Row} {n : Nat} {seen level : List Nd} {nd : Nd} {f : Flt} (hn : 1 ≤ n) (hl : level ≠ []) (hs : seen.length ≤ 250) (hb : brkN h hc rows level = some (nd, f)) : bfs h hc rows n seen level = .brk seen nd f := by
  obtain ⟨m, rfl⟩ : ∃ m, n = m + 1 := ⟨n - 1, by omega⟩
  unfold bfs
  rw [if_neg (by rw [List.isEmpty_iff]; exact hl), if_neg (by omega), hb]
theorem lv_first {r : Routine} {m : Nat} {many : Nat} (hr : r.Ok m many) (h : House) : Lv r [Nd.first h] [Nd.first h] 251 := by
  have hlen : 0 < r.rows.length := by unfold Routine.rows; rw [List.length_append]; exact Nat.succ_pos _
  refine ⟨⟨fun n hn => ?_, by simp, fun n hn => ?_⟩, fun _ h => h, fun _ => by show 252 ≤ 1 + 251; omega, by omega, by show 1 ≤ 750; omega, Nat.le_refl _⟩
  · rw [List.mem_singleton.mp hn]
    refine in_of hlen ?_ (Nat.zero_le _)
    show ((List.range 6).map _).length = 6
    rw [List.length_map, List.length_range]
  · rw [List.mem_singleton.mp hn]
    exact ⟨Nat.le_refl _, .inl ⟨rfl, rfl⟩⟩
end

/-! Pure31 -/
/-! Pure31: how deep the levels are; the way there is a way. -/
section
open PySem L2
/-- a state that lets by, and one behind it -/
structure Goes (r : Routine) (h : House) (hc : Nat → House) (a b : Sg) : Prop where
  go : ∃ row, a.At r row ∧ a.brk h hc row = none ∧ b ∈ a.nexts hc row
/-- states in their order, from the first one on -/
structure Chain (r : Routine) (h : House) (hc : Nat → House) (ss : List Sg) (way : List Nat) (z : Sg) : Prop where
  way : way = ss.map (·.row)
  beg : ss[0]? = some (Nd.first h).s
  fin : ss[ss.length - 1]? = some z
  go : ∀ k a b, ss[k]? = some a → ss[k + 1]? = some b → Goes r h hc a b
def Pth (r : Routine) (h : House) (hc : Nat → House) (n : Nd) : Prop := ∃ ss, Chain r h hc ss n.way n.s
theorem Chain.more {r : Routine} {h : House} {hc : Nat → House} {ss : List Sg} {way : List Nat} {z c : Sg} (C : Chain r h hc ss way z) (g : Goes r h hc z c) : Chain r h hc (ss ++ [c]) (way ++ [c.row]) c := by
  have hl : 0 < ss.length := (List.getElem?_eq_some_iff.mp C.beg).1
  refine ⟨by rw [C.way, List.map_append]; rfl, ?_, ?_, fun k a b ha hb => ?_⟩
  · rw [List.getElem?_append_left hl]
    exact C.beg
  · rw [List.length_append, List.length_singleton, Nat.add_sub_cancel, List.getElem?_append_right (Nat.le_refl _), Nat.sub_self]
    rfl
  · have hk : k + 1 < ss.length + 1 := by
      have := (List.getElem?_eq_some_iff.mp hb).1
      rwa [List.length_append] at this
    rw [List.getElem?_append_left (by omega)] at ha
    by_cases e : k + 1 < ss.length
    · rw [List.getElem?_append_left e] at hb
      exact C.go k a b ha hb
    · have e : k + 1 = ss.length := by omega
      rw [List.getElem?_append_right (by omega), e, Nat.sub_self] at hb
      have hb : some c = some b := hb
      cases hb
      have hf := C.fin
      rw [← e, Nat.add_sub_cancel, ha] at hf
      cases hf
      exact g
/-- all that comes behind n stands in seen, one step further at most -/
def BehindIn (hc : Nat → House) (rows : List Row) (seen : List Nd) (n : Nd) : Prop := ∀ row, rows[n.s.row]? = some row → ∀ c ∈ n.s.nexts hc row, ∃ m ∈ seen, m.s = c ∧ m.way.length ≤ n.way.length + 1
theorem BehindIn.more {hc : Nat → House} {rows : List Row} {seen seen2 : List Nd} {n : Nd} (h : BehindIn hc rows seen n) (hs : ∀ m ∈ seen, m ∈ seen2) : BehindIn hc rows seen2 n := fun row hr c hm => by
  obtain ⟨m, h1, h2⟩ := h row hr c hm
  exact ⟨m, hs m h1, h2⟩
/-- the levels up to the t-th -/
structure Dp (r : Routine) (h : House) (hc : Nat → House) (seen level : List Nd) (t : Nat) : Prop where
  path : ∀ n ∈ seen, Pth r h hc n
  lvl : ∀ n ∈ level, n.way.length = t + 1
  cls : ∀ n ∈ seen, n ∈ level ∨ (n.way.length ≤ t ∧ Fine r h hc n ∧ BehindIn hc r.rows seen n)
  root : ∃ n ∈ seen, n.s = (Nd.first h).s ∧ n.way.length ≤ 1
/-- in the midst of a level -/
structure Mid (r : Routine) (h : House) (hc : Nat → House) (seen : List Nd) (acc : Acc) (t : Nat) : Prop where
  path : ∀ n ∈ acc.1, Pth r h hc n
  old : ∀ n ∈ seen, n ∈ acc.1
  new : ∀ n ∈ acc.2, n.way.length = t + 2
  both : ∀ n ∈ acc.1, n ∈ acc.2 ∨ n ∈ seen
theorem Mid.visit {r : Routine} {h : House} {hc : Nat → House} {seen : List Nd} {acc : Acc} {t : Nat} (M : Mid r h hc seen acc t) (low : ∀ n ∈ seen, n.way.length ≤ t + 1) {nd : Nd} (hn : nd ∈ seen) (hw : nd.way.length = t + 1) {c : Sg} (g : Goes r h hc nd.s c) :
    Mid r h hc seen (LW.visit nd acc c) t ∧ (∀ n ∈ acc.1, n ∈ (LW.visit nd acc c).1) ∧ ∃ m ∈ (LW.visit nd acc c).1, m.s = c ∧ m.way.length ≤ nd.way.length + 1 := by
  unfold LW.visit
  split
  · rename_i hq
    obtain ⟨m, hm, e⟩ := List.any_eq_true.mp hq
    refine ⟨M, fun _ z => z, m, hm, of_decide_eq_true e, ?_⟩
    rcases M.both m hm with z | z
    · have := M.new m z
      omega
    · have := low m z
      omega
  · have e : (nd.way ++ [c.row]).length = t + 2 := by rw [List.length_append, hw]; rfl
    refine ⟨⟨fun n hm => ?_, fun n hm => List.mem_append_left _ (M.old n hm), fun n hm => ?_, fun n hm => ?_⟩, fun n hm => List.mem_append_left _ hm, _, List.mem_append_right _ (List.mem_singleton.mpr rfl), rfl, ?_⟩
    · rcases List.mem_append.mp hm with hm | hm
      · exact M.path n hm
      · rw [List.mem_singleton.mp hm]
        obtain ⟨ss, C⟩ := M.path nd (M.old nd hn)
        exact ⟨_, C.more g⟩
    · rcases List.mem_append.mp hm with hm | hm
      · exact M.new n hm
      · rw [List.mem_singleton.mp hm]
        exact e
    · rcases List.mem_append.mp hm with hm | hm
      · exact (M.both n hm).imp (List.mem_append_left _) id
      · exact .inl (List.mem_append_right _ hm)
    · show (nd.way ++ [c.row]).length ≤ _
      omega
theorem Mid.visits {r : Routine} {h : House} {hc : Nat → House} {seen : List Nd} {t : Nat} (low : ∀ n ∈ seen, n.way.length ≤ t + 1) {nd : Nd} (hn : nd ∈ seen) (hw : nd.way.length = t + 1) : ∀ (cs : List Sg) {acc : Acc}, (∀ c ∈ cs, Goes r h hc nd.s c) → Mid r h hc seen acc t →
    Mid r h hc seen (cs.foldl (LW.visit nd) acc) t ∧ (∀ n ∈ acc.1, n ∈ (cs.foldl (LW.visit nd) acc).1) ∧ ∀ c ∈ cs, ∃ m ∈ (cs.foldl (LW.visit nd) acc).1, m.s = c ∧ m.way.length ≤ nd.way.length + 1
  | [], _, _, M => ⟨M, fun _ z => z, fun _ z => (nomatch z)⟩
  | c :: cs, acc, g, M => by
    obtain ⟨M1, k1, m, m1, m2⟩ := M.visit low hn hw (g c List.mem_cons_self)
    obtain ⟨M2, k2, a2⟩ := Mid.visits low hn hw cs (fun d hd => g d (List.mem_cons_of_mem _ hd)) M1
    refine ⟨M2, fun n z => k2 n (k1 n z), fun d hd => ?_⟩
    rcases List.mem_cons.mp hd with rfl | hd
    · exact ⟨m, k2 m m1, m2⟩
    · exact a2 d hd
theorem Mid.level {r : Routine} {h : House} {hc : Nat → House} {seen : List Nd} {t : Nat} (low : ∀ n ∈ seen, n.way.length ≤ t + 1) : ∀ (level : List Nd) {acc : Acc}, (∀ n ∈ level, n ∈ seen ∧ n.way.length = t + 1 ∧ Fine r h hc n) → Mid r h hc seen acc t →
    Mid r h hc seen (level.foldl (LW.expand hc r.rows) acc) t ∧ (∀ n ∈ acc.1, n ∈ (level.foldl (LW.expand hc r.rows) acc).1) ∧ ∀ n ∈ level, BehindIn hc r.rows (level.foldl (LW.expand hc r.rows) acc).1 n
  | [], _, _, M => ⟨M, fun _ z => z, fun _ z => (nomatch z)⟩
  | nd :: level, acc, g, M => by
    obtain ⟨g1, g2, row, a, hb⟩ := g nd List.mem_cons_self
    have e := expand_at (acc := acc) (hc := hc) a.at_
    obtain ⟨M1, k1, a1⟩ := Mid.visits low g1 g2 (nd.s.nexts hc row) (fun c hcm => ⟨row, a, hb, hcm⟩) M
    rw [← e] at M1 k1 a1
    obtain ⟨M2, k2, a2⟩ := Mid.level low level (fun n hm => g n (List.mem_cons_of_mem _ hm)) M1
    refine ⟨M2, fun n z => k2 n (k1 n z), fun n hm => ?_⟩
    rcases List.mem_cons.mp hm with rfl | hm
    · intro row2 hr2 c hcm
      rw [a.at_] at hr2
      cases hr2
      obtain ⟨m, m1, m2⟩ := a1 c hcm
      exact ⟨m, k2 m m1, m2⟩
    · exact a2 n hm
theorem Dp.low {r : Routine} {h : House} {hc : Nat → House} {seen level : List Nd} {t : Nat} (D : Dp r h hc seen level t) : ∀ n ∈ seen, n.way.length ≤ t + 1 := fun n hn => by
  rcases D.cls n hn with z | ⟨z, _⟩
  · exact Nat.le_of_eq (D.lvl n z)
  · omega
theorem Dp.next {r : Routine} {h : House} {hc : Nat → House} {seen level : List Nd} {t : Nat} (D : Dp r h hc seen level t) (sub : ∀ n ∈ level, n ∈ seen) (fine : ∀ n ∈ level, Fine r h hc n) :
    Dp r h hc (level.foldl (LW.expand hc r.rows) (seen, [])).1 (level.foldl (LW.expand hc r.rows) (seen, [])).2 (t + 1) := by
  have M0 : Mid r h hc seen (seen, []) t := ⟨D.path, fun _ z => z, fun _ z => (nomatch z), fun _ z => .inr z⟩
  obtain ⟨M, k, a⟩ := Mid.level D.low level (fun n hn => ⟨sub n hn, D.lvl n hn, fine n hn⟩) M0
  obtain ⟨n0, r1, r2⟩ := D.root
  refine ⟨M.path, M.new, fun n hn => ?_, n0, k n0 r1, r2⟩
  rcases M.both n hn with z | z
  · exact .inl z
  · refine .inr ?_
    rcases D.cls n z with y | ⟨y1, y2, y3⟩
    · exact ⟨Nat.le_of_eq (D.lvl n y), fine n y, a n y⟩
    · exact ⟨by omega, y2, y3.more k⟩
theorem dp_first (r : Routine) (h : House) (hc : Nat → House) : Dp r h hc [Nd.first h] [Nd.first h] 0 := by
  refine ⟨fun n hn => ?_, fun n hn => ?_, fun n hn => .inl hn, Nd.first h, List.mem_singleton.mpr rfl, rfl, Nat.le_refl _⟩
  · rw [List.mem_singleton.mp hn]
    refine ⟨[(Nd.first h).s], rfl, rfl, rfl, fun k a b ha hb => ?_⟩
    rw [List.getElem?_eq_none (by simp)] at hb
    cases hb
  · rw [List.mem_singleton.mp hn]
    rfl
theorem brkN_row {h : House} {hc : Nat → House} {rows : List Row} : ∀ {level : List Nd} {n : Nd} {f : Flt}, brkN h hc rows level = some (n, f) → ∃ row, rows[n.s.row]? = some row ∧ n.s.brk h hc row = some f
  | [], _, _, e => by cases e
  | m :: level, n, f, e => by
    unfold brkN at e
    split at e
    · rename_i row hrow
      split at e
      · rename_i g hg
        cases e
        exact ⟨row, hrow, hg⟩
      · exact brkN_row e
    · exact brkN_row e
/-- where the look ended -/
theorem bfs_ends {p : Prog} {r : Routine} (hr : r.Ok p.houses.length p.routines.length) {h : House} {hc : Nat → House} : ∀ (n : Nat) {seen level sn : List Nd} {t : Nat} {nd : Nd} {f : Flt}, Lv r seen level n → Dp r h hc seen level t → bfs h hc r.rows n seen level = .brk sn nd f →
    ∃ lv t2, Dp r h hc sn lv t2 ∧ Seen r sn ∧ nd ∈ lv ∧ nd ∈ sn ∧ sn.length ≤ 250 ∧ ∃ row, nd.s.At r row ∧ nd.s.brk h hc row = some f
  | 0, _, _, _, _, _, _, _, _, hb => by cases hb
  | n + 1, seen, level, sn, t, nd, f, v, D, hb => by
    by_cases hl : level = []
    · subst hl
      cases hb
    · by_cases hs : 250 < seen.length
      · rw [bfs_many v.one hl hs] at hb
        cases hb
      · cases hk : brkN h hc r.rows level with
        | some q =>
          obtain ⟨m, g⟩ := q
          rw [bfs_brk v.one hl (by omega) hk] at hb
          cases hb
          have hm := brkN_mem hk
          refine ⟨level, t, D, v.met, hm, v.sub _ hm, by omega, ?_⟩
          obtain ⟨row, a⟩ := v.in_ _ hm
          obtain ⟨row2, b1, b2⟩ := brkN_row hk
          rw [a.at_] at b1
          cases b1
          exact ⟨row, a, b2⟩
        | none =>
          obtain ⟨m, e, v2, e2⟩ := v.next hr hl (by omega) hk
          cases e
          rw [e2] at hb
          exact bfs_ends hr n v2 (D.next v.sub (fine_of v.in_ hk)) hb
end

/-! PureLb -/
/-! PureLb: the program's looks at one state. -/
section
open PySem L2
theorem w_eqM {a b : Mk} {S : Store} {Q : PV → Store → Prop} : Post (oEq a.pv b.pv S) Q ↔ Q (.bl (decide (a = b))) S := by
  unfold Mk.pv
  rw [w_eqS a.strOk b.strOk]
  rw [show decide (a.str = b.str) = decide (a = b) from decide_eq_decide.mpr ⟨Mk.inj, fun h => by rw [h]⟩]
theorem w_neM {a b : Mk} {S : Store} {Q : PV → Store → Prop} : Post (oNe a.pv b.pv S) Q ↔ Q (.bl (!decide (a = b))) S := by
  unfold Mk.pv
  rw [w_neS a.strOk b.strOk]
  rw [show decide (a.str = b.str) = decide (a = b) from decide_eq_decide.mpr ⟨Mk.inj, fun h => by rw [h]⟩]
theorem first_unfit_spec (S : Store) (bx : List Mk) (h6 : bx.length = 6) (c : Bool) (ws : List Nat) (hw : ∀ b ∈ ws, b < 6) :
    Post (m_first_unfit [.tup (marks bx), .tup (ivs ws), .bl c] S) fun v S' => v = optF (unfit bx c ws) ∧ S' = S := by
  unfold m_first_unfit
  refine w_fnP rfl ?_
  ((repeat sizeOf_list_dec) <;> (try dsimp only))
  refine for_go (all := ivs ws) (fun i env S' => S' = S ∧ ∃ x, env = [some (.tup (marks bx)), some (.tup (ivs ws)), some (.bl c), x] ∧ unfit bx c ws = unfit bx c (ws.drop i)) (by rfl) ⟨rfl, none, rfl, rfl⟩ ?_ ?_
  · rintro i env S' x ⟨rfl, x3, rfl, hu⟩ hx
    refine ⟨by rfl, ?_⟩
    unfold ivs at hx
    rw [List.getElem?_map] at hx
    cases hh : ws[i]? with
    | none => rw [hh] at hx; cases hx
    | some b =>
      rw [hh] at hx
      cases hx
      have hb := hw b (List.mem_of_getElem? hh)
      have hd : ws.drop i = b :: ws.drop (i + 1) := by
        have hlt := (List.getElem?_eq_some_iff.mp hh).1
        rw [List.drop_eq_getElem_cons hlt, (List.getElem?_eq_some_iff.mp hh).2]
      rw [hd] at hu
      have e1 : PV.str "loose" = Mk.loose.pv := rfl
      have e2 : PV.str "good" = Mk.good.pv := rfl
      ((repeat sizeOf_list_dec) <;> (try dsimp only))
      refine (w_ix (by rfl) (marks_at (show b < bx.length by omega))).mpr ?_
      ((repeat sizeOf_list_dec) <;> (try dsimp only))
      rw [e1]
      refine w_eqM.mpr ?_
      ((repeat sizeOf_list_dec) <;> (try dsimp only))
      by_cases h1 : bx.getD b .loose = .loose
      · rw [decide_eq_true h1]
        ((repeat sizeOf_list_dec) <;> (try dsimp only))
        rw [hu, unfit, if_pos h1]
        exact (leave_same rfl).mpr ⟨rfl, rfl⟩
      · rw [decide_eq_false h1]
        ((repeat sizeOf_list_dec) <;> (try dsimp only))
        refine (w_ix (by rfl) (marks_at (show b < bx.length by omega))).mpr ?_
        ((repeat sizeOf_list_dec) <;> (try dsimp only))
        rw [e2]
        refine w_neM.mpr ?_
        ((repeat sizeOf_list_dec) <;> (try dsimp only))
        by_cases h2 : bx.getD b .loose = .good
        · rw [decide_eq_true h2]
          ((repeat sizeOf_list_dec) <;> (try dsimp only))
          refine ⟨by trivial, _, rfl, ?_⟩
          rw [hu, unfit, if_neg h1, if_neg (fun z => z.1 h2)]
        · rw [decide_eq_false h2]
          ((repeat sizeOf_list_dec) <;> (try dsimp only))
          cases c with
          | true =>
            ((repeat sizeOf_list_dec) <;> (try dsimp only))
            refine ⟨by trivial, _, rfl, ?_⟩
            rw [hu, unfit, if_neg h1, if_neg (fun z => by cases z.2)]
          | false =>
            ((repeat sizeOf_list_dec) <;> (try dsimp only))
            rw [hu, unfit, if_neg h1, if_pos ⟨h2, rfl⟩]
            exact (leave_same rfl).mpr ⟨rfl, rfl⟩
  · rintro env S' ⟨rfl, x3, rfl, hu⟩
    refine ⟨by rfl, ?_⟩
    ((repeat sizeOf_list_dec) <;> (try dsimp only))
    rw [ivs_length, List.drop_length] at hu
    rw [hu]
    exact (leave_same rfl).mpr ⟨rfl, rfl⟩
theorem looked_at_spec (S : Store) (p : Prog) (row : Row) (hc : ∀ k, row = .call k → ∃ r, p.routines[k]? = some r ∧ p.houses[r.house]? = some (hof p k)) : Post (m_looked_at [p.pv, row.pv] S) fun v S' => v = .tup (ivs (row.looks (hof p))) ∧ S' = S := by
  unfold m_looked_at
  refine w_fnP rfl ?_
  cases row with
  | call k =>
    obtain ⟨r, h1, h2⟩ := hc k rfl
    dsimp only [Row.pv]
    ((repeat sizeOf_list_dec) <;> (try dsimp only))
    refine (w_in rfl rfl rfl).mpr ?_
    ((repeat sizeOf_list_dec) <;> (try dsimp only))
    (((rw [if_neg (by decide +kernel)]); ((repeat sizeOf_list_dec) <;> (try dsimp only))))
    refine (w_in rfl rfl rfl).mpr ?_
    ((repeat sizeOf_list_dec) <;> (try dsimp only))
    (((rw [if_neg (by decide +kernel)]); ((repeat sizeOf_list_dec) <;> (try dsimp only))))
    (((rw [if_pos (by decide +kernel)]); ((repeat sizeOf_list_dec) <;> (try dsimp only))))
    refine (house_of_spec _ p k r _ h1 h2).mono ?_
    rintro _ _ ⟨rfl, rfl⟩
    ((repeat sizeOf_list_dec) <;> (try dsimp only))
    exact (leave_same rfl).mpr ⟨rfl, rfl⟩
  | put b n => dsimp only [Row.pv]; ((repeat sizeOf_list_dec) <;> (try dsimp only)); refine (w_in rfl rfl rfl).mpr ?_; ((repeat sizeOf_list_dec) <;> (try dsimp only)); (((rw [if_neg (by decide +kernel)]); ((repeat sizeOf_list_dec) <;> (try dsimp only)))); refine (w_in rfl rfl rfl).mpr ?_; ((repeat sizeOf_list_dec) <;> (try dsimp only)); (((rw [if_neg (by decide +kernel)]); ((repeat sizeOf_list_dec) <;> (try dsimp only)))); (((rw [if_neg (by decide +kernel)]); ((repeat sizeOf_list_dec) <;> (try dsimp only)))); exact (leave_same rfl).mpr ⟨rfl, rfl⟩
  | move a b => dsimp only [Row.pv]; ((repeat sizeOf_list_dec) <;> (try dsimp only)); refine (w_in rfl rfl rfl).mpr ?_; ((repeat sizeOf_list_dec) <;> (try dsimp only)); (((rw [if_neg (by decide +kernel)]); ((repeat sizeOf_list_dec) <;> (try dsimp only)))); refine (w_in rfl rfl rfl).mpr ?_; ((repeat sizeOf_list_dec) <;> (try dsimp only)); (((rw [if_pos (by decide +kernel)]); ((repeat sizeOf_list_dec) <;> (try dsimp only)))); exact (leave_same rfl).mpr ⟨rfl, rfl⟩
  | add a b c => dsimp only [Row.pv]; ((repeat sizeOf_list_dec) <;> (try dsimp only)); refine (w_in rfl rfl rfl).mpr ?_; ((repeat sizeOf_list_dec) <;> (try dsimp only)); (((rw [if_neg (by decide +kernel)]); ((repeat sizeOf_list_dec) <;> (try dsimp only)))); refine (w_in rfl rfl rfl).mpr ?_; ((repeat sizeOf_list_dec) <;> (try dsimp only)); (((rw [if_pos (by decide +kernel)]); ((repeat sizeOf_list_dec) <;> (try dsimp only)))); exact (leave_same rfl).mpr ⟨rfl, rfl⟩
  | take a b c => dsimp only [Row.pv]; ((repeat sizeOf_list_dec) <;> (try dsimp only)); refine (w_in rfl rfl rfl).mpr ?_; ((repeat sizeOf_list_dec) <;> (try dsimp only)); (((rw [if_neg (by decide +kernel)]); ((repeat sizeOf_list_dec) <;> (try dsimp only)))); refine (w_in rfl rfl rfl).mpr ?_; ((repeat sizeOf_list_dec) <;> (try dsimp only)); (((rw [if_pos (by decide +kernel)]); ((repeat sizeOf_list_dec) <;> (try dsimp only)))); exact (leave_same rfl).mpr ⟨rfl, rfl⟩
  | push b => dsimp only [Row.pv]; ((repeat sizeOf_list_dec) <;> (try dsimp only)); refine (w_in rfl rfl rfl).mpr ?_; ((repeat sizeOf_list_dec) <;> (try dsimp only)); (((rw [if_pos (by decide +kernel)]); ((repeat sizeOf_list_dec) <;> (try dsimp only)))); exact (leave_same rfl).mpr ⟨rfl, rfl⟩
  | pop b => dsimp only [Row.pv]; ((repeat sizeOf_list_dec) <;> (try dsimp only)); refine (w_in rfl rfl rfl).mpr ?_; ((repeat sizeOf_list_dec) <;> (try dsimp only)); (((rw [if_neg (by decide +kernel)]); ((repeat sizeOf_list_dec) <;> (try dsimp only)))); refine (w_in rfl rfl rfl).mpr ?_; ((repeat sizeOf_list_dec) <;> (try dsimp only)); (((rw [if_neg (by decide +kernel)]); ((repeat sizeOf_list_dec) <;> (try dsimp only)))); (((rw [if_neg (by decide +kernel)]); ((repeat sizeOf_list_dec) <;> (try dsimp only)))); exact (leave_same rfl).mpr ⟨rfl, rfl⟩
  | say b => dsimp only [Row.pv]; ((repeat sizeOf_list_dec) <;> (try dsimp only)); refine (w_in rfl rfl rfl).mpr ?_; ((repeat sizeOf_list_dec) <;> (try dsimp only)); (((rw [if_pos (by decide +kernel)]); ((repeat sizeOf_list_dec) <;> (try dsimp only)))); exact (leave_same rfl).mpr ⟨rfl, rfl⟩
  | zero b t => dsimp only [Row.pv]; ((repeat sizeOf_list_dec) <;> (try dsimp only)); refine (w_in rfl rfl rfl).mpr ?_; ((repeat sizeOf_list_dec) <;> (try dsimp only)); (((rw [if_pos (by decide +kernel)]); ((repeat sizeOf_list_dec) <;> (try dsimp only)))); exact (leave_same rfl).mpr ⟨rfl, rfl⟩
  | go t => dsimp only [Row.pv]; ((repeat sizeOf_list_dec) <;> (try dsimp only)); refine (w_in rfl rfl rfl).mpr ?_; ((repeat sizeOf_list_dec) <;> (try dsimp only)); (((rw [if_neg (by decide +kernel)]); ((repeat sizeOf_list_dec) <;> (try dsimp only)))); refine (w_in rfl rfl rfl).mpr ?_; ((repeat sizeOf_list_dec) <;> (try dsimp only)); (((rw [if_neg (by decide +kernel)]); ((repeat sizeOf_list_dec) <;> (try dsimp only)))); (((rw [if_neg (by decide +kernel)]); ((repeat sizeOf_list_dec) <;> (try dsimp only)))); exact (leave_same rfl).mpr ⟨rfl, rfl⟩
  | back => dsimp only [Row.pv]; ((repeat sizeOf_list_dec) <;> (try dsimp only)); refine (w_in rfl rfl rfl).mpr ?_; ((repeat sizeOf_list_dec) <;> (try dsimp only)); (((rw [if_neg (by decide +kernel)]); ((repeat sizeOf_list_dec) <;> (try dsimp only)))); refine (w_in rfl rfl rfl).mpr ?_; ((repeat sizeOf_list_dec) <;> (try dsimp only)); (((rw [if_neg (by decide +kernel)]); ((repeat sizeOf_list_dec) <;> (try dsimp only)))); (((rw [if_neg (by decide +kernel)]); ((repeat sizeOf_list_dec) <;> (try dsimp only)))); exact (leave_same rfl).mpr ⟨rfl, rfl⟩
end

/-! PureLc -/
/-! PureLc: how a state breaks, by the program. -/
section
open PySem L2
theorem w_notN {x : PV} {S : Store} {Q : PV → Store → Prop} : Post (oNotN x .non S) Q ↔ Q (.bl (!x.isNon)) S := Post.ok
theorem w_strN {b : Nat} {S : Store} {Q : PV → Store → Prop} (h : b < 6) : Post (bStr [.int (b : Int)] S) Q ↔ Q (fig b).pv S := by
  unfold bStr
  simp only []
  have h2 : (b : Int).natAbs.log2 < 1920 := by
    have : (b : Int).natAbs < 6 := by omega
    by_cases h0 : (b : Int).natAbs = 0
    · rw [h0]; decide
    · exact (Nat.log2_lt h0).mpr (Nat.lt_of_lt_of_le this (Nat.le_trans (show 6 ≤ 2 ^ 3 by decide) (Nat.pow_le_pow_right (by decide) (by decide))))
  rw [if_pos h2, Post.ok]
  unfold Mk.pv
  rw [fig_str h]
  exact Iff.rfl
/-- what breaks the pact is plain -/
def okF (f : Option Flt) : Prop := match f with | some f => PyData.strOk f.1 = true | none => True
theorem unfit_ok (bx : List Mk) (c : Bool) : ∀ ws, okF (unfit bx c ws)
  | [] => True.intro
  | b :: r => by
    unfold unfit
    split
    · show PyData.strOk ("loose" : Str) = true
      decide +kernel
    · split
      · show PyData.strOk ("caller" : Str) = true
        decide +kernel
      · exact unfit_ok bx c r
theorem back_spec (S : Store) (h : House) (hk : h.Ok) (s : Sg) (h6 : s.bx.length = 6) (hc : Nat → House) : Post (m_break_of_back [h.pv, .tup (marks s.bx), .tup (marks s.pile)] S) fun v S' => v = optF (s.brk h hc .back) ∧ S' = S := by
  unfold m_break_of_back
  refine w_fnP rfl ?_
  ((repeat sizeOf_list_dec) <;> (try dsimp only))
  rw [marks_len]
  unfold Sg.brk
  by_cases hp : 0 < s.pile.length
  · rw [decide_eq_true (show (0 : Int) < (s.pile.length : Int) by omega)]
    ((repeat sizeOf_list_dec) <;> (try dsimp only))
    rw [if_pos hp]
    exact (leave_same rfl).mpr ⟨rfl, rfl⟩
  · rw [decide_eq_false (show ¬ (0 : Int) < (s.pile.length : Int) by omega)]
    ((repeat sizeOf_list_dec) <;> (try dsimp only))
    rw [if_neg hp]
    refine for_go (all := ivs h.kept) (fun i env S' => S' = S ∧ ∃ x, env = [some h.pv, some (.tup (marks s.bx)), some (.tup (marks s.pile)), some (.tup (ivs h.ins)), some (.int h.out), some (.tup (ivs h.kept)), x] ∧ lostK s.bx h.kept = lostK s.bx (h.kept.drop i)) (by rfl) ⟨rfl, none, rfl, rfl⟩ ?_ ?_
    · rintro i env S' x ⟨rfl, x3, rfl, hu⟩ hx
      refine ⟨by rfl, ?_⟩
      obtain ⟨b, hh, rfl⟩ : ∃ b : Nat, h.kept[i]? = some b ∧ x = .int b := by
        unfold ivs at hx
        rw [List.getElem?_map] at hx
        cases hh : h.kept[i]? with
        | none => rw [hh] at hx; cases hx
        | some b => rw [hh] at hx; cases hx; exact ⟨b, rfl, rfl⟩
      have hb := hk.kept.2 b (List.mem_of_getElem? hh)
      have hd : h.kept.drop i = b :: h.kept.drop (i + 1) := by
        have hlt := (List.getElem?_eq_some_iff.mp hh).1
        rw [List.drop_eq_getElem_cons hlt, (List.getElem?_eq_some_iff.mp hh).2]
      rw [hd] at hu
      ((repeat sizeOf_list_dec) <;> (try dsimp only))
      refine (w_ix (by rfl) (marks_at (show b < s.bx.length by omega))).mpr ?_
      ((repeat sizeOf_list_dec) <;> (try dsimp only))
      refine (w_strN hb).mpr ?_
      refine w_neM.mpr ?_
      ((repeat sizeOf_list_dec) <;> (try dsimp only))
      by_cases h1 : s.bx.getD b .loose = fig b
      · rw [decide_eq_true h1]
        ((repeat sizeOf_list_dec) <;> (try dsimp only))
        refine ⟨by trivial, _, rfl, ?_⟩
        rw [hu, lostK, if_pos h1]
      · rw [decide_eq_false h1]
        ((repeat sizeOf_list_dec) <;> (try dsimp only))
        rw [hu, lostK, if_neg h1]
        exact (leave_same rfl).mpr ⟨rfl, rfl⟩
    · rintro env S' ⟨rfl, x3, rfl, hu⟩
      refine ⟨by rfl, ?_⟩
      ((repeat sizeOf_list_dec) <;> (try dsimp only))
      rw [ivs_length, List.drop_length] at hu
      rw [hu]
      unfold lostK
      simp only []
      refine (first_unfit_spec _ s.bx h6 false [h.out] (fun b hb => by rw [List.mem_singleton.mp hb]; exact hk.out)).mono ?_
      rintro _ _ ⟨rfl, rfl⟩
      ((repeat sizeOf_list_dec) <;> (try dsimp only))
      exact (leave_same rfl).mpr ⟨rfl, rfl⟩
theorem looks_six {r : Routine} {row : Row} {p : Prog} (hp : p.Ok) (ho : row.Ok r.rows.length p.routines.length) : ∀ b ∈ row.looks (hof p), b < 6 := fun b hb => by
  cases row with
  | move a c => rw [List.mem_singleton.mp hb]; exact ho.2
  | add a c d =>
    rcases List.mem_cons.mp hb with rfl | hb
    · exact ho.2.1
    · rw [List.mem_singleton.mp hb]; exact ho.2.2
  | take a c d =>
    rcases List.mem_cons.mp hb with rfl | hb
    · exact ho.2.1
    · rw [List.mem_singleton.mp hb]; exact ho.2.2
  | push c => rw [List.mem_singleton.mp hb]; exact ho
  | say c => rw [List.mem_singleton.mp hb]; exact ho
  | zero c t => rw [List.mem_singleton.mp hb]; exact ho.1
  | call k => obtain ⟨_, _, _, hk⟩ := hof_some hp ho; exact hk.ins.2 b hb
  | _ => cases hb
theorem Row.word_ok (row : Row) : PyData.strOk row.word = true := by cases row <;> (simp only [Row.word]; decide +kernel)
theorem carry_in (row : Row) : inSeq (.str row.word) [.str "move", .str "push"] = row.carries := by cases row <;> (simp only [Row.word, Row.carries]; decide +kernel)
set_option maxHeartbeats 4000000 in
theorem break_of_spec (S : Store) (p : Prog) (hp : p.Ok) (i : Nat) (r : Routine) (hr : p.routines[i]? = some r) (s : Sg) (row : Row) (a : s.At r row) :
    Post (m_break_of [p.pv, .int i, s.pv] S) fun v S' => v = optF (s.brk (hof p i) (hof p) row) ∧ S' = S := by
  have hi := (List.getElem?_eq_some_iff.mp hr).1
  obtain ⟨r', hr', hh, hk⟩ := hof_some hp hi
  rw [hr] at hr'
  cases hr'
  have ho := (hp.routines r (List.mem_of_getElem? hr)).rows row (List.mem_of_getElem? a.at_)
  unfold m_break_of
  refine w_fnP rfl ?_
  ((repeat sizeOf_list_dec) <;> (try dsimp only))
  refine (rows_of_spec _ p i r hr).mono ?_
  rintro _ _ ⟨rfl, rfl⟩
  ((repeat sizeOf_list_dec) <;> (try dsimp only))
  refine (w_ix (by rfl) (atI_map a.at_)).mpr ?_
  ((repeat sizeOf_list_dec) <;> (try dsimp only))
  refine w_word.mpr ?_
  ((repeat sizeOf_list_dec) <;> (try dsimp only))
  by_cases hb : row = .back
  · subst hb
    dsimp only [Row.word]
    ((repeat sizeOf_list_dec) <;> (try dsimp only))
    (((rw [if_pos (by decide +kernel)]); ((repeat sizeOf_list_dec) <;> (try dsimp only))))
    refine (house_of_spec _ p i r _ hr hh).mono ?_
    rintro _ _ ⟨rfl, rfl⟩
    ((repeat sizeOf_list_dec) <;> (try dsimp only))
    refine (back_spec _ _ hk s a.six (hof p)).mono ?_
    rintro _ _ ⟨rfl, rfl⟩
    ((repeat sizeOf_list_dec) <;> (try dsimp only))
    exact (leave_same rfl).mpr ⟨rfl, rfl⟩
  · have hw : decide (row.word = ("back" : Str)) = false := by
      cases row <;> first | exact absurd rfl hb | rfl
    refine (w_eqS row.word_ok (by decide +kernel)).mpr ?_
    rw [hw]
    ((repeat sizeOf_list_dec) <;> (try dsimp only))
    refine (looked_at_spec _ p row (fun k e => by subst e; obtain ⟨q, h1, h2, _⟩ := hof_some hp (show k < _ from ho); exact ⟨q, h1, h2⟩)).mono ?_
    rintro _ _ ⟨rfl, rfl⟩
    ((repeat sizeOf_list_dec) <;> (try dsimp only))
    refine (w_in rfl rfl rfl).mpr ?_
    rw [carry_in]
    ((repeat sizeOf_list_dec) <;> (try dsimp only))
    refine (first_unfit_spec _ s.bx a.six row.carries _ (looks_six hp ho)).mono ?_
    rintro _ _ ⟨rfl, rfl⟩
    have hbrk : s.brk (hof p i) (hof p) row = match unfit s.bx row.carries (row.looks (hof p)) with
      | some f => some f
      | none => match row with
        | .push b => if s.pile.length = 8 then some ("deep", (b : Int)) else none
        | .pop b => if s.pile.length = 0 then some ("pile", (b : Int)) else none
        | _ => none := by cases row <;> first | exact absurd rfl hb | rfl
    rw [hbrk]
    ((repeat sizeOf_list_dec) <;> (try dsimp only))
    refine w_notN.mpr ?_
    cases hu : unfit s.bx row.carries (row.looks (hof p)) with
    | some f =>
      rw [show (optF (some f)).isNon = false from rfl]
      ((repeat sizeOf_list_dec) <;> (try dsimp only))
      exact (leave_same rfl).mpr ⟨rfl, rfl⟩
    | none =>
      rw [show (optF none).isNon = true from rfl]
      ((repeat sizeOf_list_dec) <;> (try dsimp only))
      cases row with
      | push b =>
        dsimp only [Row.word, Row.pv]
        ((repeat sizeOf_list_dec) <;> (try dsimp only))
        (((rw [if_pos (by decide +kernel)]); ((repeat sizeOf_list_dec) <;> (try dsimp only))))
        rw [marks_len]
        by_cases h8 : s.pile.length = 8
        · rw [show ((s.pile.length : Int) == 8) = true from by rw [h8]; rfl]
          ((repeat sizeOf_list_dec) <;> (try dsimp only))
          rw [if_pos h8]
          exact (leave_same rfl).mpr ⟨rfl, rfl⟩
        · rw [show ((s.pile.length : Int) == 8) = false from by rw [beq_eq_false_iff_ne]; omega]
          ((repeat sizeOf_list_dec) <;> (try dsimp only))
          (((rw [if_neg (by decide +kernel)]); ((repeat sizeOf_list_dec) <;> (try dsimp only))))
          rw [if_neg h8]
          exact (leave_same rfl).mpr ⟨rfl, rfl⟩
      | pop b =>
        dsimp only [Row.word, Row.pv]
        ((repeat sizeOf_list_dec) <;> (try dsimp only))
        (((rw [if_neg (by decide +kernel)]); ((repeat sizeOf_list_dec) <;> (try dsimp only))))
        (((rw [if_pos (by decide +kernel)]); ((repeat sizeOf_list_dec) <;> (try dsimp only))))
        rw [marks_len]
        by_cases h8 : s.pile.length = 0
        · rw [show ((s.pile.length : Int) == 0) = true from by rw [h8]; rfl]
          ((repeat sizeOf_list_dec) <;> (try dsimp only))
          rw [if_pos h8]
          exact (leave_same rfl).mpr ⟨rfl, rfl⟩
        · rw [show ((s.pile.length : Int) == 0) = false from by rw [beq_eq_false_iff_ne]; omega]
          ((repeat sizeOf_list_dec) <;> (try dsimp only))
          rw [if_neg h8]
          exact (leave_same rfl).mpr ⟨rfl, rfl⟩
      | back => exact absurd rfl hb
      | _ =>
        dsimp only [Row.word, Row.pv]
        ((repeat sizeOf_list_dec) <;> (try dsimp only))
        (((rw [if_neg (by decide +kernel)]); ((repeat sizeOf_list_dec) <;> (try dsimp only))))
        (((rw [if_neg (by decide +kernel)]); ((repeat sizeOf_list_dec) <;> (try dsimp only))))
        exact (leave_same rfl).mpr ⟨rfl, rfl⟩
end

/-! PureLow -/
/-! PureLow: what is low. -/
section
open PySem L2
theorem low_ls {n : Nat} {xs : List PV} (h : ∀ x ∈ xs, LW.low n x = true) : LW.low n (.ls xs) = true := by
  unfold LW.low
  exact lows_all n xs h
mutual
theorem low_mono {n n' : Nat} (hn : n ≤ n') : ∀ v : PV, LW.low n v = true → LW.low n' v = true
  | .non, _ => by unfold LW.low; rfl
  | .bl _, _ => by unfold LW.low; rfl
  | .int _, _ => by unfold LW.low; rfl
  | .str _, _ => by unfold LW.low; rfl
  | .tup xs, h => by unfold LW.low at h ⊢; exact lows_mono hn xs h
  | .ls xs, h => by unfold LW.low at h ⊢; exact lows_mono hn xs h
  | .fz xs, h => by unfold LW.low at h ⊢; exact lows_mono hn xs h
  | .dc _ xs, h => by unfold LW.low at h ⊢; exact lows_mono hn xs h
  | .loc l, h => by unfold LW.low at h ⊢; exact decide_eq_true (Nat.lt_of_lt_of_le (of_decide_eq_true h) hn)
theorem lows_mono {n n' : Nat} (hn : n ≤ n') : ∀ vs : List PV, lows n vs = true → lows n' vs = true
  | [], _ => by unfold lows; rfl
  | v :: r, h => by
    unfold lows at h ⊢
    rw [Bool.and_eq_true] at h ⊢
    exact ⟨low_mono hn v h.1, lows_mono hn r h.2⟩
end
theorem cell_mono {n n' : Nat} (hn : n ≤ n') (c : Cell) (h : Cell.low n c = true) : Cell.low n' c = true := by
  cases c <;> exact lows_mono hn _ h
theorem LowS.rest {g : Hs} {rest : Store} (h : LowS (g.st rest)) : LowR rest := by
  have h : (g.st rest).all (Cell.low (g.st rest).length) = true := h
  have h2 : (Cell.low (rest.length + 1 + 1) (.lst (g.l.map .int)) && (Cell.low (rest.length + 1 + 1) (.lst [.int g.a, .loc 0, .int g.c]) && rest.all (Cell.low (rest.length + 1 + 1)))) = true := h
  rw [Bool.and_eq_true, Bool.and_eq_true] at h2
  exact h2.2.2
end

/-! PureGen -/
/-! PureGen: stores. -/
section
open PySem L2
theorem get_last0 {S : Store} {c : Cell} : (S ++ [c])[S.length]? = some c := get_app (A := S) (B := [c]) (i := 0)
theorem set_last0 {S : Store} {c d : Cell} : (S ++ [c]).set S.length d = S ++ [d] := set_app (A := S) (B := [c]) (i := 0)
theorem w_aStar {m : XE} {r : XA} {env : LW.Env} {S : Store} {QA : List PV → Store → Prop} : Post (aStar m r env S) QA ↔ Post (m env S) fun x S1 => ∃ ys, seqOf S1 x = some ys ∧ Post (r env S1) fun zs S2 => QA (ys ++ zs) S2 := by
  unfold aStar
  rw [Post.bind]
  constructor <;> (intro h; refine h.mono fun x S h => ?_)
  · split at h
    · rename_i ys hy
      rw [Post.bind] at h
      exact ⟨ys, hy, h.mono fun _ _ h => Post.ok.mp h⟩
    · exact (Post.bad.mp h).elim
  · obtain ⟨ys, hy, h⟩ := h
    rw [hy]
    simp only []
    rw [Post.bind]
    exact h.mono fun _ _ h => Post.ok.mpr h
theorem w_tupN {xs : List PV} {S : Store} {Q : PV → Store → Prop} (h : xs.length ≤ lim) : Post (if xs.length ≤ lim then R.ok (.tup xs) S else .bad) Q ↔ Q (.tup xs) S := by rw [if_pos h]; exact Post.ok
theorem seq_last {S : Store} (xs : List PV) : seqOf (S ++ [.lst xs]) (.loc S.length) = some xs := by
  show (match (S ++ [Cell.lst xs])[S.length]? with | some (.lst xs) => some xs | _ => none) = _
  rw [get_last0]
theorem lows_cons {S : Store} {xs : List PV} (hS : LowS S) (h : ∀ x ∈ xs, LW.low (S ++ [Cell.lst xs]).length x = true) : LowS (S ++ [Cell.lst xs]) := by
  show (S ++ [Cell.lst xs]).all (Cell.low (S ++ [Cell.lst xs]).length) = true
  have hS : S.all (Cell.low S.length) = true := hS
  rw [List.all_append, Bool.and_eq_true]
  refine ⟨List.all_eq_true.mpr fun c hc => cell_mono (by rw [List.length_append]; exact Nat.le_add_right _ _) c (List.all_eq_true.mp hS c hc), ?_⟩
  rw [List.all_cons, List.all_nil, Bool.and_true]
  exact lows_all _ _ h
theorem st_more {g : Hs} {rest B : Store} {S : Store} (h : S = g.st rest ++ B) (hl : LowS S) : ∃ rest2, S = g.st rest2 ∧ LowR rest2 := ⟨rest ++ B, h, LowS.rest (g := g) (by rw [← Hs.app, ← h]; exact hl)⟩
theorem w_notNv {x : PV} {S : Store} {Q : PV → Store → Prop} {k : Bool} (h : x.isNon = k) : Post (oNotN x .non S) Q ↔ Q (.bl (!k)) S := by rw [← h]; exact Post.ok
theorem len1 {A : Store} {c : Cell} : (A ++ [c]).length = A.length + 1 := by rw [List.length_append]; rfl
end

/-! PureLd -/
/-! PureLd: what comes of a state, by the program. -/
section
open PySem L2
theorem w_mulNw {xs : List PV} {n : Nat} {S : Store} {Q : PV → Store → Prop} (h1 : n ≤ 1000) (h2 : xs.length ≤ 1000) : Post (oMulN (.ls xs) (.int n) S) Q ↔ Q (.loc S.length) (S ++ [.lst (rep xs n)]) := by
  unfold oMulN
  simp only [lstOf]
  rw [if_pos ⟨by omega, by omega, h2⟩, Int.toNat_natCast]
  exact Post.ok
def fillM (f : Nat → Mk) (ws : List Nat) (xs : List Mk) : List Mk := ws.foldl (fun xs b => xs.set b (f b)) xs
theorem fill_len (f : Nat → Mk) : ∀ (ws : List Nat) (xs : List Mk), (fillM f ws xs).length = xs.length
  | [], _ => rfl
  | b :: r, xs => by
    show (fillM f r (xs.set b (f b))).length = _
    rw [fill_len, List.length_set]
theorem fill_step (f : Nat → Mk) {ws : List Nat} {i b : Nat} (h : ws[i]? = some b) (xs : List Mk) : fillM f (ws.take (i + 1)) xs = (fillM f (ws.take i) xs).set b (f b) := by
  unfold fillM
  rw [List.take_add_one, h]
  simp
theorem fill_at (f : Nat → Mk) (b : Nat) : ∀ (ws : List Nat) (xs : List Mk), b < xs.length → (fillM f ws xs)[b]? = if ws.contains b = true then some (f b) else xs[b]?
  | [], _, _ => rfl
  | c :: r, xs, hb => by
    show (fillM f r (xs.set c (f c)))[b]? = _
    rw [fill_at f b r _ (by rw [List.length_set]; exact hb), List.contains_cons]
    by_cases e : b = c
    · subst e
      rw [List.getElem?_set_self hb]
      simp
    · rw [List.getElem?_set_ne (fun z => e z.symm), show (b == c) = false from beq_eq_false_iff_ne.mpr e, Bool.false_or]
theorem list6 {xs : List Mk} (h : xs.length = 6) {g : Nat → Mk} (hg : ∀ b, b < 6 → xs[b]? = some (g b)) : xs = (List.range 6).map g := by
  refine List.ext_getElem? fun b => ?_
  rw [List.getElem?_map]
  by_cases hb : b < 6
  · rw [hg b hb, List.getElem?_range hb]
    rfl
  · rw [List.getElem?_eq_none (by omega), List.getElem?_eq_none (by rw [List.length_range]; omega)]
    rfl
theorem marks_set (xs : List Mk) (b : Nat) (m : Mk) : (marks xs).set b m.pv = marks (xs.set b m) := by
  unfold marks
  rw [List.map_set]
theorem marks_rep (n : Nat) : rep [.str "loose"] n = marks (List.replicate n .loose) := by
  induction n with
  | zero => rfl
  | succ n ih =>
    unfold rep marks at ih ⊢
    rw [List.replicate_succ, List.flatten_cons, ih]
    rfl
theorem w_setM {S : Store} {xs : List Mk} {b : Nat} {m : Mk} {QU : Unit → Store → Prop} (h : b < xs.length) : Post (oSet (.loc S.length) (.int (b : Int)) m.pv (S ++ [.lst (marks xs)])) QU ↔ QU () (S ++ [.lst (marks (xs.set b m))]) := by
  rw [w_setL get_last0 (ixOf_nat (by rw [marks_len]; exact h)), marks_set, set_last0]
theorem ivs_at' {ws : List Nat} {i : Nat} {x : PV} (hx : (ivs ws)[i]? = some x) : ∃ b : Nat, ws[i]? = some b ∧ x = .int b := by
  unfold ivs at hx
  rw [List.getElem?_map] at hx
  cases hh : ws[i]? with
  | none => rw [hh] at hx; cases hx
  | some b => rw [hh] at hx; cases hx; exact ⟨b, rfl, rfl⟩
theorem out_marks {S : Store} {xs : List Mk} : out1 S.length (S ++ [.lst (marks xs)]) (.loc S.length) = some (.ls (marks xs)) := by
  unfold out1
  simp only []
  rw [if_neg (Nat.lt_irrefl _), get_last0]
  simp only []
  rw [if_pos (lows_all _ _ (marks_low _ _))]
/-- lists alone are low, too -/
theorem behind_eq (h : House) (bx : List Mk) : (fillM (fun b => bx.getD b .loose) h.kept (List.replicate 6 .loose)).set h.out .good = behind h bx := by
  unfold behind
  congr 1
  refine list6 (by rw [fill_len]; rfl) fun b hb => ?_
  rw [fill_at _ _ _ _ (by rw [List.length_replicate]; exact hb)]
  split
  · rename_i hc; rfl
  · rw [List.getElem?_replicate, if_pos hb]
theorem behind_spec (S : Store) (hS : LowS S) (h : House) (hk : h.Ok) (bx : List Mk) (h6 : bx.length = 6) : Post (m_boxes_behind_call [h.pv, .tup (marks bx)] S) fun v S' => v = .ls (marks (behind h bx)) ∧ S' = S := by
  unfold m_boxes_behind_call
  refine w_fnP rfl ?_
  ((repeat sizeOf_list_dec) <;> (try dsimp only))
  refine (w_mulNw (n := 6) (by decide) (by decide)).mpr ?_
  rw [marks_rep]
  ((repeat sizeOf_list_dec) <;> (try dsimp only))
  refine for_go (all := ivs h.kept) (fun i env S' => ∃ x, env = [some h.pv, some (.tup (marks bx)), some (.tup (ivs h.ins)), some (.int h.out), some (.tup (ivs h.kept)), some (.loc S.length), x] ∧ S' = S ++ [.lst (marks (fillM (fun b => bx.getD b .loose) (h.kept.take i) (List.replicate 6 .loose)))]) (by rfl) ⟨none, rfl, rfl⟩ ?_ ?_
  · rintro i env S' x ⟨x6, rfl, rfl⟩ hx
    refine ⟨by rfl, ?_⟩
    obtain ⟨b, hh, rfl⟩ := ivs_at' hx
    have hb := hk.kept.2 b (List.mem_of_getElem? hh)
    rw [fill_step _ hh]
    have hl := fill_len (fun b => bx.getD b .loose) (h.kept.take i) (List.replicate 6 .loose)
    generalize fillM (fun b => bx.getD b .loose) (h.kept.take i) (List.replicate 6 .loose) = xs at hl ⊢
    have hl : xs.length = 6 := hl
    ((repeat sizeOf_list_dec) <;> (try dsimp only))
    refine (w_ix (by rfl) (marks_at (show b < bx.length by omega))).mpr ?_
    ((repeat sizeOf_list_dec) <;> (try dsimp only))
    refine (w_setM (by omega)).mpr ?_
    ((repeat sizeOf_list_dec) <;> (try dsimp only))
    exact ⟨_, rfl, by trivial⟩
  · rintro env S' ⟨x6, rfl, rfl⟩
    rw [ivs_length, List.take_length]
    refine ⟨by rfl, ?_⟩
    have e2 : PV.str "good" = Mk.good.pv := rfl
    ((repeat sizeOf_list_dec) <;> (try dsimp only))
    rw [e2]
    refine (w_setM (by rw [fill_len]; exact hk.out)).mpr ?_
    ((repeat sizeOf_list_dec) <;> (try dsimp only))
    rw [behind_eq]
    exact (leave_drop hS (List.cons_ne_nil _ _) out_marks).mpr ⟨rfl, rfl⟩
def set2R (x y : PV) (S : Store) : R PV := match x, y with
  | .int i, .int j => .ok (.ls ((setI [i, j]).map .int)) S
  | _, _ => .bad
theorem w_eSet2 {a b : XE} {env : LW.Env} {S : Store} {Q : PV → Store → Prop} : Post (eSet2 a b env S) Q ↔ Post (a env S) fun x S => Post (b env S) fun y S => Post (set2R x y S) Q := by
  unfold eSet2
  rw [Post.bind]
  simp only [Post.bind]
  exact Iff.rfl
theorem setI_two (x y : Int) : setI [x, y] = if y = x then [y] else if y < x then [y, x] else [x, y] := by
  unfold setI dedI dedI
  have e0 : dedI ([] : List Int) = [] := rfl
  rw [e0]
  simp only [List.not_mem_nil, if_false, List.mem_singleton]
  by_cases h : y = x
  · rw [if_pos h, if_pos h.symm]
    rfl
  · rw [if_neg h, if_neg (fun z => h z.symm)]
    have e1 : insI x [y] = if x ≤ y then [x, y] else [y, x] := rfl
    show insI x [y] = _
    rw [e1]
    by_cases h2 : y < x
    · rw [if_pos h2, if_neg (by omega)]
    · rw [if_neg h2, if_pos (by omega)]
theorem goals_len (row : Row) (n : Nat) : (row.goals n).length ≤ 2 := by
  cases row with
  | back => exact Nat.zero_le _
  | zero b t =>
    show (if t = n + 1 then [t] else if t < n + 1 then [t, n + 1] else [n + 1, t]).length ≤ 2
    split
    · exact Nat.le_of_ble_eq_true rfl
    · split <;> exact Nat.le_refl _
  | _ => exact Nat.le_of_ble_eq_true rfl
theorem goals_zero (b t n : Nat) : (setI [((n : Int) + 1), (t : Int)]).map PV.int = ivs ((Row.zero b t).goals n) := by
  rw [setI_two]
  show _ = ivs (if t = n + 1 then [t] else if t < n + 1 then [t, n + 1] else [n + 1, t])
  by_cases h : t = n + 1
  · rw [if_pos (by omega), if_pos h]
    rfl
  · rw [if_neg (by omega), if_neg h]
    by_cases h2 : t < n + 1
    · rw [if_pos (by omega), if_pos h2]
      rfl
    · rw [if_neg (by omega), if_neg h2]
      rfl
theorem next_rows_spec (S : Store) (row : Row) (n : Nat) : Post (m_next_rows [row.pv, .int n] S) fun v S' => v = .ls (ivs (row.goals n)) ∧ S' = S := by
  unfold m_next_rows
  refine w_fnP rfl ?_
  cases row with
  | back => dsimp only [Row.pv]; ((repeat sizeOf_list_dec) <;> (try dsimp only)); (((rw [if_pos (by decide +kernel)]); ((repeat sizeOf_list_dec) <;> (try dsimp only)))); exact (leave_same rfl).mpr ⟨rfl, rfl⟩
  | go t => dsimp only [Row.pv]; ((repeat sizeOf_list_dec) <;> (try dsimp only)); (((rw [if_neg (by decide +kernel)]); ((repeat sizeOf_list_dec) <;> (try dsimp only)))); (((rw [if_pos (by decide +kernel)]); ((repeat sizeOf_list_dec) <;> (try dsimp only)))); exact (leave_same rfl).mpr ⟨rfl, rfl⟩
  | zero b t =>
    dsimp only [Row.pv]
    ((repeat sizeOf_list_dec) <;> (try dsimp only))
    (((rw [if_neg (by decide +kernel)]); ((repeat sizeOf_list_dec) <;> (try dsimp only))))
    (((rw [if_neg (by decide +kernel)]); ((repeat sizeOf_list_dec) <;> (try dsimp only))))
    (((rw [if_pos (by decide +kernel)]); ((repeat sizeOf_list_dec) <;> (try dsimp only))))
    refine w_eSet2.mpr ?_
    ((repeat sizeOf_list_dec) <;> (try dsimp only))
    refine Post.ok.mpr ?_
    rw [goals_zero b]
    ((repeat sizeOf_list_dec) <;> (try dsimp only))
    exact (leave_same rfl).mpr ⟨rfl, rfl⟩
  | _ => dsimp only [Row.pv]; ((repeat sizeOf_list_dec) <;> (try dsimp only)); (((rw [if_neg (by decide +kernel)]); ((repeat sizeOf_list_dec) <;> (try dsimp only)))); (((rw [if_neg (by decide +kernel)]); ((repeat sizeOf_list_dec) <;> (try dsimp only)))); (((rw [if_neg (by decide +kernel)]); ((repeat sizeOf_list_dec) <;> (try dsimp only)))); exact (leave_same rfl).mpr ⟨rfl, rfl⟩
theorem atI_neg1 {xs : List Mk} (h : 0 < xs.length) : atI (marks xs) (-1) = some (xs.getLastD .loose).pv := by
  rcases List.eq_nil_or_concat xs with rfl | ⟨ys, y, rfl⟩
  · cases h
  · rw [List.concat_eq_append]
    unfold marks
    rw [List.map_append, show (ys ++ [y]).getLastD .loose = y by simp]
    exact L2.atI_last _ _
theorem cut_drop1 (xs : List Mk) : cut (marks xs) none (some (-1)) = marks xs.dropLast := by
  unfold cut
  rw [HT.sIx_none]
  have e : HT.sIx (marks xs).length (marks xs).length (some (-1)) = xs.length - 1 := by
    rw [marks_len]
    show (if (-1 : Int) < 0 then ((-1 : Int) + (xs.length : Int)).toNat else min (-1 : Int).toNat xs.length) = _
    rw [if_pos (by decide)]
    omega
  rw [e]
  show ((marks xs).drop 0).take (xs.length - 1 - 0) = _
  unfold marks
  rw [List.drop_zero, Nat.sub_zero, ← List.map_take, List.dropLast_eq_take]
set_option maxHeartbeats 4000000 in
theorem come_of_spec (S : Store) (hS : LowS S) (p : Prog) (hp : p.Ok) (i : Nat) (r : Routine) (hr : p.routines[i]? = some r) (s : Sg) (row : Row) (a : s.At r row) (hb : s.brk (hof p i) (hof p) row = none) :
    Post (m_come_of [p.pv, .int i, s.pv] S) fun v S' => v = .ls ((s.nexts (hof p) row).map Sg.pv) ∧ S' = S := by
  have ho := (hp.routines r (List.mem_of_getElem? hr)).rows row (List.mem_of_getElem? a.at_)
  have h6 := a.six
  have fin : ∀ (bx pile : List Mk) (v8 : PV) (c : Cell) (x9 : Option PV), seqOf (S ++ [c]) v8 = some (marks bx) → (∀ xs, v8 ≠ .fz xs) →
      Post (m_next_rows [row.pv, .int s.row] (S ++ [c])) fun x S1 => LcP (.seq x) (gNm 9) bYes (eTup (aCons (eVar 9) (aCons (eBf bTuple (aCons (eVar 8) aNil)) (aCons (eVar 5) aNil)))) (wipeE [some p.pv, some (.int i), some s.pv, some (.int s.row), some (.tup (marks s.bx)), some (.tup (marks pile)), some row.pv, some (.str row.word), some v8, x9] [9]) S1 fun xs S2 =>
        Post (leave S.length (.ls xs) S2) fun v S' => v = .ls (((row.goals s.row).map fun t => (⟨t, bx, pile⟩ : Sg)).map Sg.pv) ∧ S' = S := by
    intro bx pile v8 c x9 hv _
    refine (next_rows_spec _ row s.row).mono ?_
    rintro _ _ ⟨rfl, rfl⟩
    refine lc_each (zs := row.goals s.row) (fun t => Sg.pv ⟨t, bx, pile⟩) (by rfl) (Nat.le_trans (goals_len _ _) (by decide)) (fun t ht => ?_) ?_
    · ((repeat sizeOf_list_dec) <;> (try dsimp only))
      refine (w_tuple hv).mpr ?_
      ((repeat sizeOf_list_dec) <;> (try dsimp only))
      exact ⟨by trivial, by trivial⟩
    · rw [List.map_map]
      refine (leave_drop hS (List.cons_ne_nil _ _) ?_).mpr ⟨rfl, rfl⟩
      unfold out1
      simp only []
      rw [if_pos]
      · rfl
      exact low_ls fun x hx => by
        obtain ⟨t, _, rfl⟩ := List.mem_map.mp hx
        exact Sg.low _ _
  unfold m_come_of
  refine w_fnP rfl ?_
  ((repeat sizeOf_list_dec) <;> (try dsimp only))
  refine (rows_of_spec _ p i r hr).mono ?_
  rintro _ S1 ⟨rfl, e⟩
  obtain rfl := e.symm
  ((repeat sizeOf_list_dec) <;> (try dsimp only))
  refine (w_ix (by rfl) (atI_map a.at_)).mpr ?_
  ((repeat sizeOf_list_dec) <;> (try dsimp only))
  refine w_word.mpr ?_
  ((repeat sizeOf_list_dec) <;> (try dsimp only))
  have put1 : ∀ (b : Nat) (w : Row), b < 6 → LowS (S ++ [.lst (marks s.bx)]) := fun _ _ _ => lows_cons hS (marks_low _ _)
  cases row with
  | put b n =>
    have hb6 : b < 6 := ho.1
    have e2 : PV.str "good" = Mk.good.pv := rfl
    dsimp only [Row.word, Row.pv] at fin ⊢
    refine (w_in rfl rfl rfl).mpr ?_
    ((repeat sizeOf_list_dec) <;> (try dsimp only))
    (((rw [if_pos (by decide +kernel)]); ((repeat sizeOf_list_dec) <;> (try dsimp only))))
    rw [e2]
    refine (w_setM (by omega)).mpr ?_
    ((repeat sizeOf_list_dec) <;> (try dsimp only))
    exact fin _ _ _ _ _ (seq_last _) (fun _ z => by cases z)
  | add b c d =>
    have hb6 : b < 6 := ho.1
    have e2 : PV.str "good" = Mk.good.pv := rfl
    dsimp only [Row.word, Row.pv] at fin ⊢
    refine (w_in rfl rfl rfl).mpr ?_
    ((repeat sizeOf_list_dec) <;> (try dsimp only))
    (((rw [if_pos (by decide +kernel)]); ((repeat sizeOf_list_dec) <;> (try dsimp only))))
    rw [e2]
    refine (w_setM (by omega)).mpr ?_
    ((repeat sizeOf_list_dec) <;> (try dsimp only))
    exact fin _ _ _ _ _ (seq_last _) (fun _ z => by cases z)
  | take b c d =>
    have hb6 : b < 6 := ho.1
    have e2 : PV.str "good" = Mk.good.pv := rfl
    dsimp only [Row.word, Row.pv] at fin ⊢
    refine (w_in rfl rfl rfl).mpr ?_
    ((repeat sizeOf_list_dec) <;> (try dsimp only))
    (((rw [if_pos (by decide +kernel)]); ((repeat sizeOf_list_dec) <;> (try dsimp only))))
    rw [e2]
    refine (w_setM (by omega)).mpr ?_
    ((repeat sizeOf_list_dec) <;> (try dsimp only))
    exact fin _ _ _ _ _ (seq_last _) (fun _ z => by cases z)
  | move b c =>
    have hb6 : b < 6 := ho.1
    have hc6 : c < 6 := ho.2
    dsimp only [Row.word, Row.pv] at fin ⊢
    refine (w_in rfl rfl rfl).mpr ?_
    ((repeat sizeOf_list_dec) <;> (try dsimp only))
    (((rw [if_neg (by decide +kernel)]); ((repeat sizeOf_list_dec) <;> (try dsimp only))))
    (((rw [if_pos (by decide +kernel)]); ((repeat sizeOf_list_dec) <;> (try dsimp only))))
    refine (w_ix (by rfl) (marks_at (show c < s.bx.length by omega))).mpr ?_
    ((repeat sizeOf_list_dec) <;> (try dsimp only))
    refine (w_setM (by omega)).mpr ?_
    ((repeat sizeOf_list_dec) <;> (try dsimp only))
    exact fin _ _ _ _ _ (seq_last _) (fun _ z => by cases z)
  | push b =>
    have hb6 : b < 6 := ho
    dsimp only [Row.word, Row.pv] at fin ⊢
    refine (w_in rfl rfl rfl).mpr ?_
    ((repeat sizeOf_list_dec) <;> (try dsimp only))
    (((rw [if_neg (by decide +kernel)]); ((repeat sizeOf_list_dec) <;> (try dsimp only))))
    (((rw [if_neg (by decide +kernel)]); ((repeat sizeOf_list_dec) <;> (try dsimp only))))
    (((rw [if_pos (by decide +kernel)]); ((repeat sizeOf_list_dec) <;> (try dsimp only))))
    refine w_aStar.mpr ?_
    ((repeat sizeOf_list_dec) <;> (try dsimp only))
    refine ⟨marks s.pile, rfl, ?_⟩
    ((repeat sizeOf_list_dec) <;> (try dsimp only))
    refine (w_ix (by rfl) (marks_at (show b < s.bx.length by omega))).mpr ?_
    ((repeat sizeOf_list_dec) <;> (try dsimp only))
    refine (w_tupN (by rw [List.length_append, marks_len]; have := a.deep; show s.pile.length + 1 ≤ lim; unfold lim; omega)).mpr ?_
    ((repeat sizeOf_list_dec) <;> (try dsimp only))
    have e : marks s.pile ++ [(s.bx.getD b .loose).pv] = marks (s.pile ++ [s.bx.getD b .loose]) := by
      unfold marks
      rw [List.map_append]
      rfl
    rw [e]
    exact fin _ _ _ _ _ (seq_last _) (fun _ z => by cases z)
  | pop b =>
    have hb6 : b < 6 := ho
    dsimp only [Row.word, Row.pv] at fin ⊢
    refine (w_in rfl rfl rfl).mpr ?_
    ((repeat sizeOf_list_dec) <;> (try dsimp only))
    (((rw [if_neg (by decide +kernel)]); ((repeat sizeOf_list_dec) <;> (try dsimp only))))
    (((rw [if_neg (by decide +kernel)]); ((repeat sizeOf_list_dec) <;> (try dsimp only))))
    (((rw [if_neg (by decide +kernel)]); ((repeat sizeOf_list_dec) <;> (try dsimp only))))
    (((rw [if_pos (by decide +kernel)]); ((repeat sizeOf_list_dec) <;> (try dsimp only))))
    have hp0 : 0 < s.pile.length := by
      rcases Nat.eq_zero_or_pos s.pile.length with h0 | h0
      · have : s.brk (hof p i) (hof p) (.pop b) = if s.pile.length = 0 then some (("pile", (b : Int)) : Flt) else none := rfl
        rw [this, if_pos h0] at hb
        cases hb
      · exact h0
    refine (w_ix (by rfl) (atI_neg1 hp0)).mpr ?_
    ((repeat sizeOf_list_dec) <;> (try dsimp only))
    refine (w_setM (by omega)).mpr ?_
    ((repeat sizeOf_list_dec) <;> (try dsimp only))
    rw [cut_drop1]
    exact fin _ _ _ _ _ (seq_last _) (fun _ z => by cases z)
  | call k =>
    dsimp only [Row.word, Row.pv] at fin ⊢
    refine (w_in rfl rfl rfl).mpr ?_
    ((repeat sizeOf_list_dec) <;> (try dsimp only))
    (((rw [if_neg (by decide +kernel)]); ((repeat sizeOf_list_dec) <;> (try dsimp only))))
    (((rw [if_neg (by decide +kernel)]); ((repeat sizeOf_list_dec) <;> (try dsimp only))))
    (((rw [if_neg (by decide +kernel)]); ((repeat sizeOf_list_dec) <;> (try dsimp only))))
    (((rw [if_neg (by decide +kernel)]); ((repeat sizeOf_list_dec) <;> (try dsimp only))))
    (((rw [if_pos (by decide +kernel)]); ((repeat sizeOf_list_dec) <;> (try dsimp only))))
    obtain ⟨r2, hr2, hh2, hk2⟩ := hof_some hp (show k < p.routines.length from ho)
    refine (house_of_spec _ p k r2 _ hr2 hh2).mono ?_
    rintro _ _ ⟨rfl, rfl⟩
    ((repeat sizeOf_list_dec) <;> (try dsimp only))
    refine (behind_spec _ (put1 0 .back (by decide)) _ hk2 s.bx h6).mono ?_
    rintro _ _ ⟨rfl, rfl⟩
    ((repeat sizeOf_list_dec) <;> (try dsimp only))
    exact fin _ _ _ _ _ rfl (fun _ z => by cases z)
  | _ =>
    dsimp only [Row.word, Row.pv] at fin ⊢
    refine (w_in rfl rfl rfl).mpr ?_
    ((repeat sizeOf_list_dec) <;> (try dsimp only))
    (((rw [if_neg (by decide +kernel)]); ((repeat sizeOf_list_dec) <;> (try dsimp only))))
    (((rw [if_neg (by decide +kernel)]); ((repeat sizeOf_list_dec) <;> (try dsimp only))))
    (((rw [if_neg (by decide +kernel)]); ((repeat sizeOf_list_dec) <;> (try dsimp only))))
    (((rw [if_neg (by decide +kernel)]); ((repeat sizeOf_list_dec) <;> (try dsimp only))))
    (((rw [if_neg (by decide +kernel)]); ((repeat sizeOf_list_dec) <;> (try dsimp only))))
    exact fin _ _ _ _ _ (seq_last _) (fun _ z => by cases z)
end

/-! PureLm -/
/-! PureLm: the law's next states. -/
section
open PySem L2
def sortSetR (x : PV) (S : Store) : R PV := match (lstOf S x).bind toInts with
  | some ns => if ns.length < 60 then .ok (.ls ((setI ns).map .int)) S else .bad
  | none => .bad
theorem w_sortSet {m : XE} {env : LW.Env} {S : Store} {Q : PV → Store → Prop} : Post (eSortSet m env S) Q ↔ Post (m env S) fun x S => Post (sortSetR x S) Q := by
  unfold eSortSet
  rw [Post.bind]
  exact Iff.rfl
theorem w_get2L {o k d : XE} {env : LW.Env} {S : Store} {Q : PV → Store → Prop} {ov : PV} (ho : Post (o env S) fun x S' => x = ov ∧ S' = S) {ks : List Str} {vs : List PV} (hd : dksOf S ov = some (ks, vs)) {q : Str} (hk : Post (k env S) fun x S' => x = .str q ∧ S' = S) {dv : PV} (hv : Post (d env S) fun x S' => x = dv ∧ S' = S) (h : Q ((lookS ks vs q).getD dv) S) : Post (eGet2 o k d env S) Q := by
  unfold eGet2
  refine Post.bind.mpr (ho.mono ?_)
  rintro _ _ ⟨rfl, rfl⟩
  rw [hd]
  simp only
  refine Post.bind.mpr (hk.mono ?_)
  rintro _ S1 ⟨rfl, e⟩
  obtain rfl := e.symm
  refine Post.bind.mpr (hv.mono ?_)
  rintro _ S1 ⟨rfl, e⟩
  obtain rfl := e.symm
  rw [hd]
  exact Post.ok.mpr h
def Row.lastI : Row → Int
  | .put _ n => n
  | .move _ b => b
  | .add _ _ c => c
  | .take _ _ c => c
  | .push b => b
  | .pop b => b
  | .say b => b
  | .zero _ t => t
  | .go t => t
  | .call r => r
  | .back => 0
theorem w_last {row : Row} (h : row ≠ .back) {S : Store} {Q : PV → Store → Prop} : Post (oIx row.pv (.int (-1)) S) Q ↔ Q (.int row.lastI) S := by
  cases row <;> first | exact absurd rfl h | exact w_ix (xs := _ :: _) rfl rfl
def goalsL (row : Row) (n : Nat) : PV := match row with
  | .go t => .ls [.int t]
  | .zero _ t => .ls ((setI [((n : Int) + 1), (t : Int)]).map .int)
  | _ => .ls [.int ((n : Int) + 1)]
theorem goalsL_eq {row : Row} (h : row ≠ .back) (n : Nat) : goalsL row n = .ls (ivs (row.goals n)) := by
  cases row with
  | back => exact absurd rfl h
  | zero b t => show PV.ls _ = _; rw [goals_zero b]
  | _ => rfl
theorem look_go (row : Row) (hb : row ≠ .back) (n : Nat) : (lookS ["go", "zero"] [.ls [.int row.lastI], .ls ((setI [((n : Int) + 1), row.lastI]).map .int)] row.word).getD (.ls [.int ((n : Int) + 1)]) = goalsL row n := by
  cases row <;> first | exact absurd rfl hb | rfl
theorem marks_app (xs : List Mk) (m : Mk) : marks xs ++ [m.pv] = marks (xs ++ [m]) := by
  unfold marks
  rw [List.map_append]
  rfl
abbrev goalsE : XE := eGet2 (eDc ["go", "zero"] (aCons (eLs (aCons (eOp oIx (eVar 6) (eUn oNeg (eC (.int 1)))) (aNil))) (aCons (eSortSet (eLs (aCons (eOp oAdd (eVar 3) (eC (.int 1))) (aCons (eOp oIx (eVar 6) (eUn oNeg (eC (.int 1)))) (aNil))))) (aNil)))) (eOp oIx (eVar 6) (eC (.int 0))) (eLs (aCons (eOp oAdd (eVar 3) (eC (.int 1))) (aNil)))
theorem drop_goals {S more : Store} (hS : LowS S) (hm : more ≠ []) (row : Row) (n : Nat) (bx pile : List Mk) : Post (leave S.length (.ls ((row.goals n).map fun t => Sg.pv ⟨t, bx, pile⟩)) (S ++ more)) fun v S' => v = .ls (((row.goals n).map fun t => (⟨t, bx, pile⟩ : Sg)).map Sg.pv) ∧ S' = S := by
  rw [List.map_map]
  refine (leave_drop hS hm ?_).mpr ⟨rfl, rfl⟩
  unfold out1
  simp only []
  rw [if_pos]
  · rfl
  exact low_ls fun x hx => by
    obtain ⟨t, _, rfl⟩ := List.mem_map.mp hx
    exact Sg.low _ _
theorem next_tail (S more : Store) (row : Row) (n : Nat) (env : LW.Env) (bx pile : List Mk) (l : Nat) (QS : Fl × LW.Env → Store → Prop) (hl : env.length = 13) (h3 : env[3]? = some (some (.int n))) (h4 : env[4]? = some (some (.loc l))) (h5 : env[5]? = some (some (.tup (marks pile)))) (h6 : env[6]? = some (some row.pv)) (hc : (S ++ more)[l]? = some (.lst (marks bx))) (hnb : row ≠ .back)
    (hQ : ∀ env', QS (.rt (.ls ((row.goals n).map fun t => Sg.pv ⟨t, bx, pile⟩)), env') (S ++ more)) :
    Post (goalsE env (S ++ more)) fun x S1 => Post (gNm 11 x env S1) fun env S2 => Post (sRet (eLc (iSeq (eVar 11)) (gNm 12) (bYes) (eTup (aCons (eVar 12) (aCons (eBf bTuple (aCons (eVar 4) (aNil))) (aCons (eVar 5) (aNil))))) [12]) env S2) QS := by
  have hsq : seqOf (S ++ more) (.loc l) = some (marks bx) := by
    show (match (S ++ more)[l]? with | some (.lst xs) => some xs | _ => none) = _
    rw [hc]
  refine w_get2L (ov := .dc ["go", "zero"] [.ls [.int row.lastI], .ls ((setI [((n : Int) + 1), row.lastI]).map .int)]) (ks := ["go", "zero"]) (vs := [.ls [.int row.lastI], .ls ((setI [((n : Int) + 1), row.lastI]).map .int)]) (q := row.word) (dv := .ls [.int ((n : Int) + 1)]) ?_ rfl ?_ ?_ ?_
  · unfold eDc
    refine Post.bind.mpr ?_
    ((repeat sizeOf_list_dec) <;> (try dsimp only))
    refine (w_var h6).mpr ?_
    ((repeat sizeOf_list_dec) <;> (try dsimp only))
    refine (w_last hnb).mpr ?_
    ((repeat sizeOf_list_dec) <;> (try dsimp only))
    refine w_sortSet.mpr ?_
    ((repeat sizeOf_list_dec) <;> (try dsimp only))
    refine (w_var h3).mpr ?_
    ((repeat sizeOf_list_dec) <;> (try dsimp only))
    refine (w_var h6).mpr ?_
    ((repeat sizeOf_list_dec) <;> (try dsimp only))
    refine (w_last hnb).mpr ?_
    ((repeat sizeOf_list_dec) <;> (try dsimp only))
    refine Post.ok.mpr ?_
    ((repeat sizeOf_list_dec) <;> (try dsimp only))
    exact ⟨by trivial, by trivial⟩
  · ((repeat sizeOf_list_dec) <;> (try dsimp only))
    refine (w_var h6).mpr ?_
    ((repeat sizeOf_list_dec) <;> (try dsimp only))
    refine w_word.mpr ?_
    exact ⟨rfl, rfl⟩
  · ((repeat sizeOf_list_dec) <;> (try dsimp only))
    refine (w_var h3).mpr ?_
    ((repeat sizeOf_list_dec) <;> (try dsimp only))
    exact ⟨by trivial, by trivial⟩
  · rw [look_go row hnb, goalsL_eq hnb]
    refine w_gNm.mpr (w_ret.mpr (w_eLc.mpr (w_iSeq.mpr ((w_var (x := .ls (ivs (row.goals n))) ?_).mpr ?_))))
    · rw [List.getElem?_set_self (by rw [hl]; decide)]
    refine lc_each (zs := row.goals n) (fun t => Sg.pv ⟨t, bx, pile⟩) (by rfl) (Nat.le_trans (goals_len _ _) (by decide)) (fun t ht => ?_) (hQ _)
    have e4 : ∀ x y z, (((env.set 11 x).set 12 y).set 12 z)[4]? = some (some (.loc l)) := fun x y z => by
      rw [List.getElem?_set_ne (by decide), List.getElem?_set_ne (by decide), List.getElem?_set_ne (by decide)]
      exact h4
    have e5 : ∀ x y z, (((env.set 11 x).set 12 y).set 12 z)[5]? = some (some (.tup (marks pile))) := fun x y z => by
      rw [List.getElem?_set_ne (by decide), List.getElem?_set_ne (by decide), List.getElem?_set_ne (by decide)]
      exact h5
    have e12 : ∀ x y z, (((env.set 11 x).set 12 y).set 12 z)[12]? = some z := fun x y z => by
      rw [List.getElem?_set_self (by rw [List.length_set, List.length_set, hl]; decide)]
    refine w_tup.mpr (w_cons.mpr ((w_var (e12 _ _ _)).mpr (w_cons.mpr (w_bf.mpr (w_cons.mpr ((w_var (e4 _ _ _)).mpr (w_nil.mpr ?_)))))))
    refine (w_tuple hsq).mpr (w_cons.mpr ((w_var (e5 _ _ _)).mpr (w_nil.mpr ?_)))
    refine (w_tupK (Nat.le_of_ble_eq_true rfl)).mpr ?_
    exact ⟨rfl, rfl⟩
set_option maxHeartbeats 8000000 in
theorem nexts_spec (S : Store) (hS : LowS S) (p : Prog) (hp : p.Ok) (i : Nat) (r : Routine) (hr : p.routines[i]? = some r) (s : Sg) (row : Row) (a : s.At r row) (hb : s.brk (hof p i) (hof p) row = none) :
    Post (m_nexts [p.pv, .int i, s.pv] S) fun v S' => v = .ls ((s.nexts (hof p) row).map Sg.pv) ∧ S' = S := by
  have ho := (hp.routines r (List.mem_of_getElem? hr)).rows row (List.mem_of_getElem? a.at_)
  have h6 := a.six
  unfold m_nexts
  refine w_fnP rfl ?_
  ((repeat sizeOf_list_dec) <;> (try dsimp only))
  refine (w_ix (by rfl) (atI_map hr)).mpr ?_
  ((repeat sizeOf_list_dec) <;> (try dsimp only))
  refine (w_ix (by rfl) (atI_map a.at_)).mpr ?_
  ((repeat sizeOf_list_dec) <;> (try dsimp only))
  have e2 : PV.str "good" = Mk.good.pv := rfl
  have gl : ∀ c, (S ++ [c])[S.length]? = some c := fun c => get_last0
  cases row with
  | back =>
    dsimp only [Row.pv]
    ((repeat sizeOf_list_dec) <;> (try dsimp only))
    (((rw [if_pos (by decide +kernel)]); ((repeat sizeOf_list_dec) <;> (try dsimp only))))
    refine (leave_drop hS (List.cons_ne_nil _ _) rfl).mpr ⟨rfl, rfl⟩
  | call k =>
    obtain ⟨r3, hr3, hh3, hk3⟩ := hof_some hp (show k < p.routines.length from ho)
    dsimp only [Row.pv]
    ((repeat sizeOf_list_dec) <;> (try dsimp only))
    (((rw [if_neg (by decide +kernel)]); ((repeat sizeOf_list_dec) <;> (try dsimp only))))
    (((rw [if_pos (by decide +kernel)]); ((repeat sizeOf_list_dec) <;> (try dsimp only))))
    refine (w_ix (by rfl) (atI_map hr3)).mpr ?_
    ((repeat sizeOf_list_dec) <;> (try dsimp only))
    refine (w_ix (by rfl) (atI_map hh3)).mpr ?_
    ((repeat sizeOf_list_dec) <;> (try dsimp only))
    refine lc_each (zs := List.range 6) (fun b => (if (hof p k).kept.contains b = true then s.bx.getD b .loose else Mk.loose).pv) (by rfl) (by decide) (fun b hb => ?_) ?_
    · have hb6 : b < 6 := List.mem_range.mp hb
      ((repeat sizeOf_list_dec) <;> (try dsimp only))
      refine (w_in (xs := ivs (hof p k).kept) rfl rfl (flat_ivs _)).mpr ?_
      rw [inSeq_ivs]
      ((repeat sizeOf_list_dec) <;> (try dsimp only))
      cases hq : (hof p k).kept.contains b with
      | true =>
        ((repeat sizeOf_list_dec) <;> (try dsimp only))
        refine (w_ix (seq_last _) (marks_at (show b < s.bx.length by omega))).mpr ?_
        exact ⟨rfl, by trivial⟩
      | false =>
        ((repeat sizeOf_list_dec) <;> (try dsimp only))
        exact ⟨rfl, by trivial⟩
    · ((repeat sizeOf_list_dec) <;> (try dsimp only))
      rw [e2]
      have e3 : (List.range 6).map (fun b => (if (hof p k).kept.contains b = true then s.bx.getD b .loose else Mk.loose).pv) = marks ((List.range 6).map fun b => if (hof p k).kept.contains b = true then s.bx.getD b .loose else .loose) := by
        unfold marks
        rw [List.map_map]
        rfl
      rw [e3]
      refine (w_setM (S := S ++ [.lst (marks s.bx)]) (xs := (List.range 6).map fun b => if (hof p k).kept.contains b = true then s.bx.getD b .loose else .loose) (by rw [List.length_map, List.length_range]; exact hk3.out)).mpr ?_
      rw [List.append_assoc]
      refine w_seq.mpr (w_asg.mpr ?_)
      refine next_tail S _ (.call k) s.row _ (behind (hof p k) s.bx) s.pile _ _ rfl rfl rfl rfl rfl ?_ (fun z => by cases z) (fun _ => drop_goals hS (List.cons_ne_nil _ _) _ _ _ _)
      rw [← List.append_assoc]
      exact get_last0
  | push b =>
    have hb6 : b < 6 := ho
    dsimp only [Row.pv]
    ((repeat sizeOf_list_dec) <;> (try dsimp only))
    (((rw [if_neg (by decide +kernel)]); ((repeat sizeOf_list_dec) <;> (try dsimp only))))
    (((rw [if_neg (by decide +kernel)]); ((repeat sizeOf_list_dec) <;> (try dsimp only))))
    (((rw [if_pos (by decide +kernel)]); ((repeat sizeOf_list_dec) <;> (try dsimp only))))
    refine (w_ix (seq_last _) (marks_at (show b < s.bx.length by omega))).mpr ?_
    ((repeat sizeOf_list_dec) <;> (try dsimp only))
    refine (w_addT (by rw [marks_len]; have := a.deep; show s.pile.length + 1 ≤ lim; unfold lim; omega)).mpr ?_
    rw [marks_app]
    ((repeat sizeOf_list_dec) <;> (try dsimp only))
    exact next_tail S _ (.push b) s.row _ _ _ _ _ rfl rfl rfl rfl rfl (gl _) (fun z => by cases z) (fun _ => drop_goals hS (List.cons_ne_nil _ _) _ _ _ _)
  | pop b =>
    have hb6 : b < 6 := ho
    have hp0 : 0 < s.pile.length := by
      rcases Nat.eq_zero_or_pos s.pile.length with h0 | h0
      · have : s.brk (hof p i) (hof p) (.pop b) = if s.pile.length = 0 then some (("pile", (b : Int)) : Flt) else none := rfl
        rw [this, if_pos h0] at hb
        cases hb
      · exact h0
    dsimp only [Row.pv]
    ((repeat sizeOf_list_dec) <;> (try dsimp only))
    (((rw [if_neg (by decide +kernel)]); ((repeat sizeOf_list_dec) <;> (try dsimp only))))
    (((rw [if_neg (by decide +kernel)]); ((repeat sizeOf_list_dec) <;> (try dsimp only))))
    (((rw [if_neg (by decide +kernel)]); ((repeat sizeOf_list_dec) <;> (try dsimp only))))
    (((rw [if_pos (by decide +kernel)]); ((repeat sizeOf_list_dec) <;> (try dsimp only))))
    refine (w_ix (by rfl) (atI_neg1 hp0)).mpr ?_
    ((repeat sizeOf_list_dec) <;> (try dsimp only))
    refine (w_setM (by omega)).mpr ?_
    ((repeat sizeOf_list_dec) <;> (try dsimp only))
    rw [cut_drop1]
    exact next_tail S _ (.pop b) s.row _ _ _ _ _ rfl rfl rfl rfl rfl (gl _) (fun z => by cases z) (fun _ => drop_goals hS (List.cons_ne_nil _ _) _ _ _ _)
  | put b n =>
    have hb6 : b < 6 := ho.1
    dsimp only [Row.pv]
    ((repeat sizeOf_list_dec) <;> (try dsimp only))
    (((rw [if_neg (by decide +kernel)]); ((repeat sizeOf_list_dec) <;> (try dsimp only))))
    (((rw [if_neg (by decide +kernel)]); ((repeat sizeOf_list_dec) <;> (try dsimp only))))
    (((rw [if_neg (by decide +kernel)]); ((repeat sizeOf_list_dec) <;> (try dsimp only))))
    (((rw [if_neg (by decide +kernel)]); ((repeat sizeOf_list_dec) <;> (try dsimp only))))
    refine (w_in rfl rfl rfl).mpr ?_
    ((repeat sizeOf_list_dec) <;> (try dsimp only))
    (((rw [if_pos (by decide +kernel)]); ((repeat sizeOf_list_dec) <;> (try dsimp only))))
    (((rw [if_neg (by decide +kernel)]); ((repeat sizeOf_list_dec) <;> (try dsimp only))))
    rw [e2]
    refine (w_setM (by omega)).mpr ?_
    ((repeat sizeOf_list_dec) <;> (try dsimp only))
    exact next_tail S _ (.put b n) s.row _ _ _ _ _ rfl rfl rfl rfl rfl (gl _) (fun z => by cases z) (fun _ => drop_goals hS (List.cons_ne_nil _ _) _ _ _ _)
  | add b c d =>
    have hb6 : b < 6 := ho.1
    dsimp only [Row.pv]
    ((repeat sizeOf_list_dec) <;> (try dsimp only))
    (((rw [if_neg (by decide +kernel)]); ((repeat sizeOf_list_dec) <;> (try dsimp only))))
    (((rw [if_neg (by decide +kernel)]); ((repeat sizeOf_list_dec) <;> (try dsimp only))))
    (((rw [if_neg (by decide +kernel)]); ((repeat sizeOf_list_dec) <;> (try dsimp only))))
    (((rw [if_neg (by decide +kernel)]); ((repeat sizeOf_list_dec) <;> (try dsimp only))))
    refine (w_in rfl rfl rfl).mpr ?_
    ((repeat sizeOf_list_dec) <;> (try dsimp only))
    (((rw [if_pos (by decide +kernel)]); ((repeat sizeOf_list_dec) <;> (try dsimp only))))
    (((rw [if_neg (by decide +kernel)]); ((repeat sizeOf_list_dec) <;> (try dsimp only))))
    rw [e2]
    refine (w_setM (by omega)).mpr ?_
    ((repeat sizeOf_list_dec) <;> (try dsimp only))
    exact next_tail S _ (.add b c d) s.row _ _ _ _ _ rfl rfl rfl rfl rfl (gl _) (fun z => by cases z) (fun _ => drop_goals hS (List.cons_ne_nil _ _) _ _ _ _)
  | take b c d =>
    have hb6 : b < 6 := ho.1
    dsimp only [Row.pv]
    ((repeat sizeOf_list_dec) <;> (try dsimp only))
    (((rw [if_neg (by decide +kernel)]); ((repeat sizeOf_list_dec) <;> (try dsimp only))))
    (((rw [if_neg (by decide +kernel)]); ((repeat sizeOf_list_dec) <;> (try dsimp only))))
    (((rw [if_neg (by decide +kernel)]); ((repeat sizeOf_list_dec) <;> (try dsimp only))))
    (((rw [if_neg (by decide +kernel)]); ((repeat sizeOf_list_dec) <;> (try dsimp only))))
    refine (w_in rfl rfl rfl).mpr ?_
    ((repeat sizeOf_list_dec) <;> (try dsimp only))
    (((rw [if_pos (by decide +kernel)]); ((repeat sizeOf_list_dec) <;> (try dsimp only))))
    (((rw [if_neg (by decide +kernel)]); ((repeat sizeOf_list_dec) <;> (try dsimp only))))
    rw [e2]
    refine (w_setM (by omega)).mpr ?_
    ((repeat sizeOf_list_dec) <;> (try dsimp only))
    exact next_tail S _ (.take b c d) s.row _ _ _ _ _ rfl rfl rfl rfl rfl (gl _) (fun z => by cases z) (fun _ => drop_goals hS (List.cons_ne_nil _ _) _ _ _ _)
  | move b c =>
    have hb6 : b < 6 := ho.1
    have hc6 : c < 6 := ho.2
    dsimp only [Row.pv]
    ((repeat sizeOf_list_dec) <;> (try dsimp only))
    (((rw [if_neg (by decide +kernel)]); ((repeat sizeOf_list_dec) <;> (try dsimp only))))
    (((rw [if_neg (by decide +kernel)]); ((repeat sizeOf_list_dec) <;> (try dsimp only))))
    (((rw [if_neg (by decide +kernel)]); ((repeat sizeOf_list_dec) <;> (try dsimp only))))
    (((rw [if_neg (by decide +kernel)]); ((repeat sizeOf_list_dec) <;> (try dsimp only))))
    refine (w_in rfl rfl rfl).mpr ?_
    ((repeat sizeOf_list_dec) <;> (try dsimp only))
    (((rw [if_pos (by decide +kernel)]); ((repeat sizeOf_list_dec) <;> (try dsimp only))))
    (((rw [if_pos (by decide +kernel)]); ((repeat sizeOf_list_dec) <;> (try dsimp only))))
    refine (w_ix (seq_last _) (marks_at (show c < s.bx.length by omega))).mpr ?_
    ((repeat sizeOf_list_dec) <;> (try dsimp only))
    refine (w_setM (by omega)).mpr ?_
    ((repeat sizeOf_list_dec) <;> (try dsimp only))
    exact next_tail S _ (.move b c) s.row _ _ _ _ _ rfl rfl rfl rfl rfl (gl _) (fun z => by cases z) (fun _ => drop_goals hS (List.cons_ne_nil _ _) _ _ _ _)
  | _ =>
    dsimp only [Row.pv]
    ((repeat sizeOf_list_dec) <;> (try dsimp only))
    (((rw [if_neg (by decide +kernel)]); ((repeat sizeOf_list_dec) <;> (try dsimp only))))
    (((rw [if_neg (by decide +kernel)]); ((repeat sizeOf_list_dec) <;> (try dsimp only))))
    (((rw [if_neg (by decide +kernel)]); ((repeat sizeOf_list_dec) <;> (try dsimp only))))
    (((rw [if_neg (by decide +kernel)]); ((repeat sizeOf_list_dec) <;> (try dsimp only))))
    refine (w_in rfl rfl rfl).mpr ?_
    ((repeat sizeOf_list_dec) <;> (try dsimp only))
    (((rw [if_neg (by decide +kernel)]); ((repeat sizeOf_list_dec) <;> (try dsimp only))))
    exact next_tail S _ _ s.row _ _ _ _ _ rfl rfl rfl rfl rfl (gl _) (fun z => by cases z) (fun _ => drop_goals hS (List.cons_ne_nil _ _) _ _ _ _)
end

/-! PureLk -/
/-! PureLk: the law's look at one state. -/
section
open PySem L2
theorem range6 {S : Store} : (LW.It.rng 0 (Int.toNat 6)).items S = some (ivs (List.range 6)) := rfl
theorem first_law_spec (S : Store) (p : Prog) (hp : p.Ok) (i : Nat) (r : Routine) (hr : p.routines[i]? = some r) (f : Mk → Bool) : Post (m_first [p.pv, .int i] S) fun v S' => v = .tup [.int 0, .tup (marks ((List.range 6).map fun b => if (hof p i).kept.contains b = true then fig b else if (hof p i).ins.contains b = true then .good else .loose)), .tup []] ∧ S' = S := by
  obtain ⟨r2, hr2, hh, hk⟩ := hof_some hp (List.getElem?_eq_some_iff.mp hr).1
  rw [hr] at hr2
  obtain rfl := Option.some.inj hr2
  generalize hof p i = h at hh hk ⊢
  unfold m_first
  refine w_fnP rfl ?_
  ((repeat sizeOf_list_dec) <;> (try dsimp only))
  refine (w_ix (by rfl) (atI_map hr)).mpr ?_
  ((repeat sizeOf_list_dec) <;> (try dsimp only))
  refine (w_ix (by rfl) (atI_map hh)).mpr ?_
  ((repeat sizeOf_list_dec) <;> (try dsimp only))
  refine lc_each (zs := List.range 6) (fun b => (if h.kept.contains b = true then fig b else if h.ins.contains b = true then Mk.good else .loose).pv) range6 (Nat.le_of_ble_eq_true rfl) (fun b hb => ?_) ?_
  · have hb6 : b < 6 := List.mem_range.mp hb
    ((repeat sizeOf_list_dec) <;> (try dsimp only))
    refine (w_in (xs := ivs h.ins) rfl rfl (flat_ivs _)).mpr ?_
    rw [inSeq_ivs]
    ((repeat sizeOf_list_dec) <;> (try dsimp only))
    cases hi : h.ins.contains b with
    | true =>
      have hkc : h.kept.contains b = false := by
        cases hq : h.kept.contains b with
        | false => rfl
        | true => exact absurd (List.contains_iff_mem.mp hi) (hk.apart b (List.contains_iff_mem.mp hq)).1
      rw [hkc]
      ((repeat sizeOf_list_dec) <;> (try dsimp only))
      exact ⟨rfl, by trivial⟩
    | false =>
      ((repeat sizeOf_list_dec) <;> (try dsimp only))
      refine (w_in (xs := ivs h.kept) rfl rfl (flat_ivs _)).mpr ?_
      rw [inSeq_ivs]
      ((repeat sizeOf_list_dec) <;> (try dsimp only))
      cases hq : h.kept.contains b with
      | true =>
        ((repeat sizeOf_list_dec) <;> (try dsimp only))
        refine (w_strN hb6).mpr ?_
        exact ⟨rfl, by trivial⟩
      | false =>
        ((repeat sizeOf_list_dec) <;> (try dsimp only))
        exact ⟨rfl, by trivial⟩
  · ((repeat sizeOf_list_dec) <;> (try dsimp only))
    refine (leave_same rfl).mpr ⟨?_, rfl⟩
    unfold marks
    rw [List.map_map]
    rfl
/-- the first that is not good -/
theorem unfit_filter (bx : List Mk) : ∀ ws, unfit bx false ws = match ws.filter fun b => !decide (bx.getD b .loose = .good) with
    | [] => none
    | b :: _ => some (if bx.getD b .loose = .loose then "loose" else "caller", (b : Int))
  | [] => rfl
  | b :: r => by
    have ih := unfit_filter bx r
    unfold unfit
    rw [List.filter_cons]
    by_cases h1 : bx.getD b .loose = .loose
    · rw [if_pos h1, if_pos (by rw [h1]; rfl)]
      simp only
      rw [if_pos h1]
    · rw [if_neg h1]
      by_cases h2 : bx.getD b .loose = .good
      · rw [if_neg (fun z => z.1 h2), if_neg (by rw [h2]; decide), ih]
      · rw [if_pos ⟨h2, rfl⟩, if_pos (by rw [decide_eq_false h2]; rfl)]
        simp only
        rw [if_neg h1]
theorem not_good_spec (S : Store) (bx : List Mk) (h6 : bx.length = 6) (ws : List Nat) (hw : ∀ b ∈ ws, b < 6) (hl : ws.length ≤ 1000) (v : PV) (hv : seqOf S v = some (ivs ws)) :
    Post (m_not_good [.tup (marks bx), v] S) fun v S' => v = optF (unfit bx false ws) ∧ S' = S := by
  have e1 : PV.str "loose" = Mk.loose.pv := rfl
  have e2 : PV.str "good" = Mk.good.pv := rfl
  unfold m_not_good
  refine w_fnP rfl ?_
  ((repeat sizeOf_list_dec) <;> (try dsimp only))
  refine lc_keep (zs := ws) hv hl (by show 3 < 4; decide) (fun b => !decide (bx.getD b .loose = .good)) (fun b hb => ?_) ?_
  · ((repeat sizeOf_list_dec) <;> (try dsimp only))
    refine (w_ix (by rfl) (marks_at (show b < bx.length by have := hw b hb; omega))).mpr ?_
    ((repeat sizeOf_list_dec) <;> (try dsimp only))
    rw [e2]
    refine w_neM.mpr ?_
    ((repeat sizeOf_list_dec) <;> (try dsimp only))
    exact ⟨by trivial, by trivial⟩
  · rw [unfit_filter]
    have hsub : ∀ b ∈ ws.filter (fun b => !decide (bx.getD b .loose = .good)), b < 6 := fun b hb => hw b (List.mem_filter.mp hb).1
    generalize ws.filter (fun b => !decide (bx.getD b .loose = .good)) = fs at hsub ⊢
    ((repeat sizeOf_list_dec) <;> (try dsimp only))
    refine (w_neE' (plain_ivs _ _)).mpr ?_
    ((repeat sizeOf_list_dec) <;> (try dsimp only))
    cases fs with
    | nil =>
      rw [show (!(ivs []).isEmpty) = false from rfl]
      ((repeat sizeOf_list_dec) <;> (try dsimp only))
      exact (leave_same rfl).mpr ⟨rfl, rfl⟩
    | cons b l =>
      have hb := hsub b List.mem_cons_self
      rw [show (!(ivs (b :: l)).isEmpty) = true from rfl]
      ((repeat sizeOf_list_dec) <;> (try dsimp only))
      refine (w_ix (by rfl) (marks_at (show b < bx.length by omega))).mpr ?_
      ((repeat sizeOf_list_dec) <;> (try dsimp only))
      rw [e1]
      refine w_eqM.mpr ?_
      ((repeat sizeOf_list_dec) <;> (try dsimp only))
      by_cases h1 : bx.getD b .loose = .loose
      · rw [decide_eq_true h1, if_pos h1]
        refine (w_ix (xs := [.str "caller", .str "loose"]) (y := .str "loose") rfl rfl).mpr ?_
        ((repeat sizeOf_list_dec) <;> (try dsimp only))
        exact (leave_same rfl).mpr ⟨rfl, rfl⟩
      · rw [decide_eq_false h1, if_neg h1]
        refine (w_ix (xs := [.str "caller", .str "loose"]) (y := .str "caller") rfl rfl).mpr ?_
        ((repeat sizeOf_list_dec) <;> (try dsimp only))
        exact (leave_same rfl).mpr ⟨rfl, rfl⟩
theorem lost_filter (bx : List Mk) : ∀ ws, lostK bx ws = match ws.filter fun b => !decide (bx.getD b .loose = fig b) with
    | [] => none
    | b :: _ => some ("kept", (b : Int))
  | [] => rfl
  | b :: r => by
    have ih := lost_filter bx r
    unfold lostK
    rw [List.filter_cons]
    by_cases h1 : bx.getD b .loose = fig b
    · rw [if_pos h1, if_neg (by rw [decide_eq_true h1]; decide), ih]
    · rw [if_neg h1, if_pos (by rw [decide_eq_false h1]; rfl)]
theorem unfit_carry (bx : List Mk) (b : Nat) : unfit bx true [b] = if bx.getD b .loose = .loose then some (("loose", (b : Int)) : Flt) else none := by
  unfold unfit
  split
  · rfl
  · rw [if_neg (fun z => by cases z.2)]
    rfl
set_option maxHeartbeats 8000000 in
theorem breaks_spec (S : Store) (p : Prog) (hp : p.Ok) (i : Nat) (r : Routine) (hr : p.routines[i]? = some r) (s : Sg) (row : Row) (a : s.At r row) :
    Post (m_breaks [p.pv, .int i, s.pv] S) fun v S' => v = optF (s.brk (hof p i) (hof p) row) ∧ S' = S := by
  obtain ⟨r2, hr2, hh, hk⟩ := hof_some hp (List.getElem?_eq_some_iff.mp hr).1
  rw [hr] at hr2
  obtain rfl := Option.some.inj hr2
  have ho := (hp.routines r (List.mem_of_getElem? hr)).rows row (List.mem_of_getElem? a.at_)
  have h6 := a.six
  have hd8 := a.deep
  have e1 : PV.str "loose" = Mk.loose.pv := rfl
  unfold m_breaks
  refine w_fnP rfl ?_
  ((repeat sizeOf_list_dec) <;> (try dsimp only))
  refine (w_ix (by rfl) (atI_map hr)).mpr ?_
  ((repeat sizeOf_list_dec) <;> (try dsimp only))
  refine (w_ix (by rfl) (atI_map a.at_)).mpr ?_
  have use : ∀ (ws : List Nat) (v : PV) (P : PV → Store → Prop), (∀ b ∈ ws, b < 6) → ws.length ≤ 1000 → seqOf S v = some (ivs ws) → P (optF (unfit s.bx false ws)) S → Post (m_not_good [.tup (marks s.bx), v] S) P := fun ws v P h1 h2 h3 h4 => (not_good_spec S s.bx h6 ws h1 h2 v h3).mono (by rintro _ _ ⟨rfl, rfl⟩; exact h4)
  have one : ∀ {b : Nat}, b < 6 → ∀ x ∈ [b], x < 6 := fun hb x hx => by rw [List.mem_singleton.mp hx]; exact hb
  cases row with
  | add b c d =>
    dsimp only [Row.pv]
    ((repeat sizeOf_list_dec) <;> (try dsimp only))
    refine (w_in rfl rfl rfl).mpr ?_
    ((repeat sizeOf_list_dec) <;> (try dsimp only))
    (((rw [if_pos (by decide +kernel)]); ((repeat sizeOf_list_dec) <;> (try dsimp only))))
    refine use [c, d] _ _ (fun x hx => ?_) (Nat.le_of_ble_eq_true rfl) rfl ?_
    · rcases List.mem_cons.mp hx with rfl | hx
      · exact ho.2.1
      · rw [List.mem_singleton.mp hx]; exact ho.2.2
    · ((repeat sizeOf_list_dec) <;> (try dsimp only))
      refine (leave_same rfl).mpr ⟨?_, rfl⟩
      show optF (unfit s.bx false [c, d]) = optF (match unfit s.bx false [c, d] with | some f => some f | none => none)
      cases unfit s.bx false [c, d] <;> rfl
  | take b c d =>
    dsimp only [Row.pv]
    ((repeat sizeOf_list_dec) <;> (try dsimp only))
    refine (w_in rfl rfl rfl).mpr ?_
    ((repeat sizeOf_list_dec) <;> (try dsimp only))
    (((rw [if_pos (by decide +kernel)]); ((repeat sizeOf_list_dec) <;> (try dsimp only))))
    refine use [c, d] _ _ (fun x hx => ?_) (Nat.le_of_ble_eq_true rfl) rfl ?_
    · rcases List.mem_cons.mp hx with rfl | hx
      · exact ho.2.1
      · rw [List.mem_singleton.mp hx]; exact ho.2.2
    · ((repeat sizeOf_list_dec) <;> (try dsimp only))
      refine (leave_same rfl).mpr ⟨?_, rfl⟩
      show optF (unfit s.bx false [c, d]) = optF (match unfit s.bx false [c, d] with | some f => some f | none => none)
      cases unfit s.bx false [c, d] <;> rfl
  | say b =>
    dsimp only [Row.pv]
    ((repeat sizeOf_list_dec) <;> (try dsimp only))
    refine (w_in rfl rfl rfl).mpr ?_
    ((repeat sizeOf_list_dec) <;> (try dsimp only))
    (((rw [if_neg (by decide +kernel)]); ((repeat sizeOf_list_dec) <;> (try dsimp only))))
    refine (w_in rfl rfl rfl).mpr ?_
    ((repeat sizeOf_list_dec) <;> (try dsimp only))
    (((rw [if_pos (by decide +kernel)]); ((repeat sizeOf_list_dec) <;> (try dsimp only))))
    refine use [b] _ _ (one ho) (Nat.le_of_ble_eq_true rfl) rfl ?_
    ((repeat sizeOf_list_dec) <;> (try dsimp only))
    refine (leave_same rfl).mpr ⟨?_, rfl⟩
    show optF (unfit s.bx false [b]) = optF (match unfit s.bx false [b] with | some f => some f | none => none)
    cases unfit s.bx false [b] <;> rfl
  | zero b t =>
    dsimp only [Row.pv]
    ((repeat sizeOf_list_dec) <;> (try dsimp only))
    refine (w_in rfl rfl rfl).mpr ?_
    ((repeat sizeOf_list_dec) <;> (try dsimp only))
    (((rw [if_neg (by decide +kernel)]); ((repeat sizeOf_list_dec) <;> (try dsimp only))))
    refine (w_in rfl rfl rfl).mpr ?_
    ((repeat sizeOf_list_dec) <;> (try dsimp only))
    (((rw [if_pos (by decide +kernel)]); ((repeat sizeOf_list_dec) <;> (try dsimp only))))
    refine use [b] _ _ (one ho.1) (Nat.le_of_ble_eq_true rfl) rfl ?_
    ((repeat sizeOf_list_dec) <;> (try dsimp only))
    refine (leave_same rfl).mpr ⟨?_, rfl⟩
    show optF (unfit s.bx false [b]) = optF (match unfit s.bx false [b] with | some f => some f | none => none)
    cases unfit s.bx false [b] <;> rfl
  | call k =>
    obtain ⟨r3, hr3, hh3, hk3⟩ := hof_some hp (show k < p.routines.length from ho)
    dsimp only [Row.pv]
    ((repeat sizeOf_list_dec) <;> (try dsimp only))
    refine (w_in rfl rfl rfl).mpr ?_
    ((repeat sizeOf_list_dec) <;> (try dsimp only))
    (((rw [if_neg (by decide +kernel)]); ((repeat sizeOf_list_dec) <;> (try dsimp only))))
    refine (w_in rfl rfl rfl).mpr ?_
    ((repeat sizeOf_list_dec) <;> (try dsimp only))
    (((rw [if_neg (by decide +kernel)]); ((repeat sizeOf_list_dec) <;> (try dsimp only))))
    (((rw [if_pos (by decide +kernel)]); ((repeat sizeOf_list_dec) <;> (try dsimp only))))
    refine (w_ix (by rfl) (atI_map hr3)).mpr ?_
    ((repeat sizeOf_list_dec) <;> (try dsimp only))
    refine (w_ix (by rfl) (atI_map hh3)).mpr ?_
    ((repeat sizeOf_list_dec) <;> (try dsimp only))
    refine use (hof p k).ins _ _ hk3.ins.2 (by have := hk3.ins.len; omega) rfl ?_
    ((repeat sizeOf_list_dec) <;> (try dsimp only))
    refine (leave_same rfl).mpr ⟨?_, rfl⟩
    show optF (unfit s.bx false (hof p k).ins) = optF (match unfit s.bx false (hof p k).ins with | some f => some f | none => none)
    cases unfit s.bx false (hof p k).ins <;> rfl
  | move b c =>
    have hb6 : b < 6 := ho.1
    have hc6 : c < 6 := ho.2
    dsimp only [Row.pv]
    ((repeat sizeOf_list_dec) <;> (try dsimp only))
    refine (w_in rfl rfl rfl).mpr ?_
    ((repeat sizeOf_list_dec) <;> (try dsimp only))
    (((rw [if_neg (by decide +kernel)]); ((repeat sizeOf_list_dec) <;> (try dsimp only))))
    refine (w_in rfl rfl rfl).mpr ?_
    ((repeat sizeOf_list_dec) <;> (try dsimp only))
    (((rw [if_neg (by decide +kernel)]); ((repeat sizeOf_list_dec) <;> (try dsimp only))))
    (((rw [if_neg (by decide +kernel)]); ((repeat sizeOf_list_dec) <;> (try dsimp only))))
    refine (w_in rfl rfl rfl).mpr ?_
    ((repeat sizeOf_list_dec) <;> (try dsimp only))
    (((rw [if_pos (by decide +kernel)]); ((repeat sizeOf_list_dec) <;> (try dsimp only))))
    refine (w_ix (xs := [.str "move", .int b, .int c]) (y := .int c) rfl rfl).mpr ?_
    refine (w_ix (by rfl) (marks_at (show c < s.bx.length by omega))).mpr ?_
    ((repeat sizeOf_list_dec) <;> (try dsimp only))
    rw [e1]
    refine w_eqM.mpr ?_
    ((repeat sizeOf_list_dec) <;> (try dsimp only))
    have hbrk : s.brk (hof p i) (hof p) (.move b c) = if s.bx.getD c .loose = .loose then some (("loose", (c : Int)) : Flt) else none := by
      show (match unfit s.bx true [c] with | some f => some f | none => none) = _
      rw [unfit_carry]
      by_cases h1 : s.bx.getD c .loose = .loose
      · rw [if_pos h1]
      · rw [if_neg h1]
    rw [hbrk]
    by_cases h1 : s.bx.getD c .loose = .loose
    · rw [decide_eq_true h1, if_pos h1]
      ((repeat sizeOf_list_dec) <;> (try dsimp only))
      refine (w_ix (xs := [.str "move", .int b, .int c]) (y := .int c) rfl rfl).mpr ?_
      ((repeat sizeOf_list_dec) <;> (try dsimp only))
      exact (leave_same rfl).mpr ⟨rfl, rfl⟩
    · rw [decide_eq_false h1, if_neg h1]
      ((repeat sizeOf_list_dec) <;> (try dsimp only))
      (((rw [if_neg (by decide +kernel)]); ((repeat sizeOf_list_dec) <;> (try dsimp only))))
      (((rw [if_neg (by decide +kernel)]); ((repeat sizeOf_list_dec) <;> (try dsimp only))))
      (((rw [if_pos (by decide +kernel)]); ((repeat sizeOf_list_dec) <;> (try dsimp only))))
      exact (leave_same rfl).mpr ⟨rfl, rfl⟩
  | push b =>
    have hb6 : b < 6 := ho
    dsimp only [Row.pv]
    ((repeat sizeOf_list_dec) <;> (try dsimp only))
    refine (w_in rfl rfl rfl).mpr ?_
    ((repeat sizeOf_list_dec) <;> (try dsimp only))
    (((rw [if_neg (by decide +kernel)]); ((repeat sizeOf_list_dec) <;> (try dsimp only))))
    refine (w_in rfl rfl rfl).mpr ?_
    ((repeat sizeOf_list_dec) <;> (try dsimp only))
    (((rw [if_neg (by decide +kernel)]); ((repeat sizeOf_list_dec) <;> (try dsimp only))))
    (((rw [if_neg (by decide +kernel)]); ((repeat sizeOf_list_dec) <;> (try dsimp only))))
    refine (w_in rfl rfl rfl).mpr ?_
    ((repeat sizeOf_list_dec) <;> (try dsimp only))
    (((rw [if_pos (by decide +kernel)]); ((repeat sizeOf_list_dec) <;> (try dsimp only))))
    refine (w_ix (xs := [.str "push", .int b]) (y := .int b) rfl rfl).mpr ?_
    refine (w_ix (by rfl) (marks_at (show b < s.bx.length by omega))).mpr ?_
    ((repeat sizeOf_list_dec) <;> (try dsimp only))
    rw [e1]
    refine w_eqM.mpr ?_
    ((repeat sizeOf_list_dec) <;> (try dsimp only))
    have hbrk : s.brk (hof p i) (hof p) (.push b) = if s.bx.getD b .loose = .loose then some (("loose", (b : Int)) : Flt) else if s.pile.length = 8 then some ("deep", (b : Int)) else none := by
      show (match unfit s.bx true [b] with | some f => some f | none => if s.pile.length = 8 then some (("deep", (b : Int)) : Flt) else none) = _
      rw [unfit_carry]
      by_cases h1 : s.bx.getD b .loose = .loose
      · rw [if_pos h1, if_pos h1]
      · rw [if_neg h1, if_neg h1]
    rw [hbrk]
    by_cases h1 : s.bx.getD b .loose = .loose
    · rw [decide_eq_true h1, if_pos h1]
      ((repeat sizeOf_list_dec) <;> (try dsimp only))
      refine (w_ix (xs := [.str "push", .int b]) (y := .int b) rfl rfl).mpr ?_
      ((repeat sizeOf_list_dec) <;> (try dsimp only))
      exact (leave_same rfl).mpr ⟨rfl, rfl⟩
    · rw [decide_eq_false h1, if_neg h1]
      ((repeat sizeOf_list_dec) <;> (try dsimp only))
      (((rw [if_pos (by decide +kernel)]); ((repeat sizeOf_list_dec) <;> (try dsimp only))))
      rw [marks_len]
      by_cases h8 : s.pile.length = 8
      · rw [decide_eq_true (by omega), if_pos h8]
        ((repeat sizeOf_list_dec) <;> (try dsimp only))
        exact (leave_same rfl).mpr ⟨rfl, rfl⟩
      · rw [decide_eq_false (by omega), if_neg h8]
        ((repeat sizeOf_list_dec) <;> (try dsimp only))
        exact (leave_same rfl).mpr ⟨rfl, rfl⟩
  | pop b =>
    dsimp only [Row.pv]
    ((repeat sizeOf_list_dec) <;> (try dsimp only))
    refine (w_in rfl rfl rfl).mpr ?_
    ((repeat sizeOf_list_dec) <;> (try dsimp only))
    (((rw [if_neg (by decide +kernel)]); ((repeat sizeOf_list_dec) <;> (try dsimp only))))
    refine (w_in rfl rfl rfl).mpr ?_
    ((repeat sizeOf_list_dec) <;> (try dsimp only))
    (((rw [if_neg (by decide +kernel)]); ((repeat sizeOf_list_dec) <;> (try dsimp only))))
    (((rw [if_neg (by decide +kernel)]); ((repeat sizeOf_list_dec) <;> (try dsimp only))))
    refine (w_in rfl rfl rfl).mpr ?_
    ((repeat sizeOf_list_dec) <;> (try dsimp only))
    (((rw [if_neg (by decide +kernel)]); ((repeat sizeOf_list_dec) <;> (try dsimp only))))
    (((rw [if_neg (by decide +kernel)]); ((repeat sizeOf_list_dec) <;> (try dsimp only))))
    (((rw [if_pos (by decide +kernel)]); ((repeat sizeOf_list_dec) <;> (try dsimp only))))
    rw [marks_len]
    have hbrk : s.brk (hof p i) (hof p) (.pop b) = if s.pile.length = 0 then some (("pile", (b : Int)) : Flt) else none := rfl
    rw [hbrk]
    by_cases h0 : s.pile.length = 0
    · rw [show ((s.pile.length : Int) == 0) = true from by rw [h0]; rfl, if_pos h0]
      ((repeat sizeOf_list_dec) <;> (try dsimp only))
      exact (leave_same rfl).mpr ⟨rfl, rfl⟩
    · rw [show ((s.pile.length : Int) == 0) = false from by rw [beq_eq_false_iff_ne]; omega, if_neg h0]
      ((repeat sizeOf_list_dec) <;> (try dsimp only))
      exact (leave_same rfl).mpr ⟨rfl, rfl⟩
  | back =>
    dsimp only [Row.pv]
    ((repeat sizeOf_list_dec) <;> (try dsimp only))
    refine (w_in rfl rfl rfl).mpr ?_
    ((repeat sizeOf_list_dec) <;> (try dsimp only))
    (((rw [if_neg (by decide +kernel)]); ((repeat sizeOf_list_dec) <;> (try dsimp only))))
    refine (w_in rfl rfl rfl).mpr ?_
    ((repeat sizeOf_list_dec) <;> (try dsimp only))
    (((rw [if_neg (by decide +kernel)]); ((repeat sizeOf_list_dec) <;> (try dsimp only))))
    (((rw [if_neg (by decide +kernel)]); ((repeat sizeOf_list_dec) <;> (try dsimp only))))
    refine (w_in rfl rfl rfl).mpr ?_
    ((repeat sizeOf_list_dec) <;> (try dsimp only))
    (((rw [if_neg (by decide +kernel)]); ((repeat sizeOf_list_dec) <;> (try dsimp only))))
    (((rw [if_neg (by decide +kernel)]); ((repeat sizeOf_list_dec) <;> (try dsimp only))))
    (((rw [if_neg (by decide +kernel)]); ((repeat sizeOf_list_dec) <;> (try dsimp only))))
    (((rw [if_neg (by decide +kernel)]); ((repeat sizeOf_list_dec) <;> (try dsimp only))))
    rw [marks_len]
    unfold Sg.brk
    by_cases hp0 : 0 < s.pile.length
    · rw [decide_eq_true (show (0 : Int) < (s.pile.length : Int) by omega), if_pos hp0]
      ((repeat sizeOf_list_dec) <;> (try dsimp only))
      exact (leave_same rfl).mpr ⟨rfl, rfl⟩
    · rw [decide_eq_false (show ¬ (0 : Int) < (s.pile.length : Int) by omega), if_neg hp0]
      ((repeat sizeOf_list_dec) <;> (try dsimp only))
      refine (w_ix (by rfl) (atI_map hh)).mpr ?_
      ((repeat sizeOf_list_dec) <;> (try dsimp only))
      refine lc_keep (zs := (hof p i).kept) (by rfl) (by have := hk.kept.len; omega) (by show 10 < 11; decide) (fun b => !decide (s.bx.getD b .loose = fig b)) (fun b hb => ?_) ?_
      · have hb6 := hk.kept.2 b hb
        ((repeat sizeOf_list_dec) <;> (try dsimp only))
        refine (w_ix (by rfl) (marks_at (show b < s.bx.length by omega))).mpr ?_
        ((repeat sizeOf_list_dec) <;> (try dsimp only))
        refine (w_strN hb6).mpr ?_
        refine w_neM.mpr ?_
        ((repeat sizeOf_list_dec) <;> (try dsimp only))
        exact ⟨by trivial, by trivial⟩
      · rw [lost_filter]
        generalize (hof p i).kept.filter (fun b => !decide (s.bx.getD b .loose = fig b)) = fs
        ((repeat sizeOf_list_dec) <;> (try dsimp only))
        refine (w_neE' (plain_ivs _ _)).mpr ?_
        ((repeat sizeOf_list_dec) <;> (try dsimp only))
        cases fs with
        | nil =>
          rw [show (!(ivs []).isEmpty) = false from rfl]
          ((repeat sizeOf_list_dec) <;> (try dsimp only))
          refine (w_ix (by rfl) (atI_map hh)).mpr ?_
          ((repeat sizeOf_list_dec) <;> (try dsimp only))
          refine use [(hof p i).out] _ _ (one hk.out) (Nat.le_of_ble_eq_true rfl) rfl ?_
          ((repeat sizeOf_list_dec) <;> (try dsimp only))
          exact (leave_same rfl).mpr ⟨rfl, rfl⟩
        | cons b l =>
          rw [show (!(ivs (b :: l)).isEmpty) = true from rfl]
          ((repeat sizeOf_list_dec) <;> (try dsimp only))
          exact (leave_same rfl).mpr ⟨rfl, rfl⟩
  | _ =>
    dsimp only [Row.pv]
    ((repeat sizeOf_list_dec) <;> (try dsimp only))
    refine (w_in rfl rfl rfl).mpr ?_
    ((repeat sizeOf_list_dec) <;> (try dsimp only))
    (((rw [if_neg (by decide +kernel)]); ((repeat sizeOf_list_dec) <;> (try dsimp only))))
    refine (w_in rfl rfl rfl).mpr ?_
    ((repeat sizeOf_list_dec) <;> (try dsimp only))
    (((rw [if_neg (by decide +kernel)]); ((repeat sizeOf_list_dec) <;> (try dsimp only))))
    (((rw [if_neg (by decide +kernel)]); ((repeat sizeOf_list_dec) <;> (try dsimp only))))
    refine (w_in rfl rfl rfl).mpr ?_
    ((repeat sizeOf_list_dec) <;> (try dsimp only))
    (((rw [if_neg (by decide +kernel)]); ((repeat sizeOf_list_dec) <;> (try dsimp only))))
    (((rw [if_neg (by decide +kernel)]); ((repeat sizeOf_list_dec) <;> (try dsimp only))))
    (((rw [if_neg (by decide +kernel)]); ((repeat sizeOf_list_dec) <;> (try dsimp only))))
    (((rw [if_pos (by decide +kernel)]); ((repeat sizeOf_list_dec) <;> (try dsimp only))))
    exact (leave_same rfl).mpr ⟨rfl, rfl⟩
end

/-! PureLe -/
/-! PureLe: where a routine begins; the first break of a level. -/
section
open PySem L2
def Sg.first (h : House) : Sg := ⟨0, (List.range 6).map fun b => if h.kept.contains b = true then fig b else if h.ins.contains b = true then .good else .loose, []⟩
theorem first_eq (h : House) : fillM fig h.kept (fillM (fun _ => .good) h.ins (List.replicate 6 .loose)) = (Sg.first h).bx := by
  show _ = (List.range 6).map (fun b => if h.kept.contains b = true then fig b else if h.ins.contains b = true then Mk.good else Mk.loose)
  refine list6 (xs := fillM fig h.kept (fillM (fun _ => .good) h.ins (List.replicate 6 .loose))) (by rw [fill_len, fill_len]; rfl) fun b hb => ?_
  rw [fill_at _ _ _ _ (by rw [fill_len, List.length_replicate]; exact hb)]
  split
  · rfl
  · rw [fill_at _ _ _ _ (by rw [List.length_replicate]; exact hb)]
    split
    · rfl
    · rw [List.getElem?_replicate, if_pos hb]
theorem first_state_spec (S : Store) (hS : LowS S) (h : House) (hk : h.Ok) : Post (m_first_state [h.pv] S) fun v S' => v = (Sg.first h).pv ∧ S' = S := by
  unfold m_first_state
  refine w_fnP rfl ?_
  ((repeat sizeOf_list_dec) <;> (try dsimp only))
  refine (w_mulNw (n := 6) (by decide) (by decide)).mpr ?_
  rw [marks_rep]
  ((repeat sizeOf_list_dec) <;> (try dsimp only))
  refine for_go (all := ivs h.ins) (fun i env S' => ∃ x, env = [some h.pv, some (.tup (ivs h.ins)), some (.int h.out), some (.tup (ivs h.kept)), some (.loc S.length), x] ∧ S' = S ++ [.lst (marks (fillM (fun _ => .good) (h.ins.take i) (List.replicate 6 .loose)))]) (by rfl) ⟨none, rfl, rfl⟩ ?_ ?_
  · rintro i env S' x ⟨x6, rfl, rfl⟩ hx
    refine ⟨by rfl, ?_⟩
    obtain ⟨b, hh, rfl⟩ := ivs_at' hx
    have hb := hk.ins.2 b (List.mem_of_getElem? hh)
    rw [fill_step _ hh]
    have hl := fill_len (fun _ => .good) (h.ins.take i) (List.replicate 6 .loose)
    generalize fillM (fun _ => .good) (h.ins.take i) (List.replicate 6 .loose) = xs at hl ⊢
    have hl : xs.length = 6 := hl
    have e2 : PV.str "good" = Mk.good.pv := rfl
    ((repeat sizeOf_list_dec) <;> (try dsimp only))
    rw [e2]
    refine (w_setM (by omega)).mpr ?_
    ((repeat sizeOf_list_dec) <;> (try dsimp only))
    exact ⟨_, rfl, by trivial⟩
  · rintro env S' ⟨x6, rfl, rfl⟩
    rw [ivs_length, List.take_length]
    refine ⟨by rfl, ?_⟩
    ((repeat sizeOf_list_dec) <;> (try dsimp only))
    refine for_go (all := ivs h.kept) (fun i env S' => ∃ x, env = [some h.pv, some (.tup (ivs h.ins)), some (.int h.out), some (.tup (ivs h.kept)), some (.loc S.length), x] ∧ S' = S ++ [.lst (marks (fillM fig (h.kept.take i) (fillM (fun _ => .good) h.ins (List.replicate 6 .loose))))]) (by rfl) ⟨x6, rfl, rfl⟩ ?_ ?_
    · rintro i env S' x ⟨x6, rfl, rfl⟩ hx
      refine ⟨by rfl, ?_⟩
      obtain ⟨b, hh, rfl⟩ := ivs_at' hx
      have hb := hk.kept.2 b (List.mem_of_getElem? hh)
      rw [fill_step _ hh]
      have hl : (fillM fig (h.kept.take i) (fillM (fun _ => .good) h.ins (List.replicate 6 .loose))).length = 6 := by rw [fill_len, fill_len]; rfl
      generalize fillM fig (h.kept.take i) (fillM (fun _ => .good) h.ins (List.replicate 6 .loose)) = xs at hl ⊢
      ((repeat sizeOf_list_dec) <;> (try dsimp only))
      refine (w_strN hb).mpr ?_
      ((repeat sizeOf_list_dec) <;> (try dsimp only))
      refine (w_setM (by omega)).mpr ?_
      ((repeat sizeOf_list_dec) <;> (try dsimp only))
      exact ⟨_, rfl, by trivial⟩
    · rintro env S' ⟨x6, rfl, rfl⟩
      rw [ivs_length, List.take_length, first_eq]
      refine ⟨by rfl, ?_⟩
      ((repeat sizeOf_list_dec) <;> (try dsimp only))
      refine (w_tuple (seq_last _)).mpr ?_
      ((repeat sizeOf_list_dec) <;> (try dsimp only))
      refine (leave_drop hS (List.cons_ne_nil _ _) ?_).mpr ⟨rfl, rfl⟩
      unfold out1
      simp only []
      rw [if_pos]
      · rfl
      exact Sg.low _ (Sg.first h)
/-- the first state of a level that breaks -/
def brks (h : House) (hc : Nat → House) (rows : List Row) : List Sg → Option (Sg × Flt)
  | [] => none
  | s :: l => match rows[s.row]? with
    | some row => match s.brk h hc row with
      | some f => some (s, f)
      | none => brks h hc rows l
    | none => brks h hc rows l
theorem brks_cons {h : House} {hc : Nat → House} {rows : List Row} {s : Sg} {l : List Sg} {row : Row} (a : rows[s.row]? = some row) : brks h hc rows (s :: l) = match s.brk h hc row with
    | some f => some (s, f)
    | none => brks h hc rows l := by
  show (match rows[s.row]? with | some row => _ | none => _) = _
  rw [a]
def optB : Option (Sg × Flt) → PV
  | none => .non
  | some (s, f) => .tup [s.pv, .str f.1, .int f.2]
theorem first_break_spec (S : Store) (p : Prog) (hp : p.Ok) (i : Nat) (r : Routine) (hr : p.routines[i]? = some r) (l : List Sg) (hl : ∀ s ∈ l, ∃ row, s.At r row) (v : PV) (hv : seqOf S v = some (l.map Sg.pv)) :
    Post (m_first_break [p.pv, .int i, v] S) fun v S' => v = optB (brks (hof p i) (hof p) r.rows l) ∧ S' = S := by
  unfold m_first_break
  refine w_fnP rfl ?_
  ((repeat sizeOf_list_dec) <;> (try dsimp only))
  refine for_go (all := l.map Sg.pv) (fun j env S' => S' = S ∧ ∃ x3 x4 x5 x6, env = [some p.pv, some (.int i), some v, x3, x4, x5, x6] ∧ brks (hof p i) (hof p) r.rows l = brks (hof p i) (hof p) r.rows (l.drop j)) hv ⟨rfl, none, none, none, none, rfl, rfl⟩ ?_ ?_
  · rintro j env S' x ⟨rfl, x3, x4, x5, x6, rfl, hu⟩ hx
    refine ⟨hv, ?_⟩
    rw [List.getElem?_map] at hx
    cases hh : l[j]? with
    | none => rw [hh] at hx; cases hx
    | some s =>
      rw [hh] at hx
      cases hx
      obtain ⟨row, a⟩ := hl s (List.mem_of_getElem? hh)
      have hd : l.drop j = s :: l.drop (j + 1) := by
        have hlt := (List.getElem?_eq_some_iff.mp hh).1
        rw [List.drop_eq_getElem_cons hlt, (List.getElem?_eq_some_iff.mp hh).2]
      rw [hd, brks_cons a.at_] at hu
      ((repeat sizeOf_list_dec) <;> (try dsimp only))
      refine (break_of_spec _ p hp i r hr s row a).mono ?_
      rintro _ _ ⟨rfl, rfl⟩
      ((repeat sizeOf_list_dec) <;> (try dsimp only))
      refine w_notN.mpr ?_
      cases hb : s.brk (hof p i) (hof p) row with
      | some f =>
        rw [hb] at hu
        simp only [] at hu
        rw [show (optF (some f)).isNon = false from rfl]
        unfold optF
        ((repeat sizeOf_list_dec) <;> (try dsimp only))
        rw [hu]
        exact (leave_same rfl).mpr ⟨rfl, rfl⟩
      | none =>
        rw [hb] at hu
        simp only [] at hu
        rw [show (optF none).isNon = true from rfl]
        ((repeat sizeOf_list_dec) <;> (try dsimp only))
        exact ⟨by trivial, _, _, _, _, rfl, hu⟩
  · rintro env S' ⟨rfl, x3, x4, x5, x6, rfl, hu⟩
    rw [List.length_map, List.drop_length] at hu
    refine ⟨hv, ?_⟩
    ((repeat sizeOf_list_dec) <;> (try dsimp only))
    rw [hu]
    exact (leave_same rfl).mpr ⟨rfl, rfl⟩
end

/-! PureEx -/
/-! PureEx: what lets an error out; f-strings; the word of an error's class. -/
section
open PySem L2
structure PostX {α : Type} (r : R α) (E : PExc → Store → Prop) : Prop where
  told : match r with
    | .exc e S => E e S
    | _ => False
section
variable {α β : Type} {S : Store} {env : Env} {E : PExc → Store → Prop} {Q : PV → Store → Prop}
theorem PostX.exc {e : PExc} : PostX (.exc e S : R α) E ↔ E e S := ⟨fun h => h.told, fun h => ⟨h⟩⟩
theorem PostX.mono {r : R α} {E' : PExc → Store → Prop} (h : PostX r E) (m : ∀ e S, E e S → E' e S) : PostX r E' := by
  cases r with
  | ok a S => exact h.told.elim
  | exc e S => exact ⟨m e S h.told⟩
  | bad => exact h.told.elim
/-! f-strings whose text nobody asks for -/
end
end

/-! PureLg -/
/-! PureLg: dicts by states; while; the next level. -/
section
open PySem L2
section
variable {S : Store} {env : Env} {Q : PV → Store → Prop} {x y : PV} {ks vs : List PV} {l : Nat}
theorem dn_at (h : S[l]? = some (.dkn ks vs)) : dnOf S (.loc l) = some (ks, vs) := by
  show (match S[l]? with | some (.dkn ks vs) => some (ks, vs) | _ => none) = _
  rw [h]
theorem w_notInD (h : S[l]? = some (.dkn ks vs)) (hk : isKey x = true) : Post (oNotInD x (.loc l) S) Q ↔ Q (.bl (!(lookN ks vs x).isSome)) S := by
  unfold oNotInD
  rw [dn_at h]
  simp only
  rw [if_pos hk]
  exact Post.ok
theorem w_ixD (h : S[l]? = some (.dkn ks vs)) (hk : isKey x = true) (hv : lookN ks vs x = some y) : Post (oIxD (.loc l) x S) Q ↔ Q y S := by
  unfold oIxD
  rw [dn_at h]
  simp only
  rw [if_pos hk, hv]
  exact Post.ok
theorem w_lenD (h : S[l]? = some (.dkn ks vs)) (hl : ks.length ≤ lim) : Post (bLenD [.loc l] S) Q ↔ Q (.int ks.length) S := by
  unfold bLenD
  simp only
  rw [dn_at h]
  simp only
  rw [if_pos hl]
  exact Post.ok
theorem w_eDn {k v : XE} : Post (eDn k v env S) Q ↔ Post (k env S) fun x S => Post (v env S) fun y S => Post (if isKey x = true then R.ok (PV.loc S.length) (S ++ [Cell.dkn [x] [y]]) else .bad) Q := by
  unfold eDn
  rw [Post.bind]
  simp only [Post.bind]
theorem w_dnK {k v : PV} (h : isKey k = true) : Post (if isKey k = true then R.ok (PV.loc S.length) (S ++ [Cell.dkn [k] [v]]) else .bad) Q ↔ Q (.loc S.length) (S ++ [.dkn [k] [v]]) := by rw [if_pos h]; exact Post.ok
theorem w_gSbD {o i : XE} {QE : Env → Store → Prop} : Post (gSbD o i x env S) QE ↔ Post (o env S) fun ov S => Post (i env S) fun iv S => Post (oSetD ov iv x S) fun _ S => QE env S := by unfold gSbD; rw [Post.bind]; simp only [Post.bind, Post.ok]
theorem w_setD {k : PV} {QU : Unit → Store → Prop} (h : S[l]? = some (.dkn ks vs)) (hk : isKey k = true) (hl : ks.length < lim) : Post (oSetD (.loc l) k x S) QU ↔ QU () (S.set l (.dkn (putN ks vs k x).1 (putN ks vs k x).2)) := by
  unfold oSetD
  simp only [h]
  rw [if_pos ⟨hk, hl⟩]
  exact Post.ok
/-- while: by what is left -/
theorem wh_run {c : XB} {b : XS} {QS : Fl × Env → Store → Prop} (I : Nat → Env → Store → Prop)
    (h : ∀ n env S, I n env S → Post (c env S) fun k S => if k = true then ∃ m, n = m + 1 ∧ Post (b env S) fun p S => match p.1 with
        | .nx => I m p.2 S
        | .ct => I m p.2 S
        | .bk => QS (.nx, p.2) S
        | .rt v => QS (.rt v, p.2) S
      else QS (.nx, env) S) : ∀ (f n : Nat) (env : Env) (S : Store), I n env S → n < f → Post (whGo c b f env S) QS
  | 0, _, _, _, _, hf => absurd hf (Nat.not_lt_zero _)
  | f + 1, n, env, S, hI, hf => by
    unfold whGo
    rw [Post.bind]
    refine (h n env S hI).mono fun k S1 h1 => ?_
    cases k with
    | true =>
      rw [if_pos rfl] at h1
      obtain ⟨m, rfl, h1⟩ := h1
      rw [if_pos rfl, Post.bind]
      refine h1.mono fun p S2 h2 => ?_
      obtain ⟨fl, env2⟩ := p
      cases fl with
      | nx => exact wh_run I h f m _ _ h2 (by omega)
      | ct => exact wh_run I h f m _ _ h2 (by omega)
      | bk => exact Post.ok.mpr h2
      | rt v => exact Post.ok.mpr h2
    | false =>
      rw [if_neg (by decide)] at h1
      rw [if_neg (by decide)]
      exact Post.ok.mpr h1
theorem w_while {c : XB} {b : XS} {QS : Fl × Env → Store → Prop} (I : Nat → Env → Store → Prop) (n : Nat) (hn : n < lim) (h0 : I n env S)
    (h : ∀ n env S, I n env S → Post (c env S) fun k S => if k = true then ∃ m, n = m + 1 ∧ Post (b env S) fun p S => match p.1 with
        | .nx => I m p.2 S
        | .ct => I m p.2 S
        | .bk => QS (.nx, p.2) S
        | .rt v => QS (.rt v, p.2) S
      else QS (.nx, env) S) : Post (sWhile c b env S) QS := wh_run I h lim n env S h0 hn
end
end
section
open PySem L2
def Nd.from_ (n : Nd) : PV := match n.pre with
  | none => .non
  | some s => s.pv
def keysN (l : List Nd) : List PV := l.map fun n => n.s.pv
def metC (f : Nd → PV) (l : List Nd) : Cell := .dkn (keysN l) (l.map f)
theorem keysN_len (l : List Nd) : (keysN l).length = l.length := List.length_map ..
theorem pv_eq {a b : Sg} : a.pv = b.pv ↔ a = b := ⟨Sg.inj, fun h => by rw [h]⟩
theorem lookN_some {f : Nd → PV} (s : Sg) : ∀ (l : List Nd), (lookN (keysN l) (l.map f) s.pv).isSome = l.any fun n => decide (n.s = s)
  | [] => rfl
  | n :: l => by
    have ih := lookN_some (f := f) s l
    show (if n.s.pv = s.pv then some (f n) else lookN (keysN l) (l.map f) s.pv).isSome = _
    rw [List.any_cons, ← ih]
    by_cases h : n.s = s
    · rw [if_pos (pv_eq.mpr h), decide_eq_true h]
      rfl
    · rw [if_neg (fun z => h (pv_eq.mp z)), decide_eq_false h, Bool.false_or]
theorem lookN_at {f : Nd → PV} {n : Nd} : ∀ {l : List Nd}, n ∈ l → (l.map (·.s)).Nodup → lookN (keysN l) (l.map f) n.s.pv = some (f n)
  | [], h, _ => absurd h List.not_mem_nil
  | m :: l, h, hd => by
    show (if m.s.pv = n.s.pv then some (f m) else lookN (keysN l) (l.map f) n.s.pv) = _
    rw [List.map_cons, List.nodup_cons] at hd
    rcases List.mem_cons.mp h with rfl | h
    · rw [if_pos rfl]
    · rw [if_neg (fun z => hd.1 (by rw [pv_eq.mp z]; exact List.mem_map_of_mem h))]
      exact lookN_at h hd.2
theorem put_newN {f : Nd → PV} {l : List Nd} {m : Nd} (h : (l.any fun n => decide (n.s = m.s)) = false) : Cell.dkn (putN (keysN l) (l.map f) m.s.pv (f m)).1 (putN (keysN l) (l.map f) m.s.pv (f m)).2 = metC f (l ++ [m]) := by
  unfold putN
  rw [if_neg (by rw [lookN_some, h]; decide)]
  unfold metC keysN
  rw [List.map_append, List.map_append]
  rfl
theorem metC_low {f : Nd → PV} {n : Nat} {l : List Nd} (h : ∀ m ∈ l, LW.low n (f m) = true) : Cell.low n (metC f l) = true := lows_all _ _ fun x hx => by
  obtain ⟨m, hm, rfl⟩ := List.mem_map.mp hx
  exact h m hm
theorem from_low (n : Nat) (m : Nd) : LW.low n m.from_ = true := by
  unfold Nd.from_
  split
  · rfl
  · exact Sg.low _ _
theorem LowS.one {A : Store} (hA : LowS A) {c : Cell} (hc : Cell.low (A ++ [c]).length c = true) : LowS (A ++ [c]) := by
  show (A ++ [c]).all (Cell.low (A ++ [c]).length) = true
  have hA : A.all (Cell.low A.length) = true := hA
  rw [List.all_append, Bool.and_eq_true]
  refine ⟨List.all_eq_true.mpr fun d hd => cell_mono (by rw [List.length_append]; exact Nat.le_add_right _ _) d (List.all_eq_true.mp hA d hd), ?_⟩
  rw [List.all_cons, List.all_nil, Bool.and_true]
  exact hc
theorem get_A2 {A : Store} {c d : Cell} : ((A ++ [c]) ++ [d])[A.length]? = some c := by
  rw [List.append_assoc]
  exact get_app (A := A) (B := [c, d]) (i := 0)
theorem get_A2' {A : Store} {c d : Cell} : ((A ++ [c]) ++ [d])[A.length + 1]? = some d := by
  rw [List.append_assoc]
  exact get_app (A := A) (B := [c, d]) (i := 1)
theorem set_A2 {A : Store} {c d e : Cell} : ((A ++ [c]) ++ [d]).set A.length e = (A ++ [e]) ++ [d] := by
  rw [List.append_assoc, List.append_assoc]
  exact set_app (A := A) (B := [c, d]) (i := 0)
theorem set_A2' {A : Store} {c d e : Cell} : ((A ++ [c]) ++ [d]).set (A.length + 1) e = (A ++ [c]) ++ [e] := by
  rw [List.append_assoc, List.append_assoc]
  exact set_app (A := A) (B := [c, d]) (i := 1)
set_option maxHeartbeats 4000000 in
theorem next_level_spec (A : Store) (hA : LowS A) (p : Prog) (hp : p.Ok) (i : Nat) (r : Routine) (hr : p.routines[i]? = some r) (seen level : List Nd) (hm : Seen r seen) (hsub : ∀ m ∈ level, m ∈ seen) (hf : ∀ m ∈ level, Fine r (hof p i) (hof p) m) (hs : seen.length + 2 * level.length ≤ 1000) :
    Post (m_next_level [p.pv, .int i, .ls (keysN level), .loc A.length] (A ++ [metC Nd.from_ seen])) fun v S => v = .ls (keysN (level.foldl (expand (hof p) r.rows) (seen, [])).2) ∧ S = A ++ [metC Nd.from_ (level.foldl (expand (hof p) r.rows) (seen, [])).1] := by
  have hro := hp.routines r (List.mem_of_getElem? hr)
  unfold m_next_level
  refine w_fnP rfl ?_
  ((repeat sizeOf_list_dec) <;> (try dsimp only))
  rw [len1]
  refine for_go (all := keysN level) (fun j env S => ∃ (acc : Acc) (x5 x6 : Option PV), j ≤ level.length ∧ acc = (level.take j).foldl (expand (hof p) r.rows) (seen, []) ∧ Good r acc seen ∧ acc.1.length ≤ seen.length + 2 * j ∧ S = (A ++ [metC Nd.from_ acc.1]) ++ [.lst (keysN acc.2)] ∧ env = [some p.pv, some (.int i), some (.ls (keysN level)), some (.loc A.length), some (.loc (A.length + 1)), x5, x6]) (by rfl) ⟨(seen, []), none, none, Nat.zero_le _, rfl, good_base hm, Nat.le_refl _, rfl, rfl⟩ ?_ ?_
  · rintro j env S x ⟨acc, x5, x6, hj, hacc, hg, hlen, rfl, rfl⟩ hx
    refine ⟨by rfl, ?_⟩
    unfold keysN at hx
    rw [List.getElem?_map] at hx
    cases hh : level[j]? with
    | none => rw [hh] at hx; cases hx
    | some nd =>
      rw [hh] at hx
      cases hx
      have hjl := (List.getElem?_eq_some_iff.mp hh).1
      have hn := hsub nd (List.mem_of_getElem? hh)
      have hfn := hf nd (List.mem_of_getElem? hh)
      obtain ⟨row, a, hb⟩ := hfn.fine
      have hstep : (level.take (j + 1)).foldl (expand (hof p) r.rows) (seen, []) = (nd.s.nexts (hof p) row).foldl (visit nd) acc := by
        rw [List.take_add_one, hh, List.foldl_append, ← hacc]
        show expand (hof p) r.rows acc nd = _
        rw [expand_at a.at_]
      have hin := nexts_in hro a hb
      have h2 := nexts_two (hof p) nd.s row
      ((repeat sizeOf_list_dec) <;> (try dsimp only))
      refine (come_of_spec _ ?_ p hp i r hr nd.s row a hb).mono ?_
      · exact LowS.one (LowS.one hA (metC_low fun m _ => from_low _ m)) (lows_all _ _ fun x hx => by obtain ⟨m, _, rfl⟩ := List.mem_map.mp hx; exact Sg.low _ _)
      rintro _ _ ⟨rfl, rfl⟩
      ((repeat sizeOf_list_dec) <;> (try dsimp only))
      refine for_go (all := (nd.s.nexts (hof p) row).map Sg.pv) (fun k env S => ∃ (acc2 : Acc) (x6 : Option PV), k ≤ (nd.s.nexts (hof p) row).length ∧ acc2 = ((nd.s.nexts (hof p) row).take k).foldl (visit nd) acc ∧ Good r acc2 seen ∧ acc2.1.length ≤ acc.1.length + k ∧ S = (A ++ [metC Nd.from_ acc2.1]) ++ [.lst (keysN acc2.2)] ∧ env = [some p.pv, some (.int i), some (.ls (keysN level)), some (.loc A.length), some (.loc (A.length + 1)), some nd.s.pv, x6]) (by rfl) ⟨acc, x6, Nat.zero_le _, rfl, hg, Nat.le_refl _, rfl, rfl⟩ ?_ ?_
      · rintro k env S x ⟨acc2, x6, hk, hacc2, hg2, hlen2, rfl, rfl⟩ hx
        refine ⟨by rfl, ?_⟩
        rw [List.getElem?_map] at hx
        cases hh2 : (nd.s.nexts (hof p) row)[k]? with
        | none => rw [hh2] at hx; cases hx
        | some c =>
          rw [hh2] at hx
          cases hx
          have hkl := (List.getElem?_eq_some_iff.mp hh2).1
          have hstep2 : ((nd.s.nexts (hof p) row).take (k + 1)).foldl (visit nd) acc = visit nd acc2 c := by
            rw [List.take_add_one, hh2, List.foldl_append, ← hacc2]
            rfl
          have hg3 := hg2.visit hn (hin c (List.mem_of_getElem? hh2))
          have hv := visit_two nd acc2 c
          ((repeat sizeOf_list_dec) <;> (try dsimp only))
          refine (w_notInD get_A2 c.key).mpr ?_
          rw [lookN_some]
          ((repeat sizeOf_list_dec) <;> (try dsimp only))
          cases hq : (acc2.1.any fun n => decide (n.s = c)) with
          | true =>
            ((repeat sizeOf_list_dec) <;> (try dsimp only))
            refine ⟨acc2, _, hkl, ?_, hg2, by omega, rfl, rfl⟩
            rw [hstep2]
            unfold visit
            rw [if_pos hq]
          | false =>
            have he : visit nd acc2 c = (acc2.1 ++ [⟨c, nd.way ++ [c.row], some nd.s⟩], acc2.2 ++ [⟨c, nd.way ++ [c.row], some nd.s⟩]) := by
              unfold visit
              rw [if_neg (by rw [hq]; decide)]
            ((repeat sizeOf_list_dec) <;> (try dsimp only))
            refine w_gSbD.mpr ?_
            ((repeat sizeOf_list_dec) <;> (try dsimp only))
            refine (w_setD get_A2 c.key (by rw [keysN_len]; exact Nat.lt_of_le_of_lt (show acc2.1.length ≤ 2000 by omega) (by decide))).mpr ?_
            rw [set_A2]
            have e3 := put_newN (f := Nd.from_) (l := acc2.1) (m := ⟨c, nd.way ++ [c.row], some nd.s⟩) hq
            have e3 : Cell.dkn (putN (keysN acc2.1) (acc2.1.map Nd.from_) c.pv nd.s.pv).1 (putN (keysN acc2.1) (acc2.1.map Nd.from_) c.pv nd.s.pv).2 = _ := e3
            rw [e3]
            ((repeat sizeOf_list_dec) <;> (try dsimp only))
            refine ⟨_, _, rfl, get_A2', ?_⟩
            ((repeat sizeOf_list_dec) <;> (try dsimp only))
            refine (w_mAppend get_A2' (by rw [keysN_len]; have := hg2.len; exact Nat.lt_of_le_of_lt (show acc2.2.length ≤ 2000 by omega) (by decide))).mpr ?_
            rw [set_A2']
            ((repeat sizeOf_list_dec) <;> (try dsimp only))
            refine ⟨visit nd acc2 c, _, hkl, hstep2.symm, hg3, by omega, ?_, rfl⟩
            rw [he]
            show _ = (A ++ [metC Nd.from_ (acc2.1 ++ [_])]) ++ [Cell.lst (keysN (acc2.2 ++ [_]))]
            unfold keysN
            rw [List.map_append]
            rfl
      · rintro env S ⟨acc2, x6, hk, hacc2, hg2, hlen2, rfl, rfl⟩
        refine ⟨by rfl, ?_⟩
        rw [List.length_map, List.take_length] at hacc2
        rw [List.length_map] at hlen2
        refine ⟨acc2, _, _, hjl, ?_, hg2, by omega, rfl, rfl⟩
        rw [hstep, ← hacc2]
  · rintro env S ⟨acc, x5, x6, hj, hacc, hg, hlen, rfl, rfl⟩
    refine ⟨by rfl, ?_⟩
    rw [keysN_len, List.take_length] at hacc
    subst hacc
    ((repeat sizeOf_list_dec) <;> (try dsimp only))
    rw [← len1 (A := A) (c := metC Nd.from_ (level.foldl (expand (hof p) r.rows) (seen, [])).1)]
    refine (leave_drop (w := .ls (keysN (level.foldl (expand (hof p) r.rows) (seen, [])).2)) (LowS.one hA (metC_low fun m _ => from_low _ m)) (List.cons_ne_nil _ _) ?_).mpr ⟨rfl, rfl⟩
    unfold out1
    simp only []
    rw [if_neg (Nat.lt_irrefl _), get_last0]
    simp only []
    rw [if_pos (lows_all _ _ fun x hx => by obtain ⟨m, _, rfl⟩ := List.mem_map.mp hx; exact Sg.low _ _)]
end

/-! PureLh -/
/-! PureLh: survey, the way back, look_at. -/
section
open PySem L2
theorem brks_N {h : House} {hc : Nat → House} {rows : List Row} : ∀ (l : List Nd), brks h hc rows (List.map Nd.s l) = (brkN h hc rows l).map fun (q : Nd × Flt) => (q.1.s, q.2)
  | [] => rfl
  | n :: l => by
    have ih := brks_N (h := h) (hc := hc) (rows := rows) l
    show (match rows[n.s.row]? with | some row => (match n.s.brk h hc row with | some f => some (n.s, f) | none => brks h hc rows (List.map Nd.s l)) | none => brks h hc rows (List.map Nd.s l)) = _
    unfold brkN
    cases rows[n.s.row]? with
    | none => exact ih
    | some row =>
      simp only
      cases n.s.brk h hc row with
      | none => exact ih
      | some f => rfl
theorem keys_pv (l : List Nd) : keysN l = (List.map Nd.s l).map Sg.pv := by
  unfold keysN
  rw [List.map_map]
  rfl
/-- what the first break of a level tells -/
theorem first_break_N (S : Store) (p : Prog) (hp : p.Ok) (i : Nat) (r : Routine) (hr : p.routines[i]? = some r) (l : List Nd) (hl : ∀ n ∈ l, n.s.In r) :
    Post (m_first_break [p.pv, .int i, .ls (keysN l)] S) fun v S' => v = optB ((brkN (hof p i) (hof p) r.rows l).map fun (q : Nd × Flt) => (q.1.s, q.2)) ∧ S' = S := by
  rw [← brks_N]
  refine first_break_spec S p hp i r hr (List.map Nd.s l) (fun s hs => ?_) (.ls (keysN l)) (by rw [keys_pv]; rfl)
  obtain ⟨n, hn, rfl⟩ := List.mem_map.mp hs
  exact hl n hn
/-- what survey tells -/
def Surv (A : Store) (r : Routine) : Out → PV → Store → Prop
  | .many, _, _ => False
  | .let_ seen, v, S => v = .tup [.loc A.length, .non] ∧ S = A ++ [metC Nd.from_ seen]
  | .brk seen nd f, v, S => v = .tup [.loc A.length, .tup [nd.s.pv, .str f.1, .int f.2]] ∧ S = A ++ [metC Nd.from_ seen] ∧ Seen r seen ∧ nd ∈ seen ∧ seen.length ≤ 750
theorem first_cell (h : House) : Cell.dkn [(Sg.first h).pv] [.non] = metC Nd.from_ [Nd.first h] := rfl
theorem get_A1 {A : Store} {c : Cell} : (A ++ [c])[A.length]? = some c := get_last0
set_option maxHeartbeats 4000000 in
theorem survey_spec (K : PySem.W.Frag) (A : Store) (hA : LowS A) (p : Prog) (hp : p.Ok) (i : Nat) (r : Routine) (hr : p.routines[i]? = some r) (hn : lookB (hof p i) (hof p) r.rows ≠ .many) :
    Post (m_survey [p.pv, .int i] A) (Surv A r (lookB (hof p i) (hof p) r.rows)) := by
  have hro := hp.routines r (List.mem_of_getElem? hr)
  obtain ⟨r2, hr2, hh, hk⟩ := hof_some hp (List.getElem?_eq_some_iff.mp hr).1
  rw [hr] at hr2
  obtain rfl := Option.some.inj hr2
  generalize ho : lookB (hof p i) (hof p) r.rows = out at hn ⊢
  unfold m_survey
  refine w_fnK rfl ?_
  ((repeat sizeOf_list_dec) <;> (try dsimp only))
  refine (house_of_spec _ p i r _ hr hh).mono ?_
  rintro _ S1 ⟨rfl, e⟩
  obtain rfl := e.symm
  ((repeat sizeOf_list_dec) <;> (try dsimp only))
  refine (first_state_spec _ hA _ hk).mono ?_
  rintro _ S1 ⟨rfl, e⟩
  obtain rfl := e.symm
  ((repeat sizeOf_list_dec) <;> (try dsimp only))
  refine w_eDn.mpr ?_
  ((repeat sizeOf_list_dec) <;> (try dsimp only))
  refine (w_dnK (Sg.key _)).mpr ?_
  rw [first_cell]
  ((repeat sizeOf_list_dec) <;> (try dsimp only))
  refine w_while (fun n env S => ∃ seen, S = A ++ [metC Nd.from_ seen] ∧ ((∃ level, Lv r seen level n ∧ bfs (hof p i) (hof p) r.rows n seen level = out ∧ env = [some p.pv, some (.int i), some (Sg.first (hof p i)).pv, some (.loc A.length), some (.ls (keysN level)), some .non]) ∨ (∃ level nd f, out = .brk seen nd f ∧ nd ∈ seen ∧ Seen r seen ∧ seen.length ≤ 750 ∧ env = [some p.pv, some (.int i), some (Sg.first (hof p i)).pv, some (.loc A.length), some (.ls (keysN level)), some (.tup [nd.s.pv, .str f.1, .int f.2])]))) 251 (by decide) ⟨[Nd.first (hof p i)], rfl, .inl ⟨[Nd.first (hof p i)], lv_first hro _, ho, rfl⟩⟩ ?_
  rintro n env S ⟨seen, rfl, ⟨level, lv, hb, rfl⟩ | ⟨level, nd, f, hb, hm, hs, hl, rfl⟩⟩
  · ((repeat sizeOf_list_dec) <;> (try dsimp only))
    rw [keysN_len]
    rcases List.eq_nil_or_concat level with rfl | hne
    · rw [bfs_let lv.one] at hb
      subst hb
      ((repeat sizeOf_list_dec) <;> (try dsimp only))
      exact ⟨by trivial, by trivial⟩
    · have hne : level ≠ [] := by
        obtain ⟨a, b, rfl⟩ := hne
        simp
      have hp1 : 1 ≤ level.length := List.length_pos_iff.mpr hne
      rw [decide_eq_true (show (0 : Int) < (level.length : Int) by omega)]
      ((repeat sizeOf_list_dec) <;> (try dsimp only))
      by_cases h250 : 250 < seen.length
      · exact absurd (hb ▸ bfs_many lv.one hne h250) hn
      · have hsm := lv.small
        have hlv := lv.lev
        cases hbk : brkN (hof p i) (hof p) r.rows level with
        | none =>
          obtain ⟨m, rfl, lv2, hb2⟩ := lv.next hro hne (by omega) hbk
          refine ⟨m, rfl, ?_⟩
          ((repeat sizeOf_list_dec) <;> (try dsimp only))
          refine (w_lenD get_A1 (by rw [keysN_len]; exact Nat.le_trans hsm (by decide))).mpr ?_
          rw [keysN_len]
          ((repeat sizeOf_list_dec) <;> (try dsimp only))
          rw [decide_eq_false (by omega)]
          ((repeat sizeOf_list_dec) <;> (try dsimp only))
          refine (first_break_N _ p hp i r hr level lv.in_).mono ?_
          rintro _ _ ⟨rfl, rfl⟩
          rw [hbk]
          unfold Option.map optB
          ((repeat sizeOf_list_dec) <;> (try dsimp only))
          rw [show PV.non.isNon = true from rfl]
          ((repeat sizeOf_list_dec) <;> (try dsimp only))
          refine (next_level_spec A hA p hp i r hr seen level lv.met lv.sub (fine_of lv.in_ hbk) (by omega)).mono ?_
          rintro _ _ ⟨rfl, rfl⟩
          ((repeat sizeOf_list_dec) <;> (try dsimp only))
          exact ⟨_, rfl, .inl ⟨_, lv2, hb2 ▸ hb, rfl⟩⟩
        | some q =>
          obtain ⟨nd, f⟩ := q
          have hbb := bfs_brk (seen := seen) lv.one hne (by omega) hbk
          rw [hb] at hbb
          obtain ⟨m, rfl⟩ : ∃ m, n = m + 1 := ⟨n - 1, by have := lv.one; omega⟩
          refine ⟨m, rfl, ?_⟩
          ((repeat sizeOf_list_dec) <;> (try dsimp only))
          refine (w_lenD get_A1 (by rw [keysN_len]; exact Nat.le_trans hsm (by decide))).mpr ?_
          rw [keysN_len]
          ((repeat sizeOf_list_dec) <;> (try dsimp only))
          rw [decide_eq_false (by omega)]
          ((repeat sizeOf_list_dec) <;> (try dsimp only))
          refine (first_break_N _ p hp i r hr level lv.in_).mono ?_
          rintro _ _ ⟨rfl, rfl⟩
          rw [hbk]
          unfold Option.map optB
          ((repeat sizeOf_list_dec) <;> (try dsimp only))
          rw [show (PV.tup [nd.s.pv, PV.str f.1, PV.int f.2]).isNon = false from rfl]
          ((repeat sizeOf_list_dec) <;> (try dsimp only))
          exact ⟨_, rfl, .inr ⟨level, nd, f, hbb, lv.sub nd (brkN_mem hbk), lv.met, by omega, rfl⟩⟩
  · subst hb
    ((repeat sizeOf_list_dec) <;> (try dsimp only))
    by_cases hz : (0 : Int) < ((keysN level).length : Int)
    · rw [decide_eq_true hz]
      ((repeat sizeOf_list_dec) <;> (try dsimp only))
      exact ⟨by trivial, by trivial, hs, hm, hl⟩
    · rw [decide_eq_false hz]
      ((repeat sizeOf_list_dec) <;> (try dsimp only))
      exact ⟨by trivial, by trivial, hs, hm, hl⟩
end

/-! PureLi0 -/
/-! PureLi0: common pieces. -/
section
open PySem L2
theorem w_revN {xs : List PV} {l : Nat} {S : Store} {Q : PV → Store → Prop} (h : S[l]? = some (.lst xs)) : Post (oRevN (.loc l) S) Q ↔ Q (.loc S.length) (S ++ [.lst xs.reverse]) := by
  unfold oRevN
  rw [show lstOf S (.loc l) = some xs by
    show (match S[l]? with | some (.lst xs) => some xs | _ => none) = _
    rw [h]]
  exact Post.ok
def optS : Option Nd → PV
  | none => .non
  | some m => m.s.pv
theorem ivs_rev (xs : List Nat) : (ivs xs).reverse = ivs xs.reverse := by
  unfold ivs
  rw [List.map_reverse]
theorem ivs_app1 (xs : List Nat) (x : Nat) : ivs xs ++ [.int x] = ivs (xs ++ [x]) := by
  unfold ivs
  rw [List.map_append]
  rfl
/-- what a look tells -/
def Told (A : Store) : Out → PV → Store → Prop
  | .many, _, _ => False
  | .let_ _, v, S => v = .non ∧ LowS S ∧ ∃ B, S = A ++ B
  | .brk _ nd f, v, S => ∃ l, v = .tup [.loc l, .str f.1, .int f.2] ∧ LowS S ∧ (∃ B, S = A ++ B) ∧ A.length ≤ l ∧ S[l]? = some (.lst (ivs nd.way)) ∧ nd.way.length ≤ 750
theorem LowS.int {A : Store} (hA : LowS A) (xs : List Nat) : LowS (A ++ [.lst (ivs xs)]) := LowS.one hA (lows_all _ _ fun x hx => by
  obtain ⟨n, _, rfl⟩ := List.mem_map.mp hx
  rfl)
theorem LowS.met {A : Store} (hA : LowS A) (seen : List Nd) : LowS (A ++ [metC Nd.from_ seen]) := LowS.one hA (metC_low fun m _ => from_low _ m)
end

/-! PureLi -/
/-! PureLi: the way back, look_at, look. -/
section
open PySem L2
theorem way_to_spec (S : Store) (r : Routine) (seen : List Nd) (hs : Seen r seen) (l : Nat) (hl : S[l]? = some (metC Nd.from_ seen)) (nd : Nd) (hm : nd ∈ seen) (h7 : seen.length ≤ 750) :
    Post (m_way_to [.loc l, nd.s.pv] S) fun v S' => v = .loc (S.length + 1) ∧ S' = S ++ [.lst (ivs nd.way.reverse)] ++ [.lst (ivs nd.way)] := by
  have hlt := (List.getElem?_eq_some_iff.mp hl).1
  have hw := (hs.way nd hm).1
  unfold m_way_to
  refine w_fnK rfl ?_
  ((repeat sizeOf_list_dec) <;> (try dsimp only))
  refine w_while (fun n env S' => ∃ (q : Option Nd) (done : List Nat), S' = S ++ [.lst (ivs done)] ∧ env = [some (.loc l), some (optS q), some (.loc S.length)] ∧ (match q with
    | none => nd.way = done.reverse ∧ n = 0
    | some m => m ∈ seen ∧ nd.way = m.way ++ done.reverse ∧ n = m.way.length)) nd.way.length (Nat.lt_of_le_of_lt (show nd.way.length ≤ 750 by omega) (by decide)) ⟨some nd, [], rfl, rfl, hm, by simp, rfl⟩ ?_
  rintro n env S' ⟨q, done, rfl, rfl, hq⟩
  ((repeat sizeOf_list_dec) <;> (try dsimp only))
  refine w_notN.mpr ?_
  ((repeat sizeOf_list_dec) <;> (try dsimp only))
  cases q with
  | none =>
    obtain ⟨h1, rfl⟩ := hq
    rw [show (optS none).isNon = true from rfl]
    ((repeat sizeOf_list_dec) <;> (try dsimp only))
    refine (w_revN get_last0).mpr ?_
    ((repeat sizeOf_list_dec) <;> (try dsimp only))
    rw [ivs_rev, len1, h1, List.reverse_reverse]
    exact ⟨by trivial, by trivial⟩
  | some m =>
    obtain ⟨h1, h2, rfl⟩ := hq
    have hd : done.length ≤ 750 := by
      have := congrArg List.length h2
      rw [List.length_append, List.length_reverse] at this
      omega
    obtain ⟨_, hpre⟩ := hs.way m h1
    rw [show (optS (some m)).isNon = false from rfl]
    have hgl : ∀ c, (S ++ [c])[l]? = some (metC Nd.from_ seen) := fun c => by rw [List.getElem?_append_left hlt]; exact hl
    have hfr : ∃ q2 : Option Nd, m.from_ = optS q2 ∧ ∃ k, m.way.length = k + 1 ∧ (match q2 with
        | none => nd.way = (done ++ [m.s.row]).reverse ∧ k = 0
        | some m2 => m2 ∈ seen ∧ nd.way = m2.way ++ (done ++ [m.s.row]).reverse ∧ k = m2.way.length) := by
      rcases hpre with ⟨p1, p2⟩ | ⟨m2, p0, p1, p2⟩
      · refine ⟨none, ?_, 0, by rw [p2]; rfl, ?_, rfl⟩
        · unfold Nd.from_
          rw [p1]
          rfl
        · rw [h2, p2, List.reverse_append]
          rfl
      · refine ⟨some m2, ?_, m2.way.length, by rw [p2, List.length_append]; rfl, p0, ?_, rfl⟩
        · unfold Nd.from_
          rw [p1]
          rfl
        · rw [h2, p2, List.reverse_append, List.append_assoc]
          rfl
    obtain ⟨q2, e1, k, e2, e3⟩ := hfr
    refine ⟨k, e2, ?_⟩
    ((repeat sizeOf_list_dec) <;> (try dsimp only))
    refine ⟨_, _, rfl, get_last0, ?_⟩
    unfold optS
    ((repeat sizeOf_list_dec) <;> (try dsimp only))
    refine (w_mAppend get_last0 (by rw [ivs_length]; exact Nat.lt_of_le_of_lt hd (by decide))).mpr ?_
    rw [set_last0, ivs_app1]
    ((repeat sizeOf_list_dec) <;> (try dsimp only))
    refine (w_ixD (hgl _) m.s.key (lookN_at h1 hs.nd)).mpr ?_
    ((repeat sizeOf_list_dec) <;> (try dsimp only))
    rw [e1]
    exact ⟨q2, _, rfl, rfl, e3⟩
theorem look_at_spec (K : PySem.W.Frag) (A : Store) (hA : LowS A) (p : Prog) (hp : p.Ok) (i : Nat) (r : Routine) (hr : p.routines[i]? = some r) (hn : lookB (hof p i) (hof p) r.rows ≠ .many) :
    Post (m_look_at [p.pv, .int i] A) (Told A (lookB (hof p i) (hof p) r.rows)) := by
  have h1 := survey_spec K A hA p hp i r hr hn
  generalize lookB (hof p i) (hof p) r.rows = out at hn h1 ⊢
  unfold m_look_at
  refine w_fnK rfl ?_
  ((repeat sizeOf_list_dec) <;> (try dsimp only))
  refine h1.mono fun v S h1 => ?_
  cases out with
  | many => exact h1.elim
  | let_ seen =>
    obtain ⟨rfl, rfl⟩ := h1
    ((repeat sizeOf_list_dec) <;> (try dsimp only))
    rw [show PV.non.isNon = true from rfl]
    ((repeat sizeOf_list_dec) <;> (try dsimp only))
    exact ⟨rfl, LowS.met hA seen, _, rfl⟩
  | brk seen nd f =>
    obtain ⟨rfl, rfl, hs, hm, h7⟩ := h1
    ((repeat sizeOf_list_dec) <;> (try dsimp only))
    rw [show (PV.tup [nd.s.pv, PV.str f.1, PV.int f.2]).isNon = false from rfl]
    ((repeat sizeOf_list_dec) <;> (try dsimp only))
    refine (way_to_spec _ r seen hs A.length get_last0 nd hm h7).mono ?_
    rintro _ _ ⟨rfl, rfl⟩
    ((repeat sizeOf_list_dec) <;> (try dsimp only))
    refine ⟨_, rfl, LowS.int (LowS.int (LowS.met hA seen) _) _, ⟨_, by rw [List.append_assoc, List.append_assoc]⟩, by rw [len1]; omega, get_A2', ?_⟩
    have := (hs.way nd hm).1
    omega
end

/-! PureLj0 -/
/-! PureLj0: common pieces. -/
section
open PySem L2
end
section
open PySem L2
def lookO (p : Prog) (i : Nat) : Out := match p.routines[i]? with
  | some r => lookB (hof p i) (hof p) r.rows
  | none => .let_ []
theorem lookO_eq {p : Prog} {i : Nat} {r : Routine} (hr : p.routines[i]? = some r) : lookO p i = lookB (hof p i) (hof p) r.rows := by
  unfold lookO
  rw [hr]
def Out.lets : Out → Bool
  | .let_ _ => true
  | _ => false
end

/-! PureLn -/
/-! PureLn: the law's look. -/
section
open PySem L2
def itm (n : Nd) : PV := .tup [.ls (ivs n.way.dropLast), n.s.pv]
def itms (l : List Nd) : List PV := l.map itm
def tru (_ : Nd) : PV := .bl true
theorem way_end {r : Routine} {seen : List Nd} (h : Seen r seen) {n : Nd} (hn : n ∈ seen) : n.way.dropLast ++ [n.s.row] = n.way := by
  rcases (h.way n hn).2 with ⟨_, h2⟩ | ⟨q, _, _, h2⟩
  · rw [h2]; rfl
  · rw [h2, List.dropLast_concat]
theorem res_str (n : Nat) (S : Store) (x : Str) : res n S (.str x) = .str x := by cases n <;> rfl
theorem res_int (n : Nat) (S : Store) (x : Int) : res n S (.int x) = .int x := by cases n <;> rfl
theorem plain_ints3 (S : Store) : ∀ xs : List Nat, ((ivs xs).map (res 17 S)).all (plain 17) = true
  | [] => rfl
  | x :: r => by
    show (plain 17 (res 17 S (.int x)) && ((ivs r).map (res 17 S)).all (plain 17)) = true
    rw [plain_ints3 S r, res_int]
    rfl
theorem plain_marks (S : Store) : ∀ xs : List Mk, ((marks xs).map (res 16 S)).all (plain 16) = true
  | [] => rfl
  | x :: r => by
    show (plain 16 (res 16 S x.pv) && ((marks r).map (res 16 S)).all (plain 16)) = true
    rw [plain_marks S r]
    unfold Mk.pv
    rw [res_str]
    show (PyData.strOk x.str && true) = true
    rw [x.strOk]
    rfl
theorem plain_itms (S : Store) : ∀ l : List Nd, plain 20 (res 20 S (.ls (itms l))) = true
  | [] => rfl
  | n :: l => by
    show (plain 19 (res 19 S (itm n)) && ((itms l).map (res 19 S)).all (plain 19)) = true
    rw [show ((itms l).map (res 19 S)).all (plain 19) = true from plain_itms S l, Bool.and_true]
    show (((ivs n.way.dropLast).map (res 17 S)).all (plain 17) && (((plain 17 (res 17 S (.int n.s.row))) && ((((marks n.s.bx).map (res 16 S)).all (plain 16)) && ((((marks n.s.pile).map (res 16 S)).all (plain 16)) && true))) && true)) = true
    rw [plain_ints3, plain_marks, plain_marks, res_int]
    rfl
/-- where a level's items stand -/
def LevAt (A Y : Store) (x : PV) (items : List PV) : Prop := x = .ls items ∨ ∃ j, x = .loc (A.length + (j + 1)) ∧ Y[j]? = some (.lst items)
theorem LevAt.more {A Y : Store} {x : PV} {items : List PV} {c : Cell} (h : LevAt A Y x items) : LevAt A (Y ++ [c]) x items := by
  rcases h with rfl | ⟨j, rfl, h⟩
  · exact .inl rfl
  · exact .inr ⟨j, rfl, by rw [List.getElem?_append_left (List.getElem?_eq_some_iff.mp h).1]; exact h⟩
theorem LevAt.res {A Y : Store} {x : PV} {items : List PV} {m : Cell} (h : LevAt A Y x items) : res 20 (A ++ m :: Y) x = res 20 (A ++ m :: Y) (.ls items) := by
  rcases h with rfl | ⟨j, rfl, h⟩
  · rfl
  · show (match (A ++ m :: Y)[A.length + (j + 1)]? with | some (.lst xs) => PV.ls (xs.map (LW.res 19 _)) | _ => _) = _
    rw [get_app]
    show (match Y[j]? with | some (.lst xs) => PV.ls (xs.map (LW.res 19 _)) | _ => _) = _
    rw [h]
    rfl
theorem LevAt.seq {A Y : Store} {x : PV} {items : List PV} {m : Cell} (h : LevAt A Y x items) : seqOf (A ++ m :: Y) x = some items := by
  rcases h with rfl | ⟨j, rfl, h⟩
  · rfl
  · show (match (A ++ m :: Y)[A.length + (j + 1)]? with | some (.lst xs) => some xs | _ => none) = _
    rw [get_app]
    show (match Y[j]? with | some (.lst xs) => some xs | _ => none) = _
    rw [h]
theorem w_neLev {A Y : Store} {x : PV} {l : List Nd} {m : Cell} {Q : PV → Store → Prop} (h : LevAt A Y x (itms l)) : Post (oNe x (.ls []) (A ++ m :: Y)) Q ↔ Q (.bl (!(itms l).isEmpty)) (A ++ m :: Y) := by
  have hp := plain_itms (A ++ m :: Y) l
  unfold oNe
  rw [h.res, if_pos ⟨hp, rfl⟩]
  show Post (R.ok (PV.bl (!eqv (res 20 _ (.ls (itms l))) (.ls []))) _) Q ↔ _
  rw [eq_nil_ls hp]
  exact Post.ok
theorem W_eq {A B : Store} {m n : Cell} : (A ++ m :: B) ++ [n] = A ++ m :: (B ++ [n]) := by rw [List.append_assoc]; rfl
theorem W_len {A B : Store} {m : Cell} : (A ++ m :: B).length = A.length + (B.length + 1) := by rw [List.length_append]; rfl
theorem W_met {A B : Store} {m : Cell} : (A ++ m :: B)[A.length]? = some m := get_app (A := A) (B := m :: B) (i := 0)
theorem W_new {A B : Store} {m n : Cell} : (A ++ m :: (B ++ [n]))[A.length + (B.length + 1)]? = some n := by
  rw [get_app]
  show (B ++ [n])[B.length]? = _
  exact get_last0
theorem W_setm {A B : Store} {m c : Cell} : (A ++ m :: B).set A.length c = A ++ c :: B := set_app (A := A) (B := m :: B) (i := 0)
theorem W_setn {A B : Store} {m n c : Cell} : (A ++ m :: (B ++ [n])).set (A.length + (B.length + 1)) c = A ++ m :: (B ++ [c]) := by
  rw [set_app]
  show A ++ m :: (B ++ [n]).set B.length c = _
  rw [set_last0]
def Clo (B : Store) : Prop := ∀ c ∈ B, ∀ n, Cell.low n c = true
theorem Clo.app {B C : Store} (h : Clo B) (h2 : Clo C) : Clo (B ++ C) := fun c hc => (List.mem_append.mp hc).elim (h c) (h2 c)
theorem Clo.low {A B : Store} (hA : LowS A) (h : Clo B) : LowS (A ++ B) := by
  show (A ++ B).all (Cell.low (A ++ B).length) = true
  have hA : A.all (Cell.low A.length) = true := hA
  rw [List.all_append, Bool.and_eq_true]
  exact ⟨List.all_eq_true.mpr fun d hd => cell_mono (by rw [List.length_append]; exact Nat.le_add_right _ _) d (List.all_eq_true.mp hA d hd), List.all_eq_true.mpr fun d hd => h d hd _⟩
theorem clo_met (seen : List Nd) : Clo [metC tru seen] := fun c hc n => by
  rw [List.mem_singleton.mp hc]
  exact metC_low fun m _ => rfl
theorem itm_low (n : Nat) (d : Nd) : LW.low n (itm d) = true := low_tup fun x hx => by
  simp only [List.mem_cons, List.not_mem_nil, or_false] at hx
  rcases hx with rfl | rfl
  · exact low_ls fun x hx => by
      obtain ⟨k, _, rfl⟩ := List.mem_map.mp hx
      exact low_int
  · exact Sg.low _ _
theorem clo_itms (l : List Nd) : Clo [.lst (itms l)] := fun c hc n => by
  rw [List.mem_singleton.mp hc]
  exact lows_all _ _ fun x hx => by
    obtain ⟨d, _, rfl⟩ := List.mem_map.mp hx
    exact itm_low n d
theorem clo_all {seen : List Nd} {B : Store} (h : Clo B) (l : List Nd) : Clo (metC tru seen :: (B ++ [.lst (itms l)])) := Clo.app (clo_met seen) (Clo.app h (clo_itms l))
/-- what the law's look tells -/
def Looked (A : Store) : Out → PV → Store → Prop
  | .many, v, S => v = .tup [.str "many", .loc A.length] ∧ LowS S ∧ ∃ B, S = A ++ B
  | .let_ _, v, S => v = .tup [.non, .loc A.length] ∧ LowS S ∧ ∃ B, S = A ++ B
  | .brk _ nd f, v, S => v = .tup [.tup [.ls (ivs nd.way), .str f.1, .int f.2], .loc A.length] ∧ LowS S ∧ (∃ B, S = A ++ B) ∧ nd.way.length ≤ 750
/-- .. and the dict of all that were met -/
def Looked2 (r : Routine) (h : House) (A : Store) (out : Out) (v : PV) (S : Store) : Prop := LowS S ∧ ∃ (seen : List Nd) (B : Store), S = A ++ metC tru seen :: B ∧ Seen r seen ∧ seen.length ≤ 750 ∧ Nd.first h ∈ seen ∧ (match out with
  | .many => v = .tup [.str "many", .loc A.length]
  | .let_ s => v = .tup [.non, .loc A.length] ∧ seen = s
  | .brk _ nd f => v = .tup [.tup [.ls (ivs nd.way), .str f.1, .int f.2], .loc A.length] ∧ nd.way.length ≤ 750)
theorem Looked2.weak {r : Routine} {h : House} {A : Store} {out : Out} {v : PV} {S : Store} (l : Looked2 r h A out v S) : Looked A out v S := by
  obtain ⟨h1, seen, B, h2, h3, h4, h5, h6⟩ := l
  cases out with
  | many => exact ⟨h6, h1, _, h2⟩
  | let_ s => exact ⟨h6.1, h1, _, h2⟩
  | brk s nd f => exact ⟨h6.1, h1, ⟨_, h2⟩, h6.2⟩
set_option maxHeartbeats 8000000 in
theorem look_law_spec2 (K : PySem.W.Frag) (A : Store) (hA : LowS A) (p : Prog) (hp : p.Ok) (i : Nat) (r : Routine) (hr : p.routines[i]? = some r) :
    Post (m_look_ [p.pv, .int i] A) (Looked2 r (hof p i) A (lookB (hof p i) (hof p) r.rows)) := by
  have hro := hp.routines r (List.mem_of_getElem? hr)
  generalize ho : lookB (hof p i) (hof p) r.rows = out
  unfold m_look_
  refine w_fnK rfl ?_
  ((repeat sizeOf_list_dec) <;> (try dsimp only))
  refine (first_law_spec _ p hp i r hr fun _ => true).mono ?_
  rintro _ S1 ⟨rfl, e⟩
  obtain rfl := e.symm
  have e0 : PV.tup [.int 0, .tup (marks ((List.range 6).map fun b => if (hof p i).kept.contains b = true then fig b else if (hof p i).ins.contains b = true then .good else .loose)), .tup []] = (Nd.first (hof p i)).s.pv := rfl
  rw [e0]
  ((repeat sizeOf_list_dec) <;> (try dsimp only))
  refine w_eDn.mpr ?_
  ((repeat sizeOf_list_dec) <;> (try dsimp only))
  refine (w_dnK (Sg.key _)).mpr ?_
  ((repeat sizeOf_list_dec) <;> (try dsimp only))
  have e1 : A ++ [Cell.dkn [(Nd.first (hof p i)).s.pv] [.bl true]] = A ++ metC tru [Nd.first (hof p i)] :: [] := rfl
  rw [e1]
  have e2 : PV.ls [.tup [.ls [], (Nd.first (hof p i)).s.pv]] = .ls (itms [Nd.first (hof p i)]) := rfl
  rw [e2]
  refine w_while (fun n env S => ∃ (seen level : List Nd) (B : Store) (x4 : PV) (x5 x6 x7 x8 x9 : Option PV), S = A ++ metC tru seen :: B ∧ Clo B ∧ LevAt A B x4 (itms level) ∧ Lv r seen level n ∧ seen.length ≤ 250 ∧ Nd.first (hof p i) ∈ seen ∧ bfs (hof p i) (hof p) r.rows n seen level = out ∧ env = [some p.pv, some (.int i), some (Nd.first (hof p i)).s.pv, some (.loc A.length), some x4, x5, x6, x7, x8, x9]) 251 (by decide) ⟨[Nd.first (hof p i)], [Nd.first (hof p i)], [], _, none, none, none, none, none, rfl, fun c hc => absurd hc List.not_mem_nil, .inl rfl, lv_first hro _, by show 1 ≤ 250; decide, List.mem_singleton.mpr rfl, ho, rfl⟩ ?_
  rintro n env S ⟨seen, level, B, x4, x5, x6, x7, x8, x9, rfl, hB, hlev, lv, h250, hfi, hb, rfl⟩
  ((repeat sizeOf_list_dec) <;> (try dsimp only))
  refine (w_neLev hlev).mpr ?_
  ((repeat sizeOf_list_dec) <;> (try dsimp only))
  rcases Nat.eq_zero_or_pos level.length with hz | hp1
  · have hz : level = [] := List.length_eq_zero_iff.mp hz
    subst hz
    rw [bfs_let lv.one] at hb
    subst hb
    rw [show (!(itms []).isEmpty) = false from rfl]
    ((repeat sizeOf_list_dec) <;> (try dsimp only))
    exact ⟨Clo.low hA (Clo.app (clo_met seen) hB), seen, B, rfl, lv.met, by omega, hfi, rfl, rfl⟩
  have hne : level ≠ [] := List.length_pos_iff.mp hp1
  have hne2 : (!(itms level).isEmpty) = true := by
    cases level with
    | nil => exact absurd rfl hne
    | cons a l => rfl
  rw [hne2]
  obtain ⟨m, rfl⟩ : ∃ m, n = m + 1 := ⟨n - 1, by have := lv.one; omega⟩
  refine ⟨m, rfl, ?_⟩
  have hlv := lv.lev
  ((repeat sizeOf_list_dec) <;> (try dsimp only))
  rw [W_eq, W_len]
  refine for_go (all := itms level) (fun j env S => ∃ (acc : Acc) (x6 x7 x8 x9 : Option PV), j ≤ level.length ∧ acc = (level.take j).foldl (expand (hof p) r.rows) (seen, []) ∧ Good r acc seen ∧ acc.1.length ≤ seen.length + 2 * j ∧ brkN (hof p i) (hof p) r.rows level = brkN (hof p i) (hof p) r.rows (level.drop j) ∧ S = A ++ metC tru acc.1 :: (B ++ [.lst (itms acc.2)]) ∧ env = [some p.pv, some (.int i), some (Nd.first (hof p i)).s.pv, some (.loc A.length), some x4, some (.loc (A.length + (B.length + 1))), x6, x7, x8, x9]) (hlev.more.seq) ⟨(seen, []), _, _, _, _, Nat.zero_le _, rfl, good_base lv.met, Nat.le_refl _, rfl, rfl, rfl⟩ ?_ ?_
  · rintro j env S x ⟨acc, x6, x7, x8, x9, hj, hacc, hg, hlen, hbk, rfl, rfl⟩ hx
    refine ⟨hlev.more.seq, ?_⟩
    unfold itms at hx
    rw [List.getElem?_map] at hx
    cases hh : level[j]? with
    | none => rw [hh] at hx; cases hx
    | some nd =>
      rw [hh] at hx
      cases hx
      have hjl := (List.getElem?_eq_some_iff.mp hh).1
      have hmem := List.mem_of_getElem? hh
      have hn := lv.sub nd hmem
      obtain ⟨row, a⟩ := lv.in_ nd hmem
      have hw := way_end lv.met hn
      have hwl := (lv.met.way nd hn).1
      have hd : level.drop j = nd :: level.drop (j + 1) := by
        rw [List.drop_eq_getElem_cons hjl, (List.getElem?_eq_some_iff.mp hh).2]
      rw [hd, brkN_cons a.at_] at hbk
      unfold itm
      ((repeat sizeOf_list_dec) <;> (try dsimp only))
      refine (breaks_spec _ p hp i r hr nd.s row a).mono ?_
      rintro _ _ ⟨rfl, rfl⟩
      ((repeat sizeOf_list_dec) <;> (try dsimp only))
      refine w_notN.mpr ?_
      cases hbr : nd.s.brk (hof p i) (hof p) row with
      | some f =>
        rw [hbr] at hbk
        rw [show (optF (some f)).isNon = false from rfl]
        unfold optF
        ((repeat sizeOf_list_dec) <;> (try dsimp only))
        refine (w_addLL (by rw [ivs_length, List.length_dropLast]; exact Nat.le_trans (show nd.way.length - 1 + 1 ≤ 1000 by omega) (by decide))).mpr ?_
        rw [ivs_app1, hw]
        ((repeat sizeOf_list_dec) <;> (try dsimp only))
        refine (w_addT (Nat.le_of_ble_eq_true rfl)).mpr ?_
        ((repeat sizeOf_list_dec) <;> (try dsimp only))
        have hbb := bfs_brk (n := m + 1) (by omega) hne h250 hbk
        rw [hb] at hbb
        subst hbb
        exact ⟨Clo.low hA (clo_all hB _), acc.1, _, rfl, hg.seen, by omega, hg.old _ hfi, rfl, by omega⟩
      | none =>
        rw [hbr] at hbk
        simp only [] at hbk
        have hfn : Fine r (hof p i) (hof p) nd := ⟨row, a, hbr⟩
        have hstep : (level.take (j + 1)).foldl (expand (hof p) r.rows) (seen, []) = (nd.s.nexts (hof p) row).foldl (visit nd) acc := by
          rw [List.take_add_one, hh, List.foldl_append, ← hacc]
          show expand (hof p) r.rows acc nd = _
          rw [expand_at a.at_]
        have hin := nexts_in hro a hbr
        have h2 := nexts_two (hof p) nd.s row
        rw [show (optF none).isNon = true from rfl]
        ((repeat sizeOf_list_dec) <;> (try dsimp only))
        refine (nexts_spec _ (Clo.low hA (clo_all hB _)) p hp i r hr nd.s row a hbr).mono ?_
        rintro _ _ ⟨rfl, rfl⟩
        ((repeat sizeOf_list_dec) <;> (try dsimp only))
        refine for_go (all := (nd.s.nexts (hof p) row).map Sg.pv) (fun k env S => ∃ (acc2 : Acc) (x9 : Option PV), k ≤ (nd.s.nexts (hof p) row).length ∧ acc2 = ((nd.s.nexts (hof p) row).take k).foldl (visit nd) acc ∧ Good r acc2 seen ∧ acc2.1.length ≤ acc.1.length + k ∧ S = A ++ metC tru acc2.1 :: (B ++ [.lst (itms acc2.2)]) ∧ env = [some p.pv, some (.int i), some (Nd.first (hof p i)).s.pv, some (.loc A.length), some x4, some (.loc (A.length + (B.length + 1))), some (.ls (ivs nd.way.dropLast)), some nd.s.pv, some .non, x9]) (by rfl) ⟨acc, x9, Nat.zero_le _, rfl, hg, Nat.le_refl _, rfl, rfl⟩ ?_ ?_
        · rintro k env S x ⟨acc2, x9, hk, hacc2, hg2, hlen2, rfl, rfl⟩ hx
          refine ⟨by rfl, ?_⟩
          rw [List.getElem?_map] at hx
          cases hh2 : (nd.s.nexts (hof p) row)[k]? with
          | none => rw [hh2] at hx; cases hx
          | some c =>
            rw [hh2] at hx
            cases hx
            have hkl := (List.getElem?_eq_some_iff.mp hh2).1
            have hstep2 : ((nd.s.nexts (hof p) row).take (k + 1)).foldl (visit nd) acc = visit nd acc2 c := by
              rw [List.take_add_one, hh2, List.foldl_append, ← hacc2]
              rfl
            have hg3 := hg2.visit hn (hin c (List.mem_of_getElem? hh2))
            have hv := visit_two nd acc2 c
            ((repeat sizeOf_list_dec) <;> (try dsimp only))
            refine (w_notInD W_met c.key).mpr ?_
            rw [lookN_some]
            ((repeat sizeOf_list_dec) <;> (try dsimp only))
            cases hq : (acc2.1.any fun n => decide (n.s = c)) with
            | true =>
              ((repeat sizeOf_list_dec) <;> (try dsimp only))
              refine ⟨acc2, _, hkl, ?_, hg2, by omega, rfl, rfl⟩
              rw [hstep2]
              unfold visit
              rw [if_pos hq]
            | false =>
              have he : visit nd acc2 c = (acc2.1 ++ [⟨c, nd.way ++ [c.row], some nd.s⟩], acc2.2 ++ [⟨c, nd.way ++ [c.row], some nd.s⟩]) := by
                unfold visit
                rw [if_neg (by rw [hq]; decide)]
              ((repeat sizeOf_list_dec) <;> (try dsimp only))
              refine w_gSbD.mpr ?_
              ((repeat sizeOf_list_dec) <;> (try dsimp only))
              refine (w_setD W_met c.key (by rw [keysN_len]; exact Nat.lt_of_le_of_lt (show acc2.1.length ≤ 2000 by omega) (by decide))).mpr ?_
              rw [W_setm]
              have e3 := put_newN (f := tru) (l := acc2.1) (m := ⟨c, nd.way ++ [c.row], some nd.s⟩) hq
              have e3 : Cell.dkn (putN (keysN acc2.1) (acc2.1.map tru) c.pv (.bl true)).1 (putN (keysN acc2.1) (acc2.1.map tru) c.pv (.bl true)).2 = _ := e3
              rw [e3]
              ((repeat sizeOf_list_dec) <;> (try dsimp only))
              refine ⟨_, _, rfl, W_new, ?_⟩
              ((repeat sizeOf_list_dec) <;> (try dsimp only))
              refine (w_addLL (by rw [ivs_length, List.length_dropLast]; exact Nat.le_trans (show nd.way.length - 1 + 1 ≤ 1000 by omega) (by decide))).mpr ?_
              rw [ivs_app1, hw]
              ((repeat sizeOf_list_dec) <;> (try dsimp only))
              refine (w_mAppend W_new (by have := hg2.len; unfold itms; rw [List.length_map]; exact Nat.lt_of_le_of_lt (show acc2.2.length ≤ 2000 by omega) (by decide))).mpr ?_
              rw [W_setn]
              ((repeat sizeOf_list_dec) <;> (try dsimp only))
              refine ⟨visit nd acc2 c, _, hkl, hstep2.symm, hg3, by omega, ?_, rfl⟩
              rw [he]
              show _ = A ++ metC tru (acc2.1 ++ [_]) :: (B ++ [Cell.lst (itms (acc2.2 ++ [_]))])
              unfold itms
              rw [List.map_append]
              unfold itm
              rw [List.map_singleton, List.dropLast_concat]
        · rintro env S ⟨acc2, x9, hk, hacc2, hg2, hlen2, rfl, rfl⟩
          refine ⟨by rfl, ?_⟩
          rw [List.length_map, List.take_length] at hacc2
          rw [List.length_map] at hlen2
          refine ⟨acc2, _, _, _, _, hjl, ?_, hg2, by omega, hbk, rfl, rfl⟩
          rw [hstep, ← hacc2]
  · rintro env S ⟨acc, x6, x7, x8, x9, hj, hacc, hg, hlen, hbk, rfl, rfl⟩
    refine ⟨hlev.more.seq, ?_⟩
    unfold itms at hacc hbk hlen
    rw [List.length_map, List.take_length] at hacc
    rw [List.length_map, List.drop_length] at hbk
    rw [List.length_map] at hlen
    obtain ⟨m2, hm2, lv2, hb2⟩ := lv.next hro hne h250 hbk
    obtain rfl : m = m2 := by omega
    rw [← hacc] at lv2 hb2
    rw [hb] at hb2
    ((repeat sizeOf_list_dec) <;> (try dsimp only))
    refine (w_lenD W_met (by rw [keysN_len]; exact Nat.le_trans lv2.small (by decide))).mpr ?_
    rw [keysN_len]
    ((repeat sizeOf_list_dec) <;> (try dsimp only))
    by_cases h3 : 250 < acc.1.length
    · rw [decide_eq_true (by omega)]
      have hne3 : acc.2 ≠ [] := fun z => by
        have := hg.len
        rw [z] at this
        simp at this
        omega
      rw [bfs_many lv2.one hne3 h3] at hb2
      subst hb2
      ((repeat sizeOf_list_dec) <;> (try dsimp only))
      exact ⟨Clo.low hA (clo_all hB _), acc.1, _, rfl, hg.seen, lv2.small, hg.old _ hfi, rfl⟩
    · rw [decide_eq_false (by omega)]
      ((repeat sizeOf_list_dec) <;> (try dsimp only))
      exact ⟨acc.1, acc.2, B ++ [.lst (itms acc.2)], _, _, _, _, _, _, rfl, Clo.app hB (clo_itms _), .inr ⟨B.length, rfl, get_last0⟩, lv2, by omega, hg.old _ hfi, hb2.symm, rfl⟩
theorem look_law_spec (K : PySem.W.Frag) (A : Store) (hA : LowS A) (p : Prog) (hp : p.Ok) (i : Nat) (r : Routine) (hr : p.routines[i]? = some r) :
    Post (m_look_ [p.pv, .int i] A) (Looked A (lookB (hof p i) (hof p) r.rows)) := (look_law_spec2 K A hA p hp i r hr).mono fun _ _ h => h.weak
end

/-! PureLi1 -/
/-! PureLi1: check_number. -/
section
open PySem L2
theorem check_number_spec (S : Store) (p : Prog) (i : Nat) (hi : i < p.routines.length) : Post (m_check_number [p.pv, .int i] S) fun v S' => v = .non ∧ S' = S := by
  unfold m_check_number
  refine w_fnP rfl ?_
  ((repeat sizeOf_list_dec) <;> (try dsimp only))
  rw [List.length_map]
  refine (is_below_spec _ _ _).mono ?_
  rintro _ _ ⟨rfl, rfl⟩
  rw [decide_eq_true (by omega)]
  ((repeat sizeOf_list_dec) <;> (try dsimp only))
  exact (leave_same rfl).mpr ⟨rfl, rfl⟩
end

/-! PureLz0 -/
/-! PureZd: the law's measure of likeness; its draws' beginning. -/
section
open PySem L2
theorem w_ffD {A B : Prop} {d : Decidable (false = true)} : (@ite Prop (false = true) d A B) ↔ B := by rw [if_neg Bool.false_ne_true]
theorem w_ttD {A B : Prop} {d : Decidable (true = true)} : (@ite Prop (true = true) d A B) ↔ A := by rw [if_pos rfl]
def isa2R (t u : Ty) (x : PV) (S : Store) : R PV := match isTy S x t, isTy S x u with
  | some k, some j => .ok (.bl (k || j)) S
  | _, _ => .bad
theorem w_isa2 {t u : Ty} {a : XE} {env : LW.Env} {S : Store} {Q : PV → Store → Prop} : Post (eIsa2 t u a env S) Q ↔ Post (a env S) fun x S => Post (isa2R t u x S) Q := by
  unfold eIsa2
  rw [Post.bind]
  exact Iff.rfl
theorem w_isa2T {S : Store} {Q : PV → Store → Prop} {x : PV} {t u : Ty} {j : Bool} (h : isTy S x t = some true) (h2 : isTy S x u = some j) : Post (isa2R t u x S) Q ↔ Q (.bl true) S := by
  unfold isa2R
  rw [h, h2]
  exact Post.ok
theorem w_isa2J {S : Store} {Q : PV → Store → Prop} {x : PV} {t u : Ty} (h : isTy S x t = some false) (h2 : isTy S x u = some true) : Post (isa2R t u x S) Q ↔ Q (.bl true) S := by
  unfold isa2R
  rw [h, h2]
  exact Post.ok
theorem w_isa2N {S : Store} {Q : PV → Store → Prop} {x : PV} {t u : Ty} (h : isTy S x t = some false) (h2 : isTy S x u = some false) : Post (isa2R t u x S) Q ↔ Q (.bl false) S := by
  unfold isa2R
  rw [h, h2]
  exact Post.ok
theorem w_neB {a b : Bool} {S : Store} {Q : PV → Store → Prop} : Post (oNe (.bl a) (.bl b) S) Q ↔ Q (.bl (!(a == b))) S := by
  unfold oNe
  rw [if_pos ⟨rfl, rfl⟩]
  exact Post.ok
theorem w_eqB {a b : Bool} {S : Store} {Q : PV → Store → Prop} : Post (oEq (.bl a) (.bl b) S) Q ↔ Q (.bl (a == b)) S := by
  unfold oEq
  rw [if_pos ⟨rfl, rfl⟩]
  exact Post.ok
end
section
open PySem L2
end
local macro_rules | `(tactic| ac_rfl) => `(tactic| (simp only [PV.isNon, Bool.false_eq_true, ↓reduceIte]))
local macro_rules | `(tactic| ac_rfl) => `(tactic| (with_reducible refine w_ttD.mpr ?_))
local macro_rules | `(tactic| ac_rfl) => `(tactic| (with_reducible refine w_ffD.mpr ?_))
local macro_rules | `(tactic| ac_rfl) => `(tactic| sizeOf_list_dec)
local macro_rules | `(tactic| ac_rfl) => `(tactic| ((with_reducible refine (w_isaK (k := ?wx) ?wh).mpr ?_); (case wh => assumption)))
local macro_rules | `(tactic| ac_rfl) => `(tactic| ((with_reducible refine (w_isa2N ?wh ?wi).mpr ?_); (case wh => first | rfl | assumption); (case wi => first | rfl | assumption)))
local macro_rules | `(tactic| ac_rfl) => `(tactic| ((with_reducible refine (w_isa2J ?wh ?wi).mpr ?_); (case wh => first | rfl | assumption); (case wi => first | rfl | assumption)))
local macro_rules | `(tactic| ac_rfl) => `(tactic| ((with_reducible refine (w_isa2T (j := ?wj) ?wh ?wi).mpr ?_); (case wh => first | rfl | assumption); (case wi => first | rfl | assumption)))
local macro_rules | `(tactic| ac_rfl) => `(tactic| (with_reducible refine w_eqB.mpr ?_))
local macro_rules | `(tactic| ac_rfl) => `(tactic| (with_reducible refine w_neB.mpr ?_))
local macro_rules | `(tactic| ac_rfl) => `(tactic| (with_reducible refine w_isa2.mpr ?_))
section
open PySem L2
inductive Alk (S : Store) : Nat → PV → PV → Prop
  | non (n : Nat) : Alk S n .non .non
  | bl (n : Nat) (b : Bool) : Alk S n (.bl b) (.bl b)
  | int (n : Nat) (i : Int) : Alk S n (.int i) (.int i)
  | str (n : Nat) (s : Str) (h : PyData.strOk s = true) : Alk S n (.str s) (.str s)
  | seq (n : Nat) (x y : PV) (xs ys : List PV) (k : Bool) (hx : seqOf S x = some xs) (hy : seqOf S y = some ys) (tx : isTy S x .list = some k) (ty : isTy S y .list = some k) (ux : isTy S x .tuple = some (!k)) (uy : isTy S y .tuple = some (!k))
      (hl : xs.length = ys.length) (hn : xs.length ≤ 100000) (h : ∀ (i : Nat) (a b : PV), xs[i]? = some a → ys[i]? = some b → Alk S n a b) : Alk S (n + 1) x y
/-- the draws' beginning -/
theorem mix_spec (ns : List Int) (seed : Int) (hn : ns.length ≤ 63) : Post (m_mix [.fz (ns.map .int), .int seed] []) fun v S => v = .loc 1 ∧ ∃ a, S = Hs.st ⟨ns, a, 0⟩ [] := by
  unfold m_mix
  refine w_fnK rfl ?_
  ((repeat ac_rfl) <;> (try dsimp only))
  refine for_go (all := ns.map .int) (fun i env S => ∃ a x, S = [] ∧ env = [some (.fz (ns.map .int)), some (.int seed), some (.int a), x]) (by rfl) ⟨seed, none, rfl, rfl⟩ ?_ ?_
  · rintro i env S x ⟨a, x3, rfl, rfl⟩ hx
    refine ⟨by rfl, ?_⟩
    rw [List.getElem?_map] at hx
    cases hh : ns[i]? with
    | none => rw [hh] at hx; cases hx
    | some z =>
      rw [hh] at hx
      cases hx
      ((repeat ac_rfl) <;> (try dsimp only))
      exact ⟨_, _, by trivial, rfl⟩
  · rintro env S ⟨a, x3, rfl, rfl⟩
    refine ⟨by rfl, ?_⟩
    ((repeat ac_rfl) <;> (try dsimp only))
    exact ⟨by trivial, a, rfl⟩
end

/-! PureLq0 -/
/-! PureLq0: what looks tell, alike; what the law asks of it. -/
section
open PySem L2
theorem brk_ok {h : House} {hc : Nat → House} {s : Sg} {row : Row} : okF (s.brk h hc row) := by
  have e1 : PyData.strOk ("pile" : Str) = true := by decide +kernel
  have e2 : PyData.strOk ("deep" : Str) = true := by decide +kernel
  have e3 : PyData.strOk ("kept" : Str) = true := by decide +kernel
  have hk : ∀ ws, okF (lostK s.bx ws) := fun ws => by
    induction ws with
    | nil => exact True.intro
    | cons b r ih =>
      unfold lostK
      split
      · exact ih
      · exact e3
  have hu := unfit_ok s.bx
  unfold Sg.brk
  split
  · split
    · exact e1
    · have := hk h.kept
      split
      · rename_i f hf
        rw [hf] at this
        exact this
      · exact hu _ _
  · have := hu row.carries (row.looks hc)
    split
    · rename_i f hf
      rw [hf] at this
      exact this
    · split
      · split
        · exact e2
        · exact True.intro
      · split
        · exact e1
        · exact True.intro
      · exact True.intro
theorem brkN_ok {h : House} {hc : Nat → House} {rows : List Row} : ∀ {level : List Nd} {n : Nd} {f : Flt}, brkN h hc rows level = some (n, f) → PyData.strOk f.1 = true
  | [], _, _, h => by cases h
  | m :: l, n, f, hb => by
    unfold brkN at hb
    split at hb
    · split at hb
      · rename_i f' hf
        cases hb
        have t : okF (some f) := by
          rw [← hf]
          exact brk_ok
        exact t
      · exact brkN_ok hb
    · exact brkN_ok hb
theorem bfs_ok {h : House} {hc : Nat → House} {rows : List Row} : ∀ (n : Nat) {seen level s2 : List Nd} {nd : Nd} {f : Flt}, bfs h hc rows n seen level = .brk s2 nd f → PyData.strOk f.1 = true
  | 0, _, _, _, _, _, hb => by cases hb
  | n + 1, seen, level, s2, nd, f, hb => by
    unfold bfs at hb
    split at hb
    · cases hb
    · split at hb
      · cases hb
      · split at hb
        · rename_i nd' f' hk
          cases hb
          exact brkN_ok hk
        · exact bfs_ok n hb
theorem lookO_ok {p : Prog} {i : Nat} {s : List Nd} {nd : Nd} {f : Flt} (h : lookO p i = .brk s nd f) : PyData.strOk f.1 = true := by
  unfold lookO at h
  split at h
  · exact bfs_ok _ h
  · cases h
def Out.manyB : Out → Bool
  | .many => true
  | _ => false
def lawV : Out → PV
  | .many => .str "many"
  | .let_ _ => .non
  | .brk _ nd f => .tup [.ls (ivs nd.way), .str f.1, .int f.2]
theorem looked_v {A : Store} {out : Out} {v : PV} {S : Store} (h : Looked A out v S) : v = .tup [lawV out, .loc A.length] ∧ LowS S ∧ ∃ B, S = A ++ B := by
  cases out with
  | many => exact h
  | let_ s => exact h
  | brk s nd f => exact ⟨h.1, h.2.1, h.2.2.1⟩
theorem plain_ints4 (S : Store) : ∀ xs : List Nat, ((ivs xs).map (res 18 S)).all (plain 18) = true
  | [] => rfl
  | x :: r => by
    show (plain 18 (res 18 S (.int x)) && ((ivs r).map (res 18 S)).all (plain 18)) = true
    rw [plain_ints4 S r, res_int]
    rfl
theorem w_eqTM {xs : List PV} {S : Store} {Q : PV → Store → Prop} (h : plain 20 (res 20 S (.tup xs)) = true) : Post (oEq (.tup xs) (.str "many") S) Q ↔ Q (.bl false) S := by
  unfold oEq
  rw [if_pos ⟨h, show PyData.strOk ("many" : Str) = true by decide +kernel⟩]
  exact Post.ok
theorem w_eqNM {S : Store} {Q : PV → Store → Prop} : Post (oEq .non (.str "many") S) Q ↔ Q (.bl false) S := by
  unfold oEq
  rw [if_pos ⟨rfl, show PyData.strOk ("many" : Str) = true by decide +kernel⟩]
  exact Post.ok
theorem w_eqMM {S : Store} {Q : PV → Store → Prop} : Post (oEq (.str "many") (.str "many") S) Q ↔ Q (.bl true) S := by
  rw [w_eqS (by decide +kernel) (by decide +kernel), decide_eq_true rfl]
theorem w_eqMany {out : Out} {S : Store} {Q : PV → Store → Prop} (h : ∀ s nd f, out = .brk s nd f → PyData.strOk f.1 = true) : Post (oEq (lawV out) (.str "many") S) Q ↔ Q (.bl out.manyB) S := by
  cases out with
  | many => exact w_eqMM
  | let_ s => exact w_eqNM
  | brk s nd f =>
    refine w_eqTM ?_
    show (((ivs nd.way).map (res 18 S)).all (plain 18) && (plain 19 (res 19 S (.str f.1)) && (plain 19 (res 19 S (.int f.2)) && true))) = true
    rw [plain_ints4, res_str, res_int]
    show (true && (PyData.strOk f.1 && true)) = true
    rw [h s nd f rfl]
    rfl
end

/-! PureLr0 -/
/-! PureLr0: what stands in papers. -/
section
open PySem L2
theorem alike_marks : ∀ a b : List Mk, PySem.W.alikeAll (pvDs (marks a)) (pvDs (marks b)) = true
  | [], _ => by show PySem.W.alikeAll [] _ = true; rw [PySem.W.alikeAll]
  | _ :: _, [] => by show PySem.W.alikeAll (_ :: _) [] = true; rw [PySem.W.alikeAll]
  | x :: a, y :: b => by
    show PySem.W.alikeAll (PyData.str x.str :: pvDs (marks a)) (PyData.str y.str :: pvDs (marks b)) = true
    rw [PySem.W.alikeAll, alike_marks a b, PySem.W.alike]
    rfl
theorem alike_sg (s t : Sg) : PySem.W.alike (pvD s.pv) (pvD t.pv) = true := by
  show PySem.W.alike (.tuple [.int s.row, .tuple (pvDs (marks s.bx)), .tuple (pvDs (marks s.pile))]) (.tuple [.int t.row, .tuple (pvDs (marks t.bx)), .tuple (pvDs (marks t.pile))]) = true
  simp only [PySem.W.alike, PySem.W.alikeAll, alike_marks, Bool.and_self]
theorem srt_sgs {ss : List Sg} (h : ss.length ≤ lim) : srtB (ss.map Sg.pv) = true := by
  refine srtB_of (fun x hx => ?_) (fun x hx => ?_) (fun x hx y hy => ?_) (by rw [List.length_map]; exact h)
  · obtain ⟨s, _, rfl⟩ := List.mem_map.mp hx
    exact s.key
  · obtain ⟨s, _, rfl⟩ := List.mem_map.mp hx
    rfl
  · obtain ⟨s, _, rfl⟩ := List.mem_map.mp hx
    obtain ⟨t, _, rfl⟩ := List.mem_map.mp hy
    exact alike_sg s t
section
variable {S : Store} {Q : PV → Store → Prop} {l : Nat} {f : Nd → PV} {seen : List Nd}
end
end

/-! Pure32 -/
/-! Pure32: a told way is walked. -/
section
open PySem L2
/-- [x for x in xs if p(x)] over anything -/
theorem lc_filt {α : Type} {enc : α → PV} {it : LW.It} {zs : List α} {env : LW.Env} {S : Store} {QA : List PV → Store → Prop} {v : Nat} {t : XB} (ha : it.items S = some (zs.map enc)) (hn : zs.length ≤ 1000) (hv : v < env.length) (p : α → Bool)
    (ht : ∀ b, b ∈ zs → Post (t (env.set v (some (enc b))) S) fun k S' => k = p b ∧ S' = S) (hQ : QA ((zs.filter p).map enc) S) : LcP it (gNm v) t (eVar v) env S QA := by
  refine ⟨zs.map enc, ha, lc_inv (fun i acc S' => i ≤ zs.length ∧ acc = ((zs.take i).filter p).map enc ∧ S' = S) ?_ ?_ _ 0 rfl (Nat.zero_le _) _ _ ⟨Nat.zero_le _, rfl, rfl⟩⟩
  · rintro i acc S' x ⟨hi, rfl, rfl⟩ hx
    refine ⟨ha, ?_⟩
    rw [List.getElem?_map, Option.map_eq_some_iff] at hx
    obtain ⟨b, hb, rfl⟩ := hx
    have hlt := (List.getElem?_eq_some_iff.mp hb).1
    refine w_gNm.mpr ((ht b (List.mem_of_getElem? hb)).mono ?_)
    rintro k S2 ⟨rfl, rfl⟩
    have hr : (zs.take (i + 1)).filter p = (zs.take i).filter p ++ (if p b = true then [b] else []) := by
      rw [List.take_add_one, hb, List.filter_append]
      by_cases hp : p b = true <;> simp [hp]
    by_cases hp : p b = true
    · rw [if_pos hp]
      refine (w_var (x := enc b) (by rw [List.getElem?_set_self hv])).mpr ⟨?_, hlt, by rw [hr, if_pos hp, List.map_append]; rfl, rfl⟩
      rw [List.length_map]
      refine Nat.lt_of_le_of_lt (Nat.le_trans (List.length_filter_le _ _) ?_) (by decide : 1000 < lim)
      rw [List.length_take]
      omega
    · rw [if_neg hp]
      exact ⟨hlt, by rw [hr, if_neg hp, List.append_nil], rfl⟩
  · rintro acc S' ⟨_, rfl, rfl⟩
    rw [List.length_map, List.take_length]
    exact ⟨ha, hQ⟩
/-- of what comes next one stands at a row -/
theorem next_one {hc : Nat → House} {s b : Sg} {row : Row} (h : b ∈ s.nexts hc row) : (s.nexts hc row).filter (fun c => decide (c.row = b.row)) = [b] := by
  obtain ⟨t, ht, rfl⟩ := List.mem_map.mp h
  unfold Sg.nexts
  rw [List.filter_map]
  have e : (row.goals s.row).filter ((fun c : Sg => decide (c.row = t)) ∘ fun t => ⟨t, s.boxes hc row, s.piled row⟩) = [t] := by
    show (row.goals s.row).filter (fun u => decide (u = t)) = [t]
    cases row with
    | back => cases ht
    | zero c u =>
      have ht : t ∈ (if u = s.row + 1 then [u] else if u < s.row + 1 then [u, s.row + 1] else [s.row + 1, u]) := ht
      show (if u = s.row + 1 then [u] else if u < s.row + 1 then [u, s.row + 1] else [s.row + 1, u]).filter (fun u => decide (u = t)) = [t]
      by_cases e : u = s.row + 1
      · rw [if_pos e] at ht ⊢
        rw [List.mem_singleton.mp ht]
        simp
      · rw [if_neg e] at ht ⊢
        by_cases e2 : u < s.row + 1
        · rw [if_pos e2] at ht ⊢
          simp only [List.mem_cons, List.not_mem_nil, or_false] at ht
          rcases ht with rfl | rfl
          · rw [List.filter_cons_of_pos (by simp), List.filter_cons_of_neg (by simp; omega)]
            rfl
          · rw [List.filter_cons_of_neg (by simp; omega), List.filter_cons_of_pos (by simp)]
            rfl
        · rw [if_neg e2] at ht ⊢
          simp only [List.mem_cons, List.not_mem_nil, or_false] at ht
          rcases ht with rfl | rfl
          · rw [List.filter_cons_of_pos (by simp), List.filter_cons_of_neg (by simp; omega)]
            rfl
          · rw [List.filter_cons_of_neg (by simp; omega), List.filter_cons_of_pos (by simp)]
            rfl
    | _ => rw [List.mem_singleton.mp ht]; simp [Row.goals]
  rw [e]
  rfl
theorem seqOf_loc {S : Store} {l : Nat} {xs : List PV} (h : S[l]? = some (.lst xs)) : seqOf S (.loc l) = some xs := by
  show (match S[l]? with | some (.lst xs) => some xs | _ => none) = some xs
  rw [h]
theorem w_lenW {S : Store} {l : Nat} {xs : List PV} {Q : PV → Store → Prop} (h : S[l]? = some (.lst xs)) : Post (bLen [.loc l] S) Q ↔ Q (.int (xs.length : Nat)) S := w_len (seqOf_loc h)
theorem w_addWL {S : Store} {l : Nat} {xs ys : List PV} {Q : PV → Store → Prop} (h : S[l]? = some (.lst xs)) (h2 : xs.length + ys.length ≤ lim) : Post (oAdd (.loc l) (.ls ys) S) Q ↔ Q (.ls (xs ++ ys)) S := by
  unfold oAdd
  simp only [show lstOf S (.loc l) = some xs from seqOf_loc h, show lstOf S (.ls ys) = some ys from rfl]
  rw [if_pos h2]
  exact Post.ok
theorem plain_one (S : Store) (s : Sg) : plain 20 (res 20 S (.ls [s.pv])) = true := by
  have h := plain_itms S []
  show (plain 19 (res 19 S s.pv) && true) = true
  rw [Bool.and_true]
  show (plain 18 (res 18 S (.int s.row)) && (plain 18 (res 18 S (.tup (marks s.bx))) && (plain 18 (res 18 S (.tup (marks s.pile))) && true))) = true
  have m : ∀ xs : List Mk, plain 18 (res 18 S (.tup (marks xs))) = true := fun xs => by
    show ((marks xs).map (res 17 S)).all (plain 17) = true
    refine List.all_eq_true.mpr fun x hx => ?_
    obtain ⟨y, hy, rfl⟩ := List.mem_map.mp hx
    obtain ⟨k, _, rfl⟩ := List.mem_map.mp hy
    exact Mk.strOk k
  rw [m, m, res_int]
  rfl
theorem first_pv (p : Prog) (i : Nat) (h : House) : (Nd.first h).s.pv = .tup [.int 0, .tup (marks ((List.range 6).map fun b => if h.kept.contains b = true then fig b else if h.ins.contains b = true then .good else .loose)), .tup []] := rfl
set_option maxHeartbeats 4000000 in
theorem walked_spec (S : Store) (hS : LowS S) (p : Prog) (hp : p.Ok) (i : Nat) (r : Routine) (hr : p.routines[i]? = some r) {ss : List Sg} {way : List Nat} {z : Sg} {f : Flt} (C : Chain r (hof p i) (hof p) ss way z) (hz : ∃ row, z.At r row ∧ z.brk (hof p i) (hof p) row = some f)
    (l : Nat) (hl : S[l]? = some (.lst (ivs way))) (h7 : way.length ≤ 750) : Post (m_walked [p.pv, .int i, .loc l] S) fun v S' => v = .tup [.bl true, .tup [.str f.1, .int f.2]] ∧ S' = S := by
  have wl : way.length = ss.length := by rw [C.way, List.length_map]
  have l0 : 0 < ss.length := (List.getElem?_eq_some_iff.mp C.beg).1
  unfold m_walked
  refine w_fnP rfl ?_
  ((repeat sizeOf_list_dec) <;> (try dsimp only))
  refine (first_law_spec S p hp i r hr fun _ => true).mono ?_
  rintro _ S1 ⟨rfl, e⟩
  obtain rfl := e.symm
  rw [← first_pv p i]
  ((repeat sizeOf_list_dec) <;> (try dsimp only))
  refine (w_lenW hl).mpr ?_
  rw [ivs_length]
  refine (w_rng (by omega)).mpr ?_
  rw [Int.toNat_natCast]
  refine for_go (all := upto 0 way.length) (fun k env S' => S' = S ∧ k < ss.length ∧ ∃ (s : Sg) (x4 x5 x6 x7 : Option PV), ss[k]? = some s ∧ env = [some p.pv, some (.int i), some (.loc l), some s.pv, x4, x5, x6, x7]) (by rfl) ⟨rfl, l0, (Nd.first (hof p i)).s, _, _, _, _, C.beg, rfl⟩ ?_ ?_
  · rintro k env S' x ⟨rfl, hk, s, x4, x5, x6, x7, hs, rfl⟩ hx
    refine ⟨by rfl, ?_⟩
    rw [upto_get (by omega), Int.zero_add] at hx
    cases hx
    have hw : atI (ivs way) (k : Int) = some (.int s.row) := atI_map (f := fun n : Nat => PV.int n) (x := s.row) (by rw [C.way, List.getElem?_map, hs]; rfl)
    obtain ⟨row, a, hb⟩ : ∃ row, s.At r row ∧ (s.brk (hof p i) (hof p) row = if k + 1 = ss.length then some f else none) := by
      by_cases e : k + 1 = ss.length
      · have : z = s := by
          have h := C.fin
          rw [← e, Nat.add_sub_cancel, hs] at h
          exact (Option.some.inj h).symm
        subst this
        obtain ⟨row, a, b⟩ := hz
        exact ⟨row, a, by rw [if_pos e]; exact b⟩
      · obtain ⟨row, a, b, _⟩ := (C.go k s _ hs (List.getElem?_eq_getElem (show k + 1 < ss.length by omega))).go
        exact ⟨row, a, by rw [if_neg e]; exact b⟩
    ((repeat sizeOf_list_dec) <;> (try dsimp only))
    refine (breaks_spec _ p hp i r hr s row a).mono ?_
    rintro _ _ ⟨rfl, rfl⟩
    rw [hb]
    ((repeat sizeOf_list_dec) <;> (try dsimp only))
    refine (w_ix (seqOf_loc hl) hw).mpr ?_
    ((repeat sizeOf_list_dec) <;> (try dsimp only))
    rw [beq_self_eq_true]
    ((repeat sizeOf_list_dec) <;> (try dsimp only))
    refine w_notN.mpr ?_
    ((repeat sizeOf_list_dec) <;> (try dsimp only))
    refine (w_lenW hl).mpr ?_
    rw [ivs_length]
    ((repeat sizeOf_list_dec) <;> (try dsimp only))
    refine w_neB.mpr ?_
    by_cases e : k + 1 = ss.length
    · rw [if_pos e, show (optF (some f)).isNon = false from rfl, show ((k : Int) == (way.length : Int) - 1) = true from beq_iff_eq.mpr (by omega)]
      ((repeat sizeOf_list_dec) <;> (try dsimp only))
      (((rw [if_neg (by decide +kernel)]); ((repeat sizeOf_list_dec) <;> (try dsimp only))))
      refine w_notN.mpr ?_
      rw [show (optF (some f)).isNon = false from rfl]
      ((repeat sizeOf_list_dec) <;> (try dsimp only))
      exact (leave_same rfl).mpr ⟨rfl, rfl⟩
    · have hk1 : k + 1 < ss.length := by omega
      obtain ⟨row2, a2, b2, hm⟩ := (C.go k s _ hs (List.getElem?_eq_getElem hk1)).go
      generalize hn : ss[k + 1] = behindS at hm
      have hn1 : ss[k + 1]? = some behindS := by rw [List.getElem?_eq_getElem hk1, hn]
      have e2 : row2 = row := by
        have h := a2.at_
        rw [a.at_] at h
        exact (Option.some.inj h).symm
      subst e2
      rw [if_neg e, show (optF none).isNon = true from rfl, show ((k : Int) == (way.length : Int) - 1) = false from beq_eq_false_iff_ne.mpr (by omega)]
      ((repeat sizeOf_list_dec) <;> (try dsimp only))
      (((rw [if_neg (by decide +kernel)]); ((repeat sizeOf_list_dec) <;> (try dsimp only))))
      refine w_notN.mpr ?_
      rw [show (optF none).isNon = true from rfl]
      ((repeat sizeOf_list_dec) <;> (try dsimp only))
      refine (nexts_spec _ hS p hp i r hr s row2 a b2).mono ?_
      rintro _ S1 ⟨rfl, e⟩
      obtain rfl := e.symm
      ((repeat sizeOf_list_dec) <;> (try dsimp only))
      refine lc_filt (zs := s.nexts (hof p) row2) (enc := Sg.pv) (by rfl) (Nat.le_trans (nexts_two _ _ _) (by omega)) (by show 7 < 8; decide) (fun c => decide (c.row = behindS.row)) (fun c hc => ?_) ?_
      · have at1 : atI (ivs way ++ [.int (-1)]) ((k : Int) + 1) = some (.int behindS.row) := by
          have h : (ivs way)[k + 1]? = some (.int behindS.row) := by
            unfold ivs
            rw [C.way, List.getElem?_map, List.getElem?_map, hn1]
            rfl
          have lt := (List.getElem?_eq_some_iff.mp h).1
          rw [show (k : Int) + 1 = ((k + 1 : Nat) : Int) from rfl]
          rw [L2.atI_nat (j := k + 1)]
          rw [List.getElem?_append_left lt]
          exact h
        ((repeat sizeOf_list_dec) <;> (try dsimp only))
        refine (w_addWL hl (by rw [ivs_length]; exact Nat.le_trans (show way.length + 1 ≤ 1000 by omega) (by decide))).mpr ?_
        ((repeat sizeOf_list_dec) <;> (try dsimp only))
        refine (w_ix rfl at1).mpr ?_
        ((repeat sizeOf_list_dec) <;> (try dsimp only))
        refine ⟨?_, by trivial⟩
        rw [Bool.eq_iff_iff, beq_iff_eq, decide_eq_true_eq]
        omega
      · rw [next_one hm]
        ((repeat sizeOf_list_dec) <;> (try dsimp only))
        refine (w_eqE' (plain_one _ _)).mpr ?_
        ((repeat sizeOf_list_dec) <;> (try dsimp only))
        exact ⟨by trivial, hk1, behindS, _, _, _, _, hn1, rfl⟩
  · rintro env S' ⟨rfl, hk, _⟩
    rw [upto_length] at hk
    omega
end

/-! Pure33 -/
/-! Pure33: no shorter way breaks. -/
section
open PySem L2
def sortNR (x : PV) (S : Store) : R PV := match lstOf S x with
  | some xs => if srtB xs = true ∧ (dedN xs).length ≤ 306 then .ok (.ls (sortN (dedN xs))) S else .bad
  | none => .bad
theorem w_sortSetN {m : XE} {env : LW.Env} {S : Store} {Q : PV → Store → Prop} : Post (eSortSetN m env S) Q ↔ Post (m env S) fun x S => Post (sortNR x S) Q := by
  unfold eSortSetN
  rw [Post.bind]
  exact Iff.rfl
theorem w_sortNR {l : Nat} {xs : List PV} {S : Store} {Q : PV → Store → Prop} (h : S[l]? = some (.lst xs)) (h1 : srtB xs = true) (h2 : (dedN xs).length ≤ 306) : Post (sortNR (.loc l) S) Q ↔ Q (.ls (sortN (dedN xs))) S := by
  unfold sortNR
  simp only [show lstOf S (.loc l) = some xs from seqOf_loc h]
  rw [if_pos ⟨h1, h2⟩]
  exact Post.ok
theorem count_le : ∀ (l m : List PV), l.Nodup → (∀ x ∈ l, x ∈ m) → l.length ≤ m.length
  | [], _, _, _ => Nat.zero_le _
  | x :: l, m, n, s => by
    obtain ⟨n1, n2⟩ := List.nodup_cons.mp n
    have hx := s x List.mem_cons_self
    have ih := count_le l (m.erase x) n2 fun y hy => (List.mem_erase_of_ne (fun (e : y = x) => n1 (e ▸ hy))).mpr (s y (List.mem_cons_of_mem _ hy))
    rw [List.length_erase_of_mem hx] at ih
    have := List.length_pos_of_mem hx
    rw [List.length_cons]
    omega
/-- these states stand in seen, not deeper than d -/
def Upto (sn : List Nd) (d : Nat) (xs : List Sg) : Prop := ∀ s ∈ xs, ∃ m ∈ sn, m.s = s ∧ m.way.length ≤ d
theorem upto_few {sn : List Nd} {d : Nat} {ys : List Sg} (h : Upto sn d ys) (hn : sn.length ≤ 250) : (dedN (ys.map Sg.pv)).length ≤ 250 := by
  have := count_le _ (sn.map fun m => m.s.pv) (nodup_dedN (ys.map Sg.pv)) fun x hx => by
    obtain ⟨s, hs, rfl⟩ := List.mem_map.mp (mem_dedN.mp hx)
    obtain ⟨m, m1, rfl, _⟩ := h s hs
    exact List.mem_map.mpr ⟨m, m1, rfl⟩
  rw [List.length_map] at this
  omega
theorem upto_sorted {sn : List Nd} {d : Nat} {ys : List Sg} (h : Upto sn d ys) (hn : sn.length ≤ 250) : ∃ zs : List Sg, sortN (dedN (ys.map Sg.pv)) = zs.map Sg.pv ∧ Upto sn d zs ∧ zs.length ≤ 250 := by
  obtain ⟨zs, e, hz⟩ := back_map (f := Sg.pv) (ks := ys) (L := sortN (dedN (ys.map Sg.pv))) fun x hx => mem_dedN.mp ((sortN_perm _).mem_iff.mp hx)
  refine ⟨zs, e, fun s hs => h s (hz s hs), ?_⟩
  have h1 := congrArg List.length e
  rw [sortN_len, List.length_map] at h1
  have := upto_few h hn
  omega
theorem Dp.inner {r : Routine} {h : House} {hc : Nat → House} {sn lv : List Nd} {t d : Nat} (D : Dp r h hc sn lv t) (hd : d + 1 ≤ t) {xs : List Sg} (hx : Upto sn (d + 1) xs) : ∀ s ∈ xs, ∃ row, s.At r row ∧ s.brk h hc row = none ∧ Upto sn (d + 2) (s.nexts hc row) := fun s hs => by
  obtain ⟨m, m1, rfl, m2⟩ := hx s hs
  rcases D.cls m m1 with z | ⟨_, ⟨row, a, b⟩, z⟩
  · have := D.lvl m z
    omega
  · refine ⟨row, a, b, fun c hcm => ?_⟩
    obtain ⟨k, k1, k2, k3⟩ := z row a.at_ c hcm
    exact ⟨k, k1, k2, by omega⟩
set_option maxHeartbeats 4000000 in
theorem shorter_spec (A : Store) (hA : LowS A) (p : Prog) (hp : p.Ok) (i : Nat) (r : Routine) (hr : p.routines[i]? = some r) {sn lv : List Nd} {t : Nat} (D : Dp r (hof p i) (hof p) sn lv t) (hn : sn.length ≤ 250) (ht : t ≤ 750) :
    Post (m_shorter [p.pv, .int i, .int ((t + 1 : Nat) : Int)] A) fun v S' => v = .bl false ∧ LowS S' ∧ ∃ B, S' = A ++ B := by
  unfold m_shorter
  refine w_fnK rfl ?_
  ((repeat sizeOf_list_dec) <;> (try dsimp only))
  refine (first_law_spec A p hp i r hr fun _ => true).mono ?_
  rintro _ S1 ⟨rfl, e⟩
  obtain rfl := e.symm
  rw [← first_pv p i]
  ((repeat sizeOf_list_dec) <;> (try dsimp only))
  rw [show (((t + 1 : Nat) : Int) - 1).toNat = t by omega]
  refine for_go (all := upto 0 t) (fun d env S' => ∃ (xs : List Sg) (B : Store) (x4 x5 x6 : Option PV), d ≤ t ∧ Upto sn (d + 1) xs ∧ xs.length ≤ 250 ∧ S' = A ++ B ∧ LowS S' ∧ env = [some p.pv, some (.int i), some (.int ((t + 1 : Nat) : Int)), some (.ls (xs.map Sg.pv)), x4, x5, x6]) (by rfl) ⟨[(Nd.first (hof p i)).s], [], none, none, none, Nat.zero_le _, ?_, by show 1 ≤ 250; omega, (List.append_nil _).symm, hA, rfl⟩ ?_ ?_
  · intro s hs
    rw [List.mem_singleton.mp hs]
    obtain ⟨m, m1, m2, m3⟩ := D.root
    exact ⟨m, m1, m2, m3⟩
  · rintro d env S' x ⟨xs, B, x4, x5, x6, hdt, hx, hx250, rfl, hlow, rfl⟩ hd
    refine ⟨by rfl, ?_⟩
    have hd1 : d < t := by
      have := (List.getElem?_eq_some_iff.mp hd).1
      rwa [upto_length] at this
    rw [upto_get hd1, Int.zero_add] at hd
    cases hd
    have inner := D.inner (d := d) hd1 hx
    have lowB : LowS (A ++ B) := hlow
    ((repeat sizeOf_list_dec) <;> (try dsimp only))
    refine for_go (all := xs.map Sg.pv) (fun j env S' => ∃ (ys : List Sg) (x6 : Option PV), Upto sn (d + 2) ys ∧ ys.length ≤ 2 * j ∧ j ≤ xs.length ∧ S' = A ++ B ++ [.lst (ys.map Sg.pv)] ∧ env = [some p.pv, some (.int i), some (.int ((t + 1 : Nat) : Int)), some (.ls (xs.map Sg.pv)), some (.int (d : Int)), some (.loc (A ++ B).length), x6]) (by rfl) ⟨[], _, fun _ z => (nomatch z), Nat.zero_le _, Nat.zero_le _, rfl, rfl⟩ ?_ ?_
    · rintro j env S' x ⟨ys, x6, hy, hyl, hj, rfl, rfl⟩ hxj
      refine ⟨by rfl, ?_⟩
      rw [List.getElem?_map, Option.map_eq_some_iff] at hxj
      obtain ⟨s, hs, rfl⟩ := hxj
      have hjl := (List.getElem?_eq_some_iff.mp hs).1
      obtain ⟨row, a, b, up⟩ := inner s (List.mem_of_getElem? hs)
      have two := nexts_two (hof p) s row
      have lowY : LowS (A ++ B ++ [Cell.lst (ys.map Sg.pv)]) := LowS.one lowB (lows_all _ _ fun x hx => by
        obtain ⟨y, _, rfl⟩ := List.mem_map.mp hx
        exact Sg.low _ y)
      have at5 : (A ++ B ++ [Cell.lst (ys.map Sg.pv)])[(A ++ B).length]? = some (.lst (ys.map Sg.pv)) := get_last0
      ((repeat sizeOf_list_dec) <;> (try dsimp only))
      refine (breaks_spec _ p hp i r hr s row a).mono ?_
      rintro _ _ ⟨rfl, rfl⟩
      rw [b]
      ((repeat sizeOf_list_dec) <;> (try dsimp only))
      refine w_notN.mpr ?_
      rw [show (optF none).isNon = true from rfl]
      ((repeat sizeOf_list_dec) <;> (try dsimp only))
      refine ⟨_, _, rfl, at5, ?_⟩
      ((repeat sizeOf_list_dec) <;> (try dsimp only))
      refine (nexts_spec _ lowY p hp i r hr s row a b).mono ?_
      rintro _ _ ⟨rfl, rfl⟩
      ((repeat sizeOf_list_dec) <;> (try dsimp only))
      refine (w_mExtend at5 rfl (by rw [List.length_map, List.length_map]; exact Nat.le_trans (show ys.length + (s.nexts (hof p) row).length ≤ 600 by omega) (by decide))).mpr ?_
      rw [set_last0, ← List.map_append]
      ((repeat sizeOf_list_dec) <;> (try dsimp only))
      refine ⟨ys ++ s.nexts (hof p) row, _, fun c hcm => (List.mem_append.mp hcm).elim (hy c) (up c), by rw [List.length_append]; omega, hjl, rfl, rfl⟩
    · rintro env S' ⟨ys, x6, hy, hyl, hj, rfl, rfl⟩
      refine ⟨by rfl, ?_⟩
      rw [List.length_map] at hyl
      have at5 : (A ++ B ++ [Cell.lst (ys.map Sg.pv)])[(A ++ B).length]? = some (.lst (ys.map Sg.pv)) := get_last0
      ((repeat sizeOf_list_dec) <;> (try dsimp only))
      refine w_sortSetN.mpr ?_
      ((repeat sizeOf_list_dec) <;> (try dsimp only))
      refine (w_sortNR at5 (srt_sgs (Nat.le_trans (show ys.length ≤ 600 by omega) (by decide))) (Nat.le_trans (upto_few hy hn) (by decide))).mpr ?_
      obtain ⟨zs, e, hz, hz250⟩ := upto_sorted hy hn
      rw [e]
      ((repeat sizeOf_list_dec) <;> (try dsimp only))
      exact ⟨zs, B ++ [.lst (ys.map Sg.pv)], _, _, _, hd1, hz, hz250, (List.append_assoc ..), LowS.one lowB (lows_all _ _ fun x hx => by
        obtain ⟨y, _, rfl⟩ := List.mem_map.mp hx
        exact Sg.low _ y), rfl⟩
  · rintro env S' ⟨xs, B, x4, x5, x6, hdt, hx, hx250, rfl, hlow, rfl⟩
    refine ⟨by rfl, ?_⟩
    ((repeat sizeOf_list_dec) <;> (try dsimp only))
    exact ⟨by trivial, hlow, B, by trivial⟩
end

/-! PureK -/
/-! PureK: any rows. -/
section
open PySem L2
theorem wild_row_spec (g : Hs) (rest : Store) (hg : g.Ok) (rows routines : Nat) (h1 : 0 < rows) (h2 : rows < 1000) (h3 : 0 < routines) (h4 : routines < 1000) :
    Post (m_wild_row [.loc 1, .int rows, .int routines] (g.st rest)) fun v S => ∃ (r : Row) (g' : Hs), v = r.pv ∧ r.Ok rows routines ∧ S = g'.st rest ∧ g'.Ok := by
  unfold m_wild_row
  refine w_fnP rfl ?_
  ((repeat array_mem_dec) <;> (try dsimp only))
  ((refine Post.mono (next_spec _ _ _ hg ?hn0 ?hn1) ?_); (case hn0 => omega); (case hn1 => omega))
  rintro _ _ ⟨w, g1, rfl, rfl, hg1, w0, w1⟩
  obtain ⟨word, hw, hword⟩ : ∃ word : Str, word ∈ (["put", "move", "add", "take", "push", "pop", "say", "zero", "go", "call", "back"] : List Str) ∧ atI [PV.str "put", PV.str "move", PV.str "add", PV.str "take", PV.str "push", PV.str "push", PV.str "pop", PV.str "pop", PV.str "say", PV.str "zero", PV.str "zero", PV.str "go", PV.str "call", PV.str "back"] w = some (.str word) := by
    rcases (by omega : w = 0 ∨ w = 1 ∨ w = 2 ∨ w = 3 ∨ w = 4 ∨ w = 5 ∨ w = 6 ∨ w = 7 ∨ w = 8 ∨ w = 9 ∨ w = 10 ∨ w = 11 ∨ w = 12 ∨ w = 13) with rfl | rfl | rfl | rfl | rfl | rfl | rfl | rfl | rfl | rfl | rfl | rfl | rfl | rfl <;> exact ⟨_, by decide +kernel, rfl⟩
  refine (w_ix (by rfl) hword).mpr ?_
  ((repeat array_mem_dec) <;> (try dsimp only))
  refine lc_draws (P := fun _ x => ∃ s : Int, x = .int s ∧ 0 ≤ s ∧ s < 6) hg1 (by decide) (fun i g0 hi hg0 => ?_) (fun some0 g2 hg2 hl hP => ?_)
  · ((repeat array_mem_dec) <;> (try dsimp only))
    ((refine Post.mono (next_spec _ _ _ hg0 ?hn0 ?hn1) ?_); (case hn0 => omega); (case hn1 => omega))
    rintro _ _ ⟨r2, g3, rfl, rfl, hg3, a2, b2⟩
    exact ⟨g3, rfl, hg3, r2, rfl, a2, b2⟩
  · obtain ⟨a, b, c, rfl, ha, hb, hc⟩ : ∃ a b c : Nat, some0 = [.int a, .int b, .int c] ∧ a < 6 ∧ b < 6 ∧ c < 6 := by
      match some0, hl, hP with
      | [x, y, z], _, hP =>
        obtain ⟨a, rfl, a0, a1⟩ := hP 0 x rfl
        obtain ⟨b, rfl, b0, b1⟩ := hP 1 y rfl
        obtain ⟨c, rfl, c0, c1⟩ := hP 2 z rfl
        exact ⟨a.toNat, b.toNat, c.toNat, by rw [Int.toNat_of_nonneg a0, Int.toNat_of_nonneg b0, Int.toNat_of_nonneg c0], by omega, by omega, by omega⟩
    ((repeat array_mem_dec) <;> (try dsimp only))
    simp only [List.mem_cons, List.not_mem_nil, or_false] at hw
    rcases hw with rfl | rfl | rfl | rfl | rfl | rfl | rfl | rfl | rfl | rfl | rfl
    · -- put
      refine (w_in (by rfl) rfl (by decide +kernel)).mpr ?_
      rw [show inSeq (.str "put") [.str "move", .str "push", .str "pop", .str "say", .str "add", .str "take"] = false by decide +kernel]
      ((repeat array_mem_dec) <;> (try dsimp only))
      rw [if_pos (by decide +kernel)]
      ((repeat array_mem_dec) <;> (try dsimp only))
      refine (number_spec _ _ hg2).mono ?_
      rintro _ _ ⟨n, g3, rfl, rfl, hg3, n0, n1⟩
      ((repeat array_mem_dec) <;> (try dsimp only))
      exact (leave_same rfl).mpr ⟨.put a n.toNat, g3, by show _ = PV.tup _; rw [Int.toNat_of_nonneg n0], ⟨ha, by omega⟩, rfl, hg3⟩
    · -- move
      refine (w_in (by rfl) rfl (by decide +kernel)).mpr ?_
      rw [show inSeq (.str "move") [.str "move", .str "push", .str "pop", .str "say", .str "add", .str "take"] = true by decide +kernel]
      ((repeat array_mem_dec) <;> (try dsimp only))
      refine w_get2 ?_
      refine w_eDc.mpr ?_
      ((repeat array_mem_dec) <;> (try dsimp only))
      refine ⟨rfl, by decide, by decide +kernel, _, _, rfl, ?_⟩
      ((repeat array_mem_dec) <;> (try dsimp only))
      refine ⟨_, rfl, ?_⟩
      ((repeat array_mem_dec) <;> (try dsimp only))
      rw [show (lookS ["move", "add", "take"] [.int 2, .int 3, .int 3] "move").getD (.int 1) = .int 2 by decide +kernel]
      ((repeat array_mem_dec) <;> (try dsimp only))
      rw [show cut [.int a, .int b, .int c] none (some 2) = [.int a, .int b] by rfl]
      refine (w_addT (Nat.le_of_ble_eq_true rfl)).mpr ?_
      ((repeat array_mem_dec) <;> (try dsimp only))
      exact (leave_same rfl).mpr ⟨.move a b, g2, rfl, ⟨ha, hb⟩, rfl, hg2⟩
    · -- add
      refine (w_in (by rfl) rfl (by decide +kernel)).mpr ?_
      rw [show inSeq (.str "add") [.str "move", .str "push", .str "pop", .str "say", .str "add", .str "take"] = true by decide +kernel]
      ((repeat array_mem_dec) <;> (try dsimp only))
      refine w_get2 ?_
      refine w_eDc.mpr ?_
      ((repeat array_mem_dec) <;> (try dsimp only))
      refine ⟨rfl, by decide, by decide +kernel, _, _, rfl, ?_⟩
      ((repeat array_mem_dec) <;> (try dsimp only))
      refine ⟨_, rfl, ?_⟩
      ((repeat array_mem_dec) <;> (try dsimp only))
      rw [show (lookS ["move", "add", "take"] [.int 2, .int 3, .int 3] "add").getD (.int 1) = .int 3 by decide +kernel]
      ((repeat array_mem_dec) <;> (try dsimp only))
      rw [show cut [.int a, .int b, .int c] none (some 3) = [.int a, .int b, .int c] by rfl]
      refine (w_addT (Nat.le_of_ble_eq_true rfl)).mpr ?_
      ((repeat array_mem_dec) <;> (try dsimp only))
      exact (leave_same rfl).mpr ⟨.add a b c, g2, rfl, ⟨ha, hb, hc⟩, rfl, hg2⟩
    · -- take
      refine (w_in (by rfl) rfl (by decide +kernel)).mpr ?_
      rw [show inSeq (.str "take") [.str "move", .str "push", .str "pop", .str "say", .str "add", .str "take"] = true by decide +kernel]
      ((repeat array_mem_dec) <;> (try dsimp only))
      refine w_get2 ?_
      refine w_eDc.mpr ?_
      ((repeat array_mem_dec) <;> (try dsimp only))
      refine ⟨rfl, by decide, by decide +kernel, _, _, rfl, ?_⟩
      ((repeat array_mem_dec) <;> (try dsimp only))
      refine ⟨_, rfl, ?_⟩
      ((repeat array_mem_dec) <;> (try dsimp only))
      rw [show (lookS ["move", "add", "take"] [.int 2, .int 3, .int 3] "take").getD (.int 1) = .int 3 by decide +kernel]
      ((repeat array_mem_dec) <;> (try dsimp only))
      rw [show cut [.int a, .int b, .int c] none (some 3) = [.int a, .int b, .int c] by rfl]
      refine (w_addT (Nat.le_of_ble_eq_true rfl)).mpr ?_
      ((repeat array_mem_dec) <;> (try dsimp only))
      exact (leave_same rfl).mpr ⟨.take a b c, g2, rfl, ⟨ha, hb, hc⟩, rfl, hg2⟩
    · -- push
      refine (w_in (by rfl) rfl (by decide +kernel)).mpr ?_
      rw [show inSeq (.str "push") [.str "move", .str "push", .str "pop", .str "say", .str "add", .str "take"] = true by decide +kernel]
      ((repeat array_mem_dec) <;> (try dsimp only))
      refine w_get2 ?_
      refine w_eDc.mpr ?_
      ((repeat array_mem_dec) <;> (try dsimp only))
      refine ⟨rfl, by decide, by decide +kernel, _, _, rfl, ?_⟩
      ((repeat array_mem_dec) <;> (try dsimp only))
      refine ⟨_, rfl, ?_⟩
      ((repeat array_mem_dec) <;> (try dsimp only))
      rw [show (lookS ["move", "add", "take"] [.int 2, .int 3, .int 3] "push").getD (.int 1) = .int 1 by decide +kernel]
      ((repeat array_mem_dec) <;> (try dsimp only))
      rw [show cut [.int a, .int b, .int c] none (some 1) = [.int a] by rfl]
      refine (w_addT (Nat.le_of_ble_eq_true rfl)).mpr ?_
      ((repeat array_mem_dec) <;> (try dsimp only))
      exact (leave_same rfl).mpr ⟨.push a, g2, rfl, ha, rfl, hg2⟩
    · -- pop
      refine (w_in (by rfl) rfl (by decide +kernel)).mpr ?_
      rw [show inSeq (.str "pop") [.str "move", .str "push", .str "pop", .str "say", .str "add", .str "take"] = true by decide +kernel]
      ((repeat array_mem_dec) <;> (try dsimp only))
      refine w_get2 ?_
      refine w_eDc.mpr ?_
      ((repeat array_mem_dec) <;> (try dsimp only))
      refine ⟨rfl, by decide, by decide +kernel, _, _, rfl, ?_⟩
      ((repeat array_mem_dec) <;> (try dsimp only))
      refine ⟨_, rfl, ?_⟩
      ((repeat array_mem_dec) <;> (try dsimp only))
      rw [show (lookS ["move", "add", "take"] [.int 2, .int 3, .int 3] "pop").getD (.int 1) = .int 1 by decide +kernel]
      ((repeat array_mem_dec) <;> (try dsimp only))
      rw [show cut [.int a, .int b, .int c] none (some 1) = [.int a] by rfl]
      refine (w_addT (Nat.le_of_ble_eq_true rfl)).mpr ?_
      ((repeat array_mem_dec) <;> (try dsimp only))
      exact (leave_same rfl).mpr ⟨.pop a, g2, rfl, ha, rfl, hg2⟩
    · -- say
      refine (w_in (by rfl) rfl (by decide +kernel)).mpr ?_
      rw [show inSeq (.str "say") [.str "move", .str "push", .str "pop", .str "say", .str "add", .str "take"] = true by decide +kernel]
      ((repeat array_mem_dec) <;> (try dsimp only))
      refine w_get2 ?_
      refine w_eDc.mpr ?_
      ((repeat array_mem_dec) <;> (try dsimp only))
      refine ⟨rfl, by decide, by decide +kernel, _, _, rfl, ?_⟩
      ((repeat array_mem_dec) <;> (try dsimp only))
      refine ⟨_, rfl, ?_⟩
      ((repeat array_mem_dec) <;> (try dsimp only))
      rw [show (lookS ["move", "add", "take"] [.int 2, .int 3, .int 3] "say").getD (.int 1) = .int 1 by decide +kernel]
      ((repeat array_mem_dec) <;> (try dsimp only))
      rw [show cut [.int a, .int b, .int c] none (some 1) = [.int a] by rfl]
      refine (w_addT (Nat.le_of_ble_eq_true rfl)).mpr ?_
      ((repeat array_mem_dec) <;> (try dsimp only))
      exact (leave_same rfl).mpr ⟨.say a, g2, rfl, ha, rfl, hg2⟩
    · -- zero
      refine (w_in (by rfl) rfl (by decide +kernel)).mpr ?_
      rw [show inSeq (.str "zero") [.str "move", .str "push", .str "pop", .str "say", .str "add", .str "take"] = false by decide +kernel]
      ((repeat array_mem_dec) <;> (try dsimp only))
      rw [if_neg (by decide +kernel)]
      ((repeat array_mem_dec) <;> (try dsimp only))
      rw [if_pos (by decide +kernel)]
      ((repeat array_mem_dec) <;> (try dsimp only))
      ((refine Post.mono (next_spec _ _ _ hg2 ?hn0 ?hn1) ?_); (case hn0 => omega); (case hn1 => omega))
      rintro _ _ ⟨n, g3, rfl, rfl, hg3, n0, n1⟩
      ((repeat array_mem_dec) <;> (try dsimp only))
      exact (leave_same rfl).mpr ⟨.zero a n.toNat, g3, by show _ = PV.tup _; rw [Int.toNat_of_nonneg n0], ⟨ha, by omega⟩, rfl, hg3⟩
    · -- go
      refine (w_in (by rfl) rfl (by decide +kernel)).mpr ?_
      rw [show inSeq (.str "go") [.str "move", .str "push", .str "pop", .str "say", .str "add", .str "take"] = false by decide +kernel]
      ((repeat array_mem_dec) <;> (try dsimp only))
      rw [if_neg (by decide +kernel)]
      ((repeat array_mem_dec) <;> (try dsimp only))
      rw [if_neg (by decide +kernel)]
      ((repeat array_mem_dec) <;> (try dsimp only))
      refine w_eDc.mpr ?_
      ((repeat array_mem_dec) <;> (try dsimp only))
      ((refine Post.mono (next_spec _ _ _ hg2 ?hn0 ?hn1) ?_); (case hn0 => omega); (case hn1 => omega))
      rintro _ _ ⟨n, g3, rfl, rfl, hg3, n0, n1⟩
      ((repeat array_mem_dec) <;> (try dsimp only))
      ((refine Post.mono (next_spec _ _ _ hg3 ?hn0 ?hn1) ?_); (case hn0 => omega); (case hn1 => omega))
      rintro _ _ ⟨m, g4, rfl, rfl, hg4, m0, m1⟩
      ((repeat array_mem_dec) <;> (try dsimp only))
      refine ⟨rfl, by decide, by decide +kernel, ?_⟩
      ((repeat array_mem_dec) <;> (try dsimp only))
      exact (leave_same rfl).mpr ⟨.go n.toNat, g4, by show _ = PV.tup _; rw [Int.toNat_of_nonneg n0], (show n.toNat < rows by omega), rfl, hg4⟩
    · -- call
      refine (w_in (by rfl) rfl (by decide +kernel)).mpr ?_
      rw [show inSeq (.str "call") [.str "move", .str "push", .str "pop", .str "say", .str "add", .str "take"] = false by decide +kernel]
      ((repeat array_mem_dec) <;> (try dsimp only))
      rw [if_neg (by decide +kernel)]
      ((repeat array_mem_dec) <;> (try dsimp only))
      rw [if_neg (by decide +kernel)]
      ((repeat array_mem_dec) <;> (try dsimp only))
      refine w_eDc.mpr ?_
      ((repeat array_mem_dec) <;> (try dsimp only))
      ((refine Post.mono (next_spec _ _ _ hg2 ?hn0 ?hn1) ?_); (case hn0 => omega); (case hn1 => omega))
      rintro _ _ ⟨n, g3, rfl, rfl, hg3, n0, n1⟩
      ((repeat array_mem_dec) <;> (try dsimp only))
      ((refine Post.mono (next_spec _ _ _ hg3 ?hn0 ?hn1) ?_); (case hn0 => omega); (case hn1 => omega))
      rintro _ _ ⟨m, g4, rfl, rfl, hg4, m0, m1⟩
      ((repeat array_mem_dec) <;> (try dsimp only))
      refine ⟨rfl, by decide, by decide +kernel, ?_⟩
      ((repeat array_mem_dec) <;> (try dsimp only))
      exact (leave_same rfl).mpr ⟨.call m.toNat, g4, by show _ = PV.tup _; rw [Int.toNat_of_nonneg m0], (show m.toNat < routines by omega), rfl, hg4⟩
    · -- back
      refine (w_in (by rfl) rfl (by decide +kernel)).mpr ?_
      rw [show inSeq (.str "back") [.str "move", .str "push", .str "pop", .str "say", .str "add", .str "take"] = false by decide +kernel]
      ((repeat array_mem_dec) <;> (try dsimp only))
      rw [if_neg (by decide +kernel)]
      ((repeat array_mem_dec) <;> (try dsimp only))
      rw [if_neg (by decide +kernel)]
      ((repeat array_mem_dec) <;> (try dsimp only))
      refine w_eDc.mpr ?_
      ((repeat array_mem_dec) <;> (try dsimp only))
      ((refine Post.mono (next_spec _ _ _ hg2 ?hn0 ?hn1) ?_); (case hn0 => omega); (case hn1 => omega))
      rintro _ _ ⟨n, g3, rfl, rfl, hg3, n0, n1⟩
      ((repeat array_mem_dec) <;> (try dsimp only))
      ((refine Post.mono (next_spec _ _ _ hg3 ?hn0 ?hn1) ?_); (case hn0 => omega); (case hn1 => omega))
      rintro _ _ ⟨m, g4, rfl, rfl, hg4, m0, m1⟩
      ((repeat array_mem_dec) <;> (try dsimp only))
      refine ⟨rfl, by decide, by decide +kernel, ?_⟩
      ((repeat array_mem_dec) <;> (try dsimp only))
      exact (leave_same rfl).mpr ⟨.back, g4, by show _ = PV.tup _; rfl, trivial, rfl, hg4⟩
end

/-! PureQ -/
/-! PureQ: programs that are drawn, nearly so. -/
section
open PySem L2
set_option maxHeartbeats 4000000 in
theorem odd_spec (g : Hs) (rest : Store) (hg : g.Ok) (p : Prog) (hp : p.Ok) (turns : Nat) (ht : turns ≤ 1000) : Post (m_odd [.loc 1, p.pv, .int turns] (g.st rest)) (IsProg rest) := by
  have h1 := hp.h1
  have h3 := hp.h3
  have r1 := hp.r1
  have r6 := hp.r6
  unfold m_odd
  refine w_fnP rfl ?_
  ((repeat sizeOf_list_dec) <;> (try dsimp only))
  rw [Int.toNat_natCast]
  refine for_go (all := upto 0 turns) (fun i env S => ∃ rs g' x5 x6 x7 x8 x9 x10 x11 x12 x13, S = Hs.st g' rest ∧ g'.Ok ∧ rs.length = p.routines.length ∧ (∀ r ∈ rs, Routine.Ok p.houses.length p.routines.length r) ∧ env = [some (.loc 1), some p.pv, some (.int turns), some (.tup (p.houses.map House.pv)), some (.tup (rs.map Routine.pv)), x5, x6, x7, x8, x9, x10, x11, x12, x13, none]) (by rfl) ⟨p.routines, g, none, none, none, none, none, none, none, none, none, rfl, hg, rfl, hp.routines, rfl⟩ ?_ ?_
  · rintro i env S x ⟨rs, g', x5, x6, x7, x8, x9, x10, x11, x12, x13, rfl, hg', hlr, hrs, rfl⟩ hx
    refine ⟨by rfl, ?_⟩
    ((repeat sizeOf_list_dec) <;> (try dsimp only))
    rw [List.length_map]
    ((refine Post.mono (next_spec _ _ _ hg' ?hn0 ?hn1) ?_); (case hn0 => omega); (case hn1 => omega))
    rintro _ _ ⟨k, g1, rfl, rfl, hg1, a1, b1⟩
    obtain ⟨k, rfl⟩ : ∃ n : Nat, k = n := ⟨k.toNat, by omega⟩
    have hk : k < rs.length := by omega
    ((repeat sizeOf_list_dec) <;> (try dsimp only))
    refine (w_ix rfl (atI_map (List.getElem?_eq_getElem hk))).mpr ?_
    have hr := hrs _ (List.getElem_mem hk)
    generalize rs[k] = r at hr ⊢
    have hl := hr.len
    have hl0 := r.rows_pos
    ((repeat sizeOf_list_dec) <;> (try dsimp only))
    rw [List.length_map]
    ((refine Post.mono (next_spec _ _ _ hg1 ?hn0 ?hn1) ?_); (case hn0 => omega); (case hn1 => omega))
    rintro _ _ ⟨a, g2, rfl, rfl, hg2, a2, b2⟩
    obtain ⟨a, rfl⟩ : ∃ n : Nat, a = n := ⟨a.toNat, by omega⟩
    ((repeat sizeOf_list_dec) <;> (try dsimp only))
    rw [List.length_map, List.length_map]
    refine (wild_row_spec g2 rest hg2 r.rows.length rs.length hl0 (by omega) (by omega) (by omega)).mono ?_
    rintro _ _ ⟨row, g3, rfl, hrow, rfl, hg3⟩
    ((repeat sizeOf_list_dec) <;> (try dsimp only))
    ((refine Post.mono (next_spec _ _ _ hg3 ?hn0 ?hn1) ?_); (case hn0 => omega); (case hn1 => omega))
    rintro _ _ ⟨sort, g4, rfl, rfl, hg4, a3, b3⟩
    ((repeat sizeOf_list_dec) <;> (try dsimp only))
    have e1 : ((a : Int) + 1) = ((a + 1 : Nat) : Int) := rfl
    have add1 : ∀ (xs ys : List PV) (S : Store) (Q : PV → Store → Prop), xs.length ≤ 100 → ys.length ≤ 100 → Q (.tup (xs ++ ys)) S → Post (oAdd (.tup xs) (.tup ys) S) Q := fun xs ys S Q h1 h2 h => (w_addT' (by omega)).mpr h
    have lt : ∀ n, ((r.rows.map Row.pv).take n).length ≤ 32 := fun n => by rw [List.length_take, List.length_map]; omega
    have ld : ∀ n, ((r.rows.map Row.pv).drop n).length ≤ 32 := fun n => by rw [List.length_drop, List.length_map]; omega
    have lt1 : ∀ n, ((r.rows.map Row.pv).take n ++ [row.pv]).length ≤ 33 := fun n => by rw [List.length_append]; exact Nat.add_le_add_right (lt n) 1
    rw [cut_take]
    refine add1 _ _ _ _ (Nat.le_trans (lt _) (by decide)) (Nat.le_of_ble_eq_true rfl) ?_
    ((repeat sizeOf_list_dec) <;> (try dsimp only))
    rw [e1, cut_drop]
    refine add1 _ _ _ _ (Nat.le_trans (lt1 _) (by decide)) (Nat.le_trans (ld _) (by decide)) ?_
    ((repeat sizeOf_list_dec) <;> (try dsimp only))
    rw [cut_take]
    refine add1 _ _ _ _ (Nat.le_trans (lt _) (by decide)) (Nat.le_of_ble_eq_true rfl) ?_
    ((repeat sizeOf_list_dec) <;> (try dsimp only))
    rw [cut_drop]
    refine add1 _ _ _ _ (Nat.le_trans (lt1 _) (by decide)) (Nat.le_trans (ld _) (by decide)) ?_
    ((repeat sizeOf_list_dec) <;> (try dsimp only))
    rw [cut_take, e1, cut_drop]
    refine add1 _ _ _ _ (Nat.le_trans (lt _) (by decide)) (Nat.le_trans (ld _) (by decide)) ?_
    ((repeat sizeOf_list_dec) <;> (try dsimp only))
    have hsel : ∃ zs : List Row, (∀ z ∈ zs, z.Ok r.rows.length rs.length) ∧ zs.length ≤ 33 ∧ atI [PV.tup ((r.rows.map Row.pv).take a ++ [row.pv] ++ (r.rows.map Row.pv).drop (a + 1)), PV.tup ((r.rows.map Row.pv).take a ++ [row.pv] ++ (r.rows.map Row.pv).drop a), PV.tup ((r.rows.map Row.pv).take a ++ (r.rows.map Row.pv).drop (a + 1)), PV.tup (r.rows.map Row.pv)] sort = some (.tup (zs.map Row.pv)) := by
      have ok : ∀ n, (∀ z ∈ r.rows.take n, z.Ok r.rows.length rs.length) ∧ ∀ z ∈ r.rows.drop n, z.Ok r.rows.length rs.length := fun n => by
        rw [hlr]
        exact ⟨fun z hz => hr.rows z (List.mem_of_mem_take hz), fun z hz => hr.rows z (List.mem_of_mem_drop hz)⟩
      rcases (by omega : sort = 0 ∨ sort = 1 ∨ sort = 2 ∨ sort = 3) with rfl | rfl | rfl | rfl
      · refine ⟨r.rows.take a ++ [row] ++ r.rows.drop (a + 1), fun z hz => ?_, ?_, ?_⟩
        · rcases List.mem_append.mp hz with hz | hz
          · rcases List.mem_append.mp hz with hz | hz
            · exact (ok a).1 z hz
            · rw [List.mem_singleton.mp hz]; exact hrow
          · exact (ok _).2 z hz
        · simp only [List.length_append, List.length_take, List.length_drop, List.length_cons, List.length_nil]; omega
        · rw [← List.map_take, ← List.map_drop, ← List.map_drop, List.map_append, List.map_append]; rfl
      · refine ⟨r.rows.take a ++ [row] ++ r.rows.drop a, fun z hz => ?_, ?_, ?_⟩
        · rcases List.mem_append.mp hz with hz | hz
          · rcases List.mem_append.mp hz with hz | hz
            · exact (ok a).1 z hz
            · rw [List.mem_singleton.mp hz]; exact hrow
          · exact (ok _).2 z hz
        · simp only [List.length_append, List.length_take, List.length_drop, List.length_cons, List.length_nil]; omega
        · rw [← List.map_take, ← List.map_drop, ← List.map_drop, List.map_append, List.map_append]; rfl
      · refine ⟨r.rows.take a ++ r.rows.drop (a + 1), fun z hz => ?_, ?_, ?_⟩
        · rcases List.mem_append.mp hz with hz | hz
          · exact (ok a).1 z hz
          · exact (ok _).2 z hz
        · simp only [List.length_append, List.length_take, List.length_drop]; omega
        · rw [← List.map_take, ← List.map_drop, ← List.map_drop, List.map_append]; rfl
      · exact ⟨r.rows, fun z hz => by rw [hlr]; exact hr.rows z hz, by omega, rfl⟩
    obtain ⟨zs, hz, hzl, hat⟩ := hsel
    refine (w_ix rfl hat).mpr ?_
    ((repeat sizeOf_list_dec) <;> (try dsimp only))
    rw [List.length_map]
    refine lc_vals (enc := Row.pv) (zs := zs) (fun z => (z.clip zs.length).pv) rfl (by omega) (fun z hz' => ?_) ?_
    · have hpos : 0 < zs.length := List.length_pos_of_mem hz'
      ((repeat sizeOf_list_dec) <;> (try dsimp only))
      refine w_word.mpr ?_
      ((repeat sizeOf_list_dec) <;> (try dsimp only))
      refine (w_in rfl rfl (by decide +kernel)).mpr ?_
      rw [Row.in_to]
      cases z with
      | go t =>
        dsimp only [Row.pv, Row.toB]
        ((repeat sizeOf_list_dec) <;> (try dsimp only))
        rw [show cut [PV.str "go", PV.int t] none (some (-1)) = [PV.str "go"] from rfl]
        refine (w_ix (xs := [PV.str "go", PV.int t]) (y := .int t) rfl rfl).mpr ?_
        ((repeat sizeOf_list_dec) <;> (try dsimp only))
        refine add1 _ _ _ _ (Nat.le_of_ble_eq_true rfl) (Nat.le_of_ble_eq_true rfl) ?_
        ((repeat sizeOf_list_dec) <;> (try dsimp only))
        rcases min_int t zs.length with hm | hm
        · rw [hm]
          exact ⟨by trivial, by trivial⟩
        · omega
      | zero b t =>
        dsimp only [Row.pv, Row.toB]
        ((repeat sizeOf_list_dec) <;> (try dsimp only))
        rw [show cut [PV.str "zero", PV.int b, PV.int t] none (some (-1)) = [PV.str "zero", PV.int b] from rfl]
        refine (w_ix (xs := [PV.str "zero", PV.int b, PV.int t]) (y := .int t) rfl rfl).mpr ?_
        ((repeat sizeOf_list_dec) <;> (try dsimp only))
        refine add1 _ _ _ _ (Nat.le_of_ble_eq_true rfl) (Nat.le_of_ble_eq_true rfl) ?_
        ((repeat sizeOf_list_dec) <;> (try dsimp only))
        rcases min_int t zs.length with hm | hm
        · rw [hm]
          exact ⟨by trivial, by trivial⟩
        · omega
      | _ =>
        dsimp only [Row.toB]
        ((repeat sizeOf_list_dec) <;> (try dsimp only))
        exact ⟨by trivial, by trivial⟩
    ((repeat ((fail_if_success (with_reducible refine w_if.mpr ?_)); sizeOf_list_dec)) <;> (try dsimp only))
    refine Post.mono (Q := fun q S => q.1 = .nx ∧ ∃ (h' : Nat) (g5 : Hs), q.2 = [some (.loc 1), some p.pv, some (.int turns), some (.tup (p.houses.map House.pv)), some (.tup (rs.map Routine.pv)), some x, some (.int k), some (.int h'), some (.tup (r.rows.map Row.pv)), some (.int a), some row.pv, some (.int sort), some (.tup (zs.map fun z => (z.clip zs.length).pv)), some (.int zs.length), none] ∧ h' < p.houses.length ∧ S = g5.st rest ∧ g5.Ok) ?_ ?_
    · ((repeat sizeOf_list_dec) <;> (try dsimp only))
      cases hs3 : (sort == 3) with
      | false =>
        ((repeat sizeOf_list_dec) <;> (try dsimp only))
        exact ⟨by trivial, r.house, g4, by trivial, hr.house, rfl, hg4⟩
      | true =>
        ((repeat sizeOf_list_dec) <;> (try dsimp only))
        rw [List.length_map]
        cases hmh : decide ((1 : Int) < p.houses.length) with
        | false =>
          ((repeat sizeOf_list_dec) <;> (try dsimp only))
          exact ⟨by trivial, r.house, g4, by trivial, hr.house, rfl, hg4⟩
        | true =>
          ((repeat sizeOf_list_dec) <;> (try dsimp only))
          rw [List.length_map]
          ((refine Post.mono (next_spec _ _ _ hg4 ?hn0 ?hn1) ?_); (case hn0 => omega); (case hn1 => omega))
          rintro _ _ ⟨h', g5, rfl, rfl, hg5, a5, b5⟩
          obtain ⟨h', rfl⟩ : ∃ n : Nat, h' = n := ⟨h'.toNat, by omega⟩
          ((repeat sizeOf_list_dec) <;> (try dsimp only))
          exact ⟨by trivial, h', g5, by trivial, by omega, rfl, hg5⟩
    · rintro ⟨fl, env⟩ S ⟨hfl, h', g5, henv, hh', rfl, hg5⟩
      cases hfl
      cases henv
      ((repeat sizeOf_list_dec) <;> (try dsimp only))
      cases hd0 : decide ((0 : Int) < zs.length) with
      | false =>
        ((repeat sizeOf_list_dec) <;> (try dsimp only))
        exact ⟨rs, g5, _, _, _, _, _, _, _, _, _, rfl, hg5, hlr, hrs, rfl⟩
      | true =>
        ((repeat sizeOf_list_dec) <;> (try dsimp only))
        cases hd1 : decide ((zs.length : Int) < 33) with
        | false =>
          ((repeat sizeOf_list_dec) <;> (try dsimp only))
          exact ⟨rs, g5, _, _, _, _, _, _, _, _, _, rfl, hg5, hlr, hrs, rfl⟩
        | true =>
          have hpos : 0 < zs.length := by have := of_decide_eq_true hd0; omega
          have hle : zs.length ≤ 32 := by have := of_decide_eq_true hd1; omega
          obtain ⟨init, last, hil⟩ : ∃ init last, zs.map (Row.clip zs.length) = init ++ [last] := by
            rcases List.eq_nil_or_concat (zs.map (Row.clip zs.length)) with h | ⟨i, l, h⟩
            · have := congrArg List.length h
              rw [List.length_map] at this
              exact absurd this (by show zs.length ≠ 0; omega)
            · exact ⟨i, l, by rw [h, List.concat_eq_append]⟩
          have hmap : (zs.map fun z => (z.clip zs.length).pv) = (init ++ [last]).map Row.pv := by rw [← hil, List.map_map]; rfl
          have hlen : (init ++ [last]).length = zs.length := by rw [← hil, List.length_map]
          rw [hmap]
          ((repeat sizeOf_list_dec) <;> (try dsimp only))
          refine (w_ix rfl (last_at init last)).mpr ?_
          ((repeat sizeOf_list_dec) <;> (try dsimp only))
          refine w_word.mpr ?_
          ((repeat sizeOf_list_dec) <;> (try dsimp only))
          refine (w_in rfl rfl (by decide +kernel)).mpr ?_
          rw [Row.in_end]
          cases he : last.endB with
          | false =>
            ((repeat sizeOf_list_dec) <;> (try dsimp only))
            exact ⟨rs, g5, _, _, _, _, _, _, _, _, _, rfl, hg5, hlr, hrs, rfl⟩
          | true =>
            ((repeat sizeOf_list_dec) <;> (try dsimp only))
            rw [cut_take]
            refine add1 _ _ _ _ (by rw [List.length_take, List.length_map]; omega) (Nat.le_of_ble_eq_true rfl) ?_
            ((repeat sizeOf_list_dec) <;> (try dsimp only))
            have e2 : ((k : Int) + 1) = ((k + 1 : Nat) : Int) := rfl
            rw [e2, cut_drop]
            refine add1 _ _ _ _ (by rw [List.length_append, List.length_take, List.length_map]; show _ + 1 ≤ 100; omega) (by rw [List.length_drop, List.length_map]; omega) ?_
            ((repeat sizeOf_list_dec) <;> (try dsimp only))
            have hset : (rs.map Routine.pv).take k ++ [Routine.pv ⟨h', init, last⟩] ++ (rs.map Routine.pv).drop (k + 1) = (rs.set k ⟨h', init, last⟩).map Routine.pv := by
              rw [set_take_drop (by rw [List.length_map]; exact hk), List.map_set]
            have hset : (rs.map Routine.pv).take k ++ [PV.tup [PV.int h', PV.tup ((init ++ [last]).map Row.pv)]] ++ (rs.map Routine.pv).drop (k + 1) = (rs.set k ⟨h', init, last⟩).map Routine.pv := hset
            rw [hset]
            refine ⟨rs.set k ⟨h', init, last⟩, g5, _, _, _, _, _, _, _, _, _, rfl, hg5, by rw [List.length_set]; exact hlr, fun r' hr' => ?_, rfl⟩
            rcases List.mem_or_eq_of_mem_set hr' with h | h
            · exact hrs r' h
            · rw [h]
              refine ⟨hh', by show (init ++ [last]).length ≤ 32; omega, ?_, Row.endB_is he⟩
              show ∀ z ∈ init ++ [last], z.Ok (init ++ [last]).length _
              rw [hlen, ← hil, ← hlr]
              intro z hz'
              obtain ⟨z0, hz0, rfl⟩ := List.mem_map.mp hz'
              exact Row.clip_ok (hz z0 hz0) hpos
  · rintro env S ⟨rs, g', x5, x6, x7, x8, x9, x10, x11, x12, x13, rfl, hg', hlr, hrs, rfl⟩
    refine ⟨by rfl, ?_⟩
    ((repeat sizeOf_list_dec) <;> (try dsimp only))
    refine (leave_same rfl).mpr ⟨⟨p.houses, rs⟩, g', rfl, ⟨h1, h3, by show 1 ≤ rs.length; omega, by show rs.length ≤ 6; omega, hp.houses, ?_⟩, rfl, hg'⟩
    show ∀ r ∈ rs, r.Ok p.houses.length rs.length
    rw [hlr]
    exact hrs
end

/-! PureR0 -/
/-! PureR0: common pieces. -/
section
open PySem L2
theorem Hs.at0 {g : Hs} {A B : Store} {a : Cell} : (g.st (A ++ a :: B))[A.length + 2]? = some a := get_app (A := A) (B := a :: B) (i := 0)
theorem Hs.set0 {g : Hs} {A B : Store} {a c : Cell} : (g.st (A ++ a :: B)).set (A.length + 2) c = g.st (A ++ c :: B) := congrArg (fun z => Cell.lst (g.l.map .int) :: Cell.lst [.int g.a, .loc 0, .int g.c] :: z) (set_app (A := A) (B := a :: B) (i := 0))
theorem Prog.low (n : Nat) (p : Prog) : LW.low n p.pv = true := by
  unfold Prog.pv
  refine low_tup fun x hx => ?_
  simp only [List.mem_cons, List.not_mem_nil, or_false] at hx
  rcases hx with rfl | rfl
  · refine low_tup fun x hx => ?_
    obtain ⟨h, _, rfl⟩ := List.mem_map.mp hx
    unfold House.pv
    refine low_tup fun x hx => ?_
    simp only [List.mem_cons, List.not_mem_nil, or_false] at hx
    rcases hx with rfl | rfl | rfl
    · exact low_tup (low_ivs _)
    · exact low_int
    · exact low_tup (low_ivs _)
  · refine low_tup fun x hx => ?_
    obtain ⟨r, _, rfl⟩ := List.mem_map.mp hx
    exact r.low n
end

/-! PureR -/
/-! PureR: wild programs, swapped ones, any. -/
section
open PySem L2
theorem wild_spec (g : Hs) (rest : Store) (hlow : LowR rest) (hg : g.Ok) (most : Nat) (hm0 : 0 < most) (hm : most ≤ 32) : Post (m_wild [.loc 1, .int most] (g.st rest)) (IsProg rest) := by
  unfold m_wild
  refine w_fnP rfl ?_
  generalize hL : (g.st rest).length = L
  ((repeat sizeOf_list_dec) <;> (try dsimp only))
  ((refine Post.mono (next_spec _ _ _ hg ?hn0 ?hn1) ?_); (case hn0 => omega); (case hn1 => omega))
  rintro _ _ ⟨r1, g1, rfl, rfl, hg1, a1, b1⟩
  obtain ⟨n1, rfl⟩ : ∃ n : Nat, r1 = n := ⟨r1.toNat, by omega⟩
  ((repeat sizeOf_list_dec) <;> (try dsimp only))
  rw [show ((1 : Int) + (n1 : Int)).toNat = n1 + 1 by omega]
  refine lc_draws (P := fun _ x => ∃ h : House, x = h.pv ∧ h.Ok) hg1 (by omega) (fun i g0 hi hg0 => ?_) (fun xs g2 hg2 hl hP => ?_)
  · ((repeat sizeOf_list_dec) <;> (try dsimp only))
    refine (house_spec _ _ hg0).mono ?_
    rintro _ _ ⟨h, g3, rfl, hh, rfl, hg3⟩
    exact ⟨g3, rfl, hg3, h, rfl, hh⟩
  obtain ⟨hs, rfl, hhs⟩ := map_of hP
  rw [List.length_map] at hl
  ((repeat sizeOf_list_dec) <;> (try dsimp only))
  ((refine Post.mono (next_spec _ _ _ hg2 ?hn0 ?hn1) ?_); (case hn0 => omega); (case hn1 => omega))
  rintro _ _ ⟨r2, g3, rfl, rfl, hg3, a2, b2⟩
  obtain ⟨n2, rfl⟩ : ∃ n : Nat, r2 = n := ⟨r2.toNat, by omega⟩
  ((repeat sizeOf_list_dec) <;> (try dsimp only))
  rw [show (g3.st rest).length = rest.length + 2 from rfl, show ((1 : Int) + (n2 : Int)).toNat = n2 + 1 by omega]
  refine for_go (all := upto 0 (n2 + 1)) (fun i env S => ∃ (rs : List Routine) (g' : Hs) (x3 x6 x7 : Option PV), S = Hs.st g' (rest ++ [.lst (rs.map Routine.pv)]) ∧ g'.Ok ∧ rs.length = i ∧ i ≤ n2 + 1 ∧ (∀ r ∈ rs, Routine.Ok hs.length (n2 + 1) r) ∧ env = [some (.loc 1), some (.int most), some (.tup (hs.map House.pv)), x3, some (.int (1 + n2)), some (.loc (rest.length + 2)), x6, x7, none]) (by rfl) ⟨[], g3, none, none, none, rfl, hg3, rfl, Nat.zero_le _, fun r h => absurd h List.not_mem_nil, rfl⟩ ?_ ?_
  · rintro i env S x ⟨rs, g', x3, x6, x7, rfl, hg', hlr, hi', hrs, rfl⟩ hx
    refine ⟨by rfl, ?_⟩
    have hi : i < n2 + 1 := by
      have := (List.getElem?_eq_some_iff.mp hx).1
      rw [upto_length] at this
      exact this
    ((repeat sizeOf_list_dec) <;> (try dsimp only))
    ((refine Post.mono (next_spec _ _ _ hg' ?hn0 ?hn1) ?_); (case hn0 => omega); (case hn1 => omega))
    rintro _ _ ⟨r4, g4, rfl, rfl, hg4, a4, b4⟩
    obtain ⟨n4, rfl⟩ : ∃ n : Nat, r4 = n := ⟨r4.toNat, by omega⟩
    ((repeat sizeOf_list_dec) <;> (try dsimp only))
    rw [show ((1 : Int) + (n4 : Int) - 1).toNat = n4 by omega]
    refine lc_draws (P := fun _ x => ∃ r : Row, x = r.pv ∧ r.Ok (n4 + 1) (n2 + 1)) hg4 (by omega) (fun i g0 hi hg0 => ?_) (fun xs g5 hg5 hl2 hP2 => ?_)
    · ((repeat sizeOf_list_dec) <;> (try dsimp only))
      rw [show ((1 : Int) + (n4 : Int)) = ((n4 + 1 : Nat) : Int) by omega, show ((1 : Int) + (n2 : Int)) = ((n2 + 1 : Nat) : Int) by omega]
      refine (wild_row_spec g0 _ hg0 (n4 + 1) (n2 + 1) (by omega) (by omega) (by omega) (by omega)).mono ?_
      rintro _ _ ⟨row, g3, rfl, hrow, rfl, hg3⟩
      exact ⟨g3, rfl, hg3, row, rfl, hrow⟩
    obtain ⟨init, rfl, hinit⟩ := map_of hP2
    rw [List.length_map] at hl2
    ((repeat sizeOf_list_dec) <;> (try dsimp only))
    ((refine Post.mono (next_spec _ _ _ hg5 ?hn0 ?hn1) ?_); (case hn0 => omega); (case hn1 => omega))
    rintro _ _ ⟨r6, g6, rfl, rfl, hg6, a6, b6⟩
    obtain ⟨last, hlast, hle, hlo⟩ : ∃ last : Row, atI [PV.tup [.str "back"], PV.tup [.str "go", .int 0]] r6 = some last.pv ∧ last.isEnd ∧ last.Ok (n4 + 1) (n2 + 1) := by
      rcases (by omega : r6 = 0 ∨ r6 = 1) with rfl | rfl
      · exact ⟨.back, rfl, trivial, trivial⟩
      · exact ⟨.go 0, rfl, trivial, Nat.succ_pos _⟩
    refine (w_ix rfl hlast).mpr ?_
    ((repeat sizeOf_list_dec) <;> (try dsimp only))
    refine (w_addLL (by rw [List.length_map, hl2]; exact Nat.le_trans (by show n4 + 1 ≤ 1000; omega) (by decide : 1000 ≤ lim))).mpr ?_
    ((repeat sizeOf_list_dec) <;> (try dsimp only))
    refine ⟨_, _, rfl, Hs.at0, ?_⟩
    ((repeat sizeOf_list_dec) <;> (try dsimp only))
    rw [List.length_map]
    ((refine Post.mono (next_spec _ _ _ hg6 ?hn0 ?hn1) ?_); (case hn0 => omega); (case hn1 => omega))
    rintro _ _ ⟨r7, g7, rfl, rfl, hg7, a7, b7⟩
    obtain ⟨h, rfl⟩ : ∃ n : Nat, r7 = n := ⟨r7.toNat, by omega⟩
    ((repeat sizeOf_list_dec) <;> (try dsimp only))
    refine (w_mAppend Hs.at0 (by rw [List.length_map]; exact Nat.lt_of_le_of_lt (by omega) (by decide : 1000 < lim))).mpr ?_
    rw [Hs.set0]
    have e1 : rs.map Routine.pv ++ [PV.tup [PV.int h, PV.tup (init.map Row.pv ++ [last.pv])]] = (rs ++ [Routine.mk h init last]).map Routine.pv := by
      rw [List.map_append]
      show _ = _ ++ [PV.tup [PV.int h, PV.tup ((init ++ [last]).map Row.pv)]]
      rw [List.map_append]
      rfl
    rw [e1]
    ((repeat sizeOf_list_dec) <;> (try dsimp only))
    refine ⟨rs ++ [⟨h, init, last⟩], g7, _, _, _, rfl, hg7, by rw [List.length_append, hlr]; rfl, hi, fun r' hr' => ?_, rfl⟩
    rcases List.mem_append.mp hr' with hq | hq
    · exact hrs r' hq
    · rw [List.mem_singleton.mp hq]
      have hlen : (init ++ [last]).length = n4 + 1 := by rw [List.length_append, hl2]; rfl
      refine ⟨by show h < hs.length; omega, by show (init ++ [last]).length ≤ 32; omega, ?_, hle⟩
      show ∀ z ∈ init ++ [last], z.Ok (init ++ [last]).length _
      rw [hlen]
      intro z hz
      rcases List.mem_append.mp hz with hz | hz
      · exact hinit z hz
      · rw [List.mem_singleton.mp hz]
        exact hlo
  · rintro env S ⟨rs, g4, x3, x6, x7, rfl, hg4, hlr, hi', hrs, rfl⟩
    rw [upto_length] at hlr
    refine ⟨by rfl, ?_⟩
    ((repeat sizeOf_list_dec) <;> (try dsimp only))
    refine (w_tuple (xs := rs.map Routine.pv) (by show (match (g4.st (rest ++ [Cell.lst (rs.map Routine.pv)]))[rest.length + 2]? with | some (.lst xs) => some xs | _ => none) = _; rw [Hs.at0])).mpr ?_
    ((repeat sizeOf_list_dec) <;> (try dsimp only))
    rw [← hL]
    show Post (leave (g4.st rest).length (Prog.pv ⟨hs, rs⟩) (g4.st rest ++ [Cell.lst (rs.map Routine.pv)])) _
    refine (leave_drop (w := Prog.pv ⟨hs, rs⟩) (hlow.st g4) (by simp) ?_).mpr ⟨⟨hs, rs⟩, g4, rfl, ⟨by show 1 ≤ hs.length; omega, by show hs.length ≤ 3; omega, by show 1 ≤ rs.length; omega, by show rs.length ≤ 6; omega, hhs, ?_⟩, rfl, hg4⟩
    · show (if LW.low _ (Prog.pv ⟨hs, rs⟩) = true then some _ else none) = _
      rw [if_pos (Prog.low _ _)]
    · show ∀ r ∈ rs, r.Ok hs.length rs.length
      rw [hlr]
      exact hrs
theorem any_spec (g : Hs) (rest : Store) (hlow : LowR rest) (hg : g.Ok) : Post (m_any [.loc 1] (g.st rest)) (IsProg rest) := by
  unfold m_any
  refine w_fnP rfl ?_
  ((repeat sizeOf_list_dec) <;> (try dsimp only))
  ((refine Post.mono (next_spec _ _ _ hg ?hn0 ?hn1) ?_); (case hn0 => omega); (case hn1 => omega))
  rintro _ _ ⟨turn, g1, rfl, rfl, hg1, a1, b1⟩
  ((repeat sizeOf_list_dec) <;> (try dsimp only))
  cases h4 : (turn == 4) with
  | true =>
    ((repeat sizeOf_list_dec) <;> (try dsimp only))
    ((refine Post.mono (next_spec _ _ _ hg1 ?hn0 ?hn1) ?_); (case hn0 => omega); (case hn1 => omega))
    rintro _ _ ⟨r2, g2, rfl, rfl, hg2, a2, b2⟩
    obtain ⟨most, hm0, hm, hat⟩ : ∃ mx : Nat, 0 < mx ∧ mx ≤ 32 ∧ atI [PV.int 6, PV.int 20, PV.int 32] r2 = some (.int mx) := by
      rcases (by omega : r2 = 0 ∨ r2 = 1 ∨ r2 = 2) with rfl | rfl | rfl
      · exact ⟨6, by decide, by decide, rfl⟩
      · exact ⟨20, by decide, by decide, rfl⟩
      · exact ⟨32, by decide, by decide, rfl⟩
    refine (w_ix rfl hat).mpr ?_
    ((repeat sizeOf_list_dec) <;> (try dsimp only))
    refine (wild_spec g2 rest hlow hg2 most hm0 hm).mono ?_
    rintro _ _ ⟨p, g3, rfl, hp, rfl, hg3⟩
    ((repeat sizeOf_list_dec) <;> (try dsimp only))
    exact (leave_same rfl).mpr ⟨p, g3, rfl, hp, rfl, hg3⟩
  | false =>
    ((repeat sizeOf_list_dec) <;> (try dsimp only))
    refine (program_spec g1 rest hlow hg1).mono ?_
    rintro _ _ ⟨p, g3, rfl, hp, rfl, hg3⟩
    ((repeat sizeOf_list_dec) <;> (try dsimp only))
    cases h0 : (turn == 0) with
    | true =>
      ((repeat sizeOf_list_dec) <;> (try dsimp only))
      exact (leave_same rfl).mpr ⟨p, g3, rfl, hp, rfl, hg3⟩
    | false =>
      ((repeat sizeOf_list_dec) <;> (try dsimp only))
      ((refine Post.mono (next_spec _ _ _ hg3 ?hn0 ?hn1) ?_); (case hn0 => omega); (case hn1 => omega))
      rintro _ _ ⟨r4, g4, rfl, rfl, hg4, a4, b4⟩
      obtain ⟨n4, rfl⟩ : ∃ n : Nat, r4 = n := ⟨r4.toNat, by omega⟩
      ((repeat sizeOf_list_dec) <;> (try dsimp only))
      rw [show ((1 : Int) + (n4 : Int)) = ((n4 + 1 : Nat) : Int) by omega]
      refine (odd_spec g4 rest hg4 p hp (n4 + 1) (by omega)).mono ?_
      rintro _ _ ⟨q, g5, rfl, hq, rfl, hg5⟩
      ((repeat sizeOf_list_dec) <;> (try dsimp only))
      exact (leave_same rfl).mpr ⟨q, g5, rfl, hq, rfl, hg5⟩
end

/-! PureEq -/
/-! PureEq: equal to itself. -/
section
open PySem L2
mutual
theorem eqv_self : ∀ (n : Nat) (x : PV), plain n x = true → eqv x x = true
  | _, .non, _ => rfl
  | _, .bl b, _ => by unfold eqv; simp
  | _, .int i, _ => by unfold eqv; simp
  | _, .str s, _ => by unfold eqv; simp
  | n + 1, .tup xs, h => by
    unfold plain at h
    unfold eqv
    exact eqvs_self n xs h
  | n + 1, .ls xs, h => by
    unfold plain at h
    unfold eqv
    exact eqvs_self n xs h
  | 0, .tup _, h => by unfold plain at h; cases h
  | 0, .ls _, h => by unfold plain at h; cases h
  | n, .fz _, h => by cases n <;> (unfold plain at h; cases h)
  | n, .dc _ _, h => by cases n <;> (unfold plain at h; cases h)
  | n, .loc _, h => by cases n <;> (unfold plain at h; cases h)
theorem eqvs_self : ∀ (n : Nat) (xs : List PV), xs.all (plain n) = true → eqvs xs xs = true
  | _, [], _ => rfl
  | n, x :: xs, h => by
    rw [List.all_cons, Bool.and_eq_true] at h
    unfold eqvs
    simp only
    rw [eqv_self n x h.1, eqvs_self n xs h.2]
    try rfl
end
theorem w_neRes {x y z : PV} {S : Store} {Q : PV → Store → Prop} (hx : res 20 S x = z) (hy : res 20 S y = z) (hp : plain 20 z = true) : Post (oNe x y S) Q ↔ Q (.bl false) S := by
  unfold oNe
  rw [hx, hy, if_pos ⟨hp, hp⟩, eqv_self _ _ hp]
  exact Post.ok
end

/-! PureLi2 -/
/-! PureLi2: look. -/
section
open PySem L2
theorem look_spec (K : PySem.W.Frag) (A : Store) (hA : LowS A) (p : Prog) (hp : p.Ok) (i : Nat) (r : Routine) (hr : p.routines[i]? = some r) (hn : lookB (hof p i) (hof p) r.rows ≠ .many) :
    Post (m_look [p.pv, .int i] A) (Told A (lookB (hof p i) (hof p) r.rows)) := by
  unfold m_look
  refine w_fnK rfl ?_
  ((repeat sizeOf_list_dec) <;> (try dsimp only))
  refine (check_program_spec _ hA p hp).mono ?_
  rintro _ S1 ⟨rfl, e⟩
  obtain rfl := e.symm
  ((repeat sizeOf_list_dec) <;> (try dsimp only))
  refine (check_number_spec _ p i (List.getElem?_eq_some_iff.mp hr).1).mono ?_
  rintro _ S1 ⟨rfl, e⟩
  obtain rfl := e.symm
  ((repeat sizeOf_list_dec) <;> (try dsimp only))
  refine (look_at_spec K _ hA p hp i r hr hn).mono fun v S h => ?_
  exact h
end

/-! Pure34 -/
/-! Pure34: k03 as a whole. -/
section
open PySem L2
theorem same_told {S : Store} {f : Flt} (hf : PyData.strOk f.1 = true) {Q : PV → Store → Prop} : Post (oNe (.tup [.bl true, .tup [.str f.1, .int f.2]]) (.tup [.bl true, .tup [.str f.1, .int f.2]]) S) Q ↔ Q (.bl false) S := by
  refine w_neRes (z := .tup [.bl true, .tup [.str f.1, .int f.2]]) rfl rfl ?_
  show (true && ((PyData.strOk f.1 && true) && true)) = true
  rw [hf]
  rfl
set_option maxHeartbeats 8000000 in
theorem law_post (K : PySem.W.Frag) (ns : List Int) (hn : ns.length ≤ 63) : Post (m_law [.fz (ns.map .int)] []) fun v _ => v = .bl true := by
  unfold m_law
  refine w_fnK rfl ?_
  ((repeat sizeOf_list_dec) <;> (try dsimp only))
  refine (mix_spec ns 7 hn).mono ?_
  rintro _ _ ⟨rfl, a, rfl⟩
  ((repeat sizeOf_list_dec) <;> (try dsimp only))
  refine for_go (all := upto 0 5) (fun i env S => ∃ (g : Hs) (rest : Store) (x2 x3 x4 x5 x6 x7 x8 : Option PV), S = g.st rest ∧ g.Ok ∧ LowR rest ∧ env = [some (.fz (ns.map .int)), some (.loc 1), x2, x3, x4, x5, x6, x7, x8]) (by rfl) ⟨⟨ns, a, 0⟩, [], none, none, none, none, none, none, none, rfl, ⟨hn, Int.le_refl _⟩, rfl, rfl⟩ ?_ ?_
  · rintro i env S x ⟨g, rest, x2, x3, x4, x5, x6, x7, x8, rfl, hg, hlow, rfl⟩ hx
    refine ⟨by rfl, ?_⟩
    ((repeat ((fail_if_success (with_reducible refine w_if.mpr ?_)); sizeOf_list_dec)) <;> (try dsimp only))
    refine (any_spec g rest hlow hg).mono ?_
    rintro _ _ ⟨p, g2, rfl, hp, rfl, hg2⟩
    have h6 := hp.r6
    ((repeat sizeOf_list_dec) <;> (try dsimp only))
    rw [List.length_map]
    refine (w_rng (by omega)).mpr ?_
    rw [Int.toNat_natCast]
    refine for_go (all := upto 0 p.routines.length) (fun j env S => ∃ (rest : Store) (x4 x5 x6 x7 x8 : Option PV), S = g2.st rest ∧ LowR rest ∧ env = [some (.fz (ns.map .int)), some (.loc 1), some x, some p.pv, x4, x5, x6, x7, x8]) (by rfl) ⟨rest, _, _, _, _, _, rfl, hlow, rfl⟩ ?_ ?_
    · rintro j env S x' ⟨rest, x4, x5, x6, x7, x8, rfl, hlow, rfl⟩ hx'
      refine ⟨by rfl, ?_⟩
      have hlt : j < p.routines.length := by
        have := (List.getElem?_eq_some_iff.mp hx').1
        rw [upto_length] at this
        exact this
      rw [upto_get hlt, Int.zero_add] at hx'
      cases hx'
      have hr : p.routines[j]? = some p.routines[j] := List.getElem?_eq_getElem hlt
      have hro := hp.routines _ (List.mem_of_getElem? hr)
      have hlo := lookO_eq hr
      ((repeat sizeOf_list_dec) <;> (try dsimp only))
      refine (look_law_spec K _ (hlow.st g2) p hp j _ hr).mono fun v S h2 => ?_
      rw [← hlo] at h2
      obtain ⟨rfl, hl2, B, rfl⟩ := looked_v h2
      clear h2
      obtain ⟨rest2, e2, hlow2⟩ := st_more rfl hl2
      rw [e2]
      clear e2 hl2
      ((repeat sizeOf_list_dec) <;> (try dsimp only))
      refine (w_eqMany fun s nd f => lookO_ok).mpr ?_
      ((repeat sizeOf_list_dec) <;> (try dsimp only))
      cases hm : (lookO p j).manyB with
      | true =>
        ((repeat sizeOf_list_dec) <;> (try dsimp only))
        exact ⟨rest2, _, _, _, _, _, rfl, hlow2, rfl⟩
      | false =>
        have hnm : lookO p j ≠ .many := fun z => by rw [z] at hm; cases hm
        ((repeat sizeOf_list_dec) <;> (try dsimp only))
        refine (look_spec K _ (hlow2.st g2) p hp j _ hr (by rw [← hlo]; exact hnm)).mono fun v S h3 => ?_
        rw [← hlo] at h3
        cases ho : lookO p j with
        | many => exact absurd ho hnm
        | let_ s =>
          rw [ho] at h3
          obtain ⟨rfl, hl3, C, rfl⟩ := h3
          obtain ⟨rest3, e3, hlow3⟩ := st_more rfl hl3
          rw [e3]
          ((repeat sizeOf_list_dec) <;> (try dsimp only))
          refine (w_notNv (k := true) rfl).mpr ?_
          ((repeat sizeOf_list_dec) <;> (try dsimp only))
          exact ⟨rest3, _, _, _, _, _, rfl, hlow3, rfl⟩
        | brk s nd f =>
          rw [ho] at h3
          obtain ⟨l, rfl, hl3, ⟨C, hC⟩, hle, hat, hwl⟩ := h3
          rw [ho] at hlo
          obtain ⟨lv, t, D, sn, n1, n2, s250, nz⟩ := bfs_ends hro 251 (lv_first hro (hof p j)) (dp_first p.routines[j] (hof p j) (hof p)) hlo.symm
          have wt := D.lvl nd n1
          obtain ⟨ss, ch⟩ := D.path nd n2
          ((repeat sizeOf_list_dec) <;> (try dsimp only))
          refine (w_notNv (k := false) rfl).mpr ?_
          ((repeat sizeOf_list_dec) <;> (try dsimp only))
          refine (walked_spec _ hl3 p hp j _ hr ch nz l hat hwl).mono ?_
          rintro _ S1 ⟨rfl, e⟩
          obtain rfl := e.symm
          ((repeat sizeOf_list_dec) <;> (try dsimp only))
          refine (same_told (lookO_ok ho)).mpr ?_
          ((repeat sizeOf_list_dec) <;> (try dsimp only))
          refine (w_lenW hat).mpr ?_
          rw [ivs_length, wt]
          ((repeat sizeOf_list_dec) <;> (try dsimp only))
          refine (shorter_spec _ hl3 p hp j _ hr D s250 (by omega)).mono ?_
          rintro _ S2 ⟨rfl, hl4, E, e4⟩
          rw [hC, List.append_assoc] at e4
          obtain ⟨rest3, rfl, hlow3⟩ := st_more e4 hl4
          ((repeat sizeOf_list_dec) <;> (try dsimp only))
          exact ⟨rest3, _, _, _, _, _, rfl, hlow3, rfl⟩
    · rintro env S ⟨rest, x4, x5, x6, x7, x8, rfl, hlow, rfl⟩
      refine ⟨by rfl, ?_⟩
      exact ⟨g2, rest, _, _, _, _, _, _, _, rfl, hg2, hlow, rfl⟩
  · rintro env S ⟨g, rest, x2, x3, x4, x5, x6, x7, x8, rfl, hg, hlow, rfl⟩
    refine ⟨by rfl, ?_⟩
    ((repeat sizeOf_list_dec) <;> (try dsimp only))
theorem m_law_ok {K : PySem.W.Frag} : ∀ ns : List Int, ns.length ≤ 63 → (∀ z ∈ ns, PySem.Builtin.Int.intBits z ≤ 1048576) → ∃ S, m_law [.fz (ns.map .int)] [] = .ok (.bl true) S := fun ns hn _ => by
  obtain ⟨a, S, e, h⟩ := (law_post K ns hn).out
  exact ⟨S, by rw [e, h]⟩
end

/-! Gk03_e -/
section
open PySem PySem.Spec PyProof.Rows L2
theorem all_law {P : Program} {w : World} {K : PySem.W.Frag} {mg : Str → Option Value} {base : Heap} (T : Top w K mg) : Cl P w K mg base (xcK K) "law" ["_law_script"] 8 (m_law) := by
  have c_is_tuple_of := ok_is_tuple_of (P := P) (w := w) (base := base) T 
  have c_is_below := ok_is_below (P := P) (w := w) (base := base) T 
  have c_are_rising_boxes := ok_are_rising_boxes (P := P) (w := w) (base := base) T c_is_below
  have c_is_house := ok_is_house (P := P) (w := w) (base := base) T c_are_rising_boxes c_is_below c_is_tuple_of
  have c_check_houses := ok_check_houses (P := P) (w := w) (base := base) T c_is_house c_is_tuple_of
  have c_is_row := ok_is_row (P := P) (w := w) (base := base) T c_is_below
  have c_check_rows := ok_check_rows (P := P) (w := w) (base := base) T c_is_row
  have c_check_routines := ok_check_routines (P := P) (w := w) (base := base) T c_check_rows c_is_below c_is_tuple_of
  have c_check_program := ok_check_program (P := P) (w := w) (base := base) T c_check_routines c_check_houses c_is_tuple_of
  have c_check_number := ok_check_number (P := P) (w := w) (base := base) T c_is_below
  have c_house_of := ok_house_of (P := P) (w := w) (base := base) T 
  have c_first_state := ok_first_state (P := P) (w := w) (base := base) T 
  have c_rows_of := ok_rows_of (P := P) (w := w) (base := base) T 
  have c_looked_at := ok_looked_at (P := P) (w := w) (base := base) T c_house_of
  have c_first_unfit := ok_first_unfit (P := P) (w := w) (base := base) T 
  have c_break_of_back := ok_break_of_back (P := P) (w := w) (base := base) T c_first_unfit
  have c_break_of := ok_break_of (P := P) (w := w) (base := base) T c_first_unfit c_looked_at c_break_of_back c_house_of c_rows_of
  have c_first_break := ok_first_break (P := P) (w := w) (base := base) T c_break_of
  have c_boxes_behind_call := ok_boxes_behind_call (P := P) (w := w) (base := base) T 
  have c_next_rows := ok_next_rows (P := P) (w := w) (base := base) T 
  have c_come_of := ok_come_of (P := P) (w := w) (base := base) T c_next_rows c_boxes_behind_call c_house_of c_rows_of
  have c_next_level := ok_next_level (P := P) (w := w) (base := base) T c_come_of
  have c_survey := ok_survey (P := P) (w := w) (base := base) T c_next_level c_first_break c_first_state c_house_of
  have c_way_to := ok_way_to (P := P) (w := w) (base := base) T 
  have c_look_at := ok_look_at (P := P) (w := w) (base := base) T c_way_to c_survey
  have c_look := ok_look (P := P) (w := w) (base := base) T c_look_at c_check_number c_check_program
  have c_mix := ok_mix (P := P) (w := w) (base := base) T 
  have c_next := ok_next (P := P) (w := w) (base := base) T 
  have c_house := ok_house (P := P) (w := w) (base := base) T c_next
  have c_number := ok_number (P := P) (w := w) (base := base) T c_next
  have c_simple := ok_simple (P := P) (w := w) (base := base) T c_number c_next
  have c_calling := ok_calling (P := P) (w := w) (base := base) T c_next c_number
  have c_zeroed := ok_zeroed (P := P) (w := w) (base := base) T c_next c_simple
  have c_kept := ok_kept (P := P) (w := w) (base := base) T c_number c_next c_calling c_zeroed c_simple
  have c_program := ok_program (P := P) (w := w) (base := base) T c_kept c_next c_house
  have c_wild_row := ok_wild_row (P := P) (w := w) (base := base) T c_next c_number
  have c_odd := ok_odd (P := P) (w := w) (base := base) T c_next c_wild_row
  have c_wild := ok_wild (P := P) (w := w) (base := base) T c_next c_wild_row c_house
  have c_any := ok_any (P := P) (w := w) (base := base) T c_odd c_next c_program c_wild
  have c_first := ok_first (P := P) (w := w) (base := base) T 
  have c_not_good := ok_not_good (P := P) (w := w) (base := base) T 
  have c_breaks := ok_breaks (P := P) (w := w) (base := base) T c_not_good
  have c_nexts := ok_nexts (P := P) (w := w) (base := base) T 
  have c_look_ := ok_look_ (P := P) (w := w) (base := base) T c_nexts c_breaks c_first
  have c_walked := ok_walked (P := P) (w := w) (base := base) T c_nexts c_breaks c_first
  have c_shorter := ok_shorter (P := P) (w := w) (base := base) T c_nexts c_breaks c_first
  have c_law := ok_law (P := P) (w := w) (base := base) T c_walked c_shorter c_look c_look_ c_any c_mix
  exact c_law
end
end LW
open PySem PySem.W PySem.Calls PyProof.Rows
set_option maxHeartbeats 0 in
set_option maxRecDepth 100000 in
theorem PySem.Challenge.cw_callpact_k03_whole_the_told_way_breaks_holds : PySem.Challenge.rw_callpact_k03_whole_the_told_way_breaks.Holds := by
  w_on; o_law
  refine HandSHeadRun.head_any (r := LW.Rw) (q := view LW.Rw.prog [66]) (H := LW.hk) (ob := LW.ob) (M := 6000) (loose := LW.loose) (d := HandSHeadRun.topDef LW.Rw.prog 66) (kwd := []) LW.ob_eq
    (by kernel_rfl) (fun s => by kernel_rfl) LW.run (by kernel_rfl) (by kernel_rfl) (by kernel_rfl) (by rfl) (by first | assumption | decide +kernel) (by decide +kernel) ⟨rfl, rfl, rfl, rfl, rfl, by decide +kernel⟩ ?hw ?hc
  case hw => w_witness2
  case hc =>
    refine LamX.walk_ofTsE (l := PySem.Challenge.rw_callpact_k03_whole_the_told_way_breaks) (n := 63) (k := 8) (x := "_law_script") (CX := fun w => L2.CX PySem.Challenge.pw_callpact_k03_whole_the_told_way_breaks w) rfl (by decide) (by kernel_rfl) ⟨rfl, by decide, by decide⟩ ?F (fun w H s e s2 z => ?_)
    · intro w mg fa h Y G hmg0
      obtain ⟨K, KX, c⟩ := Y
      have T : LW.Top w K mg := ⟨⟨h, KX, G, c⟩⟩
      have hmg : mg ("law" : PySem.Str) = some (.ref fa) := by
        have e : (HandSHeadRun.topDef LW.Rw.prog 66).name = ("law" : PySem.Str) := by kernel_rfl
        rw [← e]
        exact hmg0
      exact ⟨K, KX, LW.law_end (T.c.def_ 46 (d := LW.d_law) rfl) hmg (LW.t_glo_law T) (fun _ hp => nomatch hp) (fun base _ => LW.all_law (P := PySem.Challenge.pw_callpact_k03_whole_the_told_way_breaks) (base := base) T) (LW.m_law_ok (K := K))⟩
    · obtain ⟨a, B, H2, cls, d, _, _, _, _, _, _, _, z⟩ := z
      exact z
