import PyProof.Rows.All
import Wide.All
import OpenK.AllK
import Wide.FinOn
import HandS.HeadHook4
import HandS.ForMost
import HandS.TupAny
import HandS.TupMul
import HandS.IsInst
import HandS.Zip
import HandS.Rev
import HandS.RevTup
import HandS.Walk
import HandS.Lambda
import KE.KeyNested
import KE.KDictKeyed
import KE.KDictDisplayH
import KE.GoesNew
import HandS.NoneIn
import HandS.Small
import HandS.ForExc
import HandS.Defaults
import HandS.HeadHook2
import PyProof.DictUpdate
import Wide.Once
import KE.KStateDown
import HandS.Head0
import HandS.Head1
import HandS.Head2
import HandS.HeadEnd
import HandS.HeadWalk
import HandS.FStr
import HandS.RaiseMore
import PyProof.ExcBaseAll.ValueError
import HandS.SetFor
import HandS.Codes
import HandS.ExcIs
import HandS.TupLen
import HandS.Star
import HandS.Style
import HandS.SortInts
import HandS.Strs
import HandS.TupSets
import KE.KSetDisp
import HandS.Conv
import KE.SortData
import KE.KDictWalk
import KE.KDictList
import KE.KDictSum
import KE.GoesDict
import KE.GoesRaise
import HandS.ExcInit
import HandS.ExcSuper
import KE.KExcSuper
import HandS.ExcField
import PyProof.Rows.StrSplitJoin
import PyProof.Rows.StrItems
import PyProof.Rows.StrSplitAre
import PySem.Challenge.RW_callpact_k20_texts_refused
set_option Elab.async false
set_option linter.all false
set_option maxRecDepth 100000
set_option maxHeartbeats 2000000
namespace LW
section
open PySem PySem.Spec PyProof.Rows L2
inductive PV where
  | non | bl (b : Bool) | int (i : Int) | str (s : Str)
  | tup (xs : List PV) | ls (xs : List PV) | fz (xs : List PV) | dc (ks : List Str) (vs : List PV) | loc (l : Nat)

def cut (xs : List PV) (lo hi : Option Int) : List PV := (xs.drop (HT.sIx xs.length 0 lo)).take (HT.sIx xs.length xs.length hi - HT.sIx xs.length 0 lo)
def relP (K : PySem.W.Frag) : Nat → PV → Value → Bool
  | _, .int i, .int j _ => decide (i = j)
  | _, .str x, .str y _ => decide (x = y)
  | n + 1, .tup xs, .ref a => (match K.lookup a with
    | some ⟨.type c, _, .seq its _, _⟩ => decide (c = "tuple") && (decide (its.size ≤ sizeLine) && (decide (xs.length = its.toList.length) && (xs.zip its.toList).all fun p => relP K n p.1 p.2))
    | _ => false)
  | _, _, _ => false
def keyStr (e : DictEntry) : Option Str := match e.key with
  | .str x _ => some x
  | _ => none
def dictP (K : PySem.W.Frag) (a : Addr) (ks : List Str) (xs : List PV) : Bool := match K.lookup a with
  | some ⟨_, _, .dict es _, _⟩ => decide (es.toList.map keyStr = ks.map some) && (decide (xs.length = es.toList.length) && (xs.zip es.toList).all fun p => relP K 4 p.1 p.2.val)
  | _ => false
def kindNames : List Str := ["BadProgram", "BadNumber", "TooMany", "NotLet", "BadStates", "BadGiven", "BadFuel", "BadNoise", "BadSaves", "BadText"]
def kindWords : List Str := ["", "BadNumber", "TooMany", "NotLet", "BadStates", "BadGiven", "BadFuel", "BadNoise", "BadSaves"]
def excCB (K : PySem.W.Frag) (D : Addr) : Bool :=
  He.eqO (PySem.W.findIn K (.ref D) "__getattribute__") (some (some (.builtin "BaseException.__getattribute__"))) && (He.eqO (PySem.W.findIn K (.ref D) "__getattr__") (some none) && (decide (PySem.W.subIn K (.ref D) (.type "BaseException") = some true) && (PySem.W.hasDictIn K D &&
    (He.eqO (PySem.W.findIn K (.ref D) "__class__") (some (some (.builtin "object.__class__"))) && (He.eqO (PySem.W.specialIn K (.builtin "object.__class__") "__get__") (some (some (.builtin "getset_descriptor.__get__"))) &&
      (decide (PySem.W.takesIn K (.builtin "object.__class__") = some true) && decide (PySem.W.mroIn K D (.type "object") = some true)))))))
def kindB (K : PySem.W.Frag) (C : Addr) (j : Nat) : Bool :=
  excCB K C && ((List.range 10).all (fun m => decide (PySem.W.kitOne K (.ref C) (.ref (He.ga K (kindNames.getD m ""))) = some (decide (m = j)))) && (decide (PySem.W.kitOne K (.ref C) (.type "ValueError") = some true) && decide (PySem.W.exmOne K (.ref C) (.ref (He.ga K "PactError")) = some true)))
/-- the eight words' classes -/
def kindsB (K : PySem.W.Frag) : Bool := (List.range 8).all fun j => kindB K (He.ga K (kindWords.getD (j + 1) "")) (j + 1)
abbrev veI : String := "ValueError.__init__"
def plainN (n : Str) : Bool := !(n == ("__debug__" : Str)) && !(n == ("__classdict__" : Str))
def partB (ps : List Str) : Expr → Sum Str Nat → Bool
  | .Constant (.str s) _ _, .inl t => decide (s = t)
  | .FormattedValue (.Name n _) c none _, .inr i => decide (c = -1) && (decide (ps[i + 1]? = some n) && plainN n)
  | _, _ => false
def partsB (ps : List Str) : List Expr → List (Sum Str Nat) → Bool
  | [], [] => true
  | e :: es, p :: r => partB ps e p && partsB ps es r
  | _, _ => false
def setB (ps : List Str) : Stmt → Str × Nat → Bool
  | .Assign [.Attribute (.Name s _) f _] (.Name n _) _, (g, i) => decide (ps[0]? = some s) && (decide (f = g) && (decide (ps[i]? = some n) && (plainN s && plainN n)))
  | _, _ => false
def setsB (ps : List Str) : List Stmt → List (Str × Nat) → Bool
  | [], [] => true
  | s :: ss, p :: r => setB ps s p && setsB ps ss r
  | _, _ => false
def scopeB (ps : List Str) (sc : Scope) : Bool :=
  decide (sc.kind = .function) && (!sc.isCoroutine && (!sc.isGenerator && (decide ps.Nodup && (ps.all (fun n => decide (sc.names.lookup n = some .local)) && (sc.names.all (fun y => decide (y.2 ≠ .cell)) && (sc.names.all (fun y => !decide (y.2 = .free) || decide (y.1 = ("__class__" : Str))) &&
    (decide (sc.names.lookup ("__class__" : Str) = some .free) && decide (sc.names.lookup ("super" : Str) = some .globalImplicit))))))))
def oexB (K : PySem.W.Frag) (C : Addr) : Bool :=
  (match K.lookup C with
    | some ⟨.type t, _, .cls cd, sl⟩ => (match cd.mro, sl.toList with
      | .ref C' :: bm, [_, _, _, _, some (.builtin n), _] => decide (t = "type") && (decide (C' = C) && (decide (n = "ValueError.__new__") && (!cd.hasDel && (cd.hasDict && PySem.HandSPX.refsVE bm))))
      | _, _ => false)
    | _ => false) &&
  (decide (PySem.W.findIn K (.ref C) "__setattr__" = some (some (.builtin "object.__setattr__"))) && (decide (PySem.W.subIn K (.ref C) (.type "BaseException") = some true) && (decide (PySem.W.typeIn K (.ref C) = some (.type "type")) && PySem.W.keepIn K (.ref C))))
def argsB (ps : List Str) (a : Arguments) : Bool := match ps, a with
  | [n0, n1], ⟨[], [a0, a1], none, [], [], none, []⟩ => decide (a0.arg = n0) && decide (a1.arg = n1)
  | [n0, n1, n2, n3], ⟨[], [a0, a1, a2, a3], none, [], [], none, []⟩ => decide (a0.arg = n0) && (decide (a1.arg = n1) && (decide (a2.arg = n2) && decide (a3.arg = n3)))
  | _, _ => false
def cellB (K : PySem.W.Frag) (cc C : Addr) : Bool := match K.lookup cc with
  | some ⟨_, _, .cell (some (.ref D)), _⟩ => decide (D = C)
  | _ => false
def fileB (K : PySem.W.Frag) (cda : Addr) (file : Str) : Bool := match K.lookup cda with
  | some ⟨_, _, .fields vs, _⟩ => (match (vs[2]? : Option Value) with
    | some (.str f _) => decide (f = file)
    | _ => false)
  | _ => false
def supFB (K : PySem.W.Frag) (C : Addr) (ps fs : List Str) (parts : List (Sum Str Nat)) (file : Str) (fd : FuncData) : Bool := match fd.body, fd.closure, fd.code with
  | .stmts (.Expr (.Call (.Attribute (.Call (.Name s1 _) [] [] _) s2 ap) [.JoinedStr (e1 :: e2 :: es) _] [] cp) _ :: rest), [(n, cc)], .ref cda =>
    (ap.endLine == cp.line) && (decide (s1 = ("super" : Str)) && (decide (s2 = ("__init__" : Str)) && (decide (n = ("__class__" : Str)) && (partsB ps (e1 :: e2 :: es) parts && (setsB ps rest (fs.zip (List.range' 1 fs.length)) && (scopeB ps fd.scope && (decide (fd.globals = mainGlobals) && (decide (fd.builtins = builtinsNs) &&
      (PySem.W.codeIn K (.ref cda) fd.qualname && (cellB K cc C && (fileB K cda file && (argsB ps fd.params && (decide (fd.defaults = .none) && decide (fd.kwdefaults = .none))))))))))))))
  | _, _, _ => false
def supB (K : PySem.W.Frag) (C : Addr) (ps fs : List Str) (parts : List (Sum Str Nat)) (file : Str) : Bool :=
  oexB K C && (decide (PySem.W.ks_superIn K C C "__init__" = some (some (.builtin veI))) && (decide (PySem.W.subIn K (.ref C) (.type "ValueError") = some true) && (decide (PySem.W.nsIn K cStatics "thirdparty.any" = some none) && (decide (PySem.W.mroIn K C (.ref C) = some true) &&
    (fs.all (fun f => decide (PySem.W.findIn K (.ref C) f = some none)) && (decide (ps.length = fs.length + 1) && (decide (fs ≠ []) && (decide (fs.length ≤ 900) &&
      (match PySem.W.findIn K (.ref C) "__init__" with
        | some (some (.ref fI)) => decide (PySem.W.typeIn K (.ref fI) = some (.type "function")) && (match K.lookup fI with
          | some ⟨_, _, .func fd, _⟩ => supFB K C ps fs parts file fd
          | _ => false)
        | _ => false)))))))))
def progParts : List (Sum Str Nat) := [.inl "no program: ", .inr 0, .inl " ", .inr 1, .inl ", row ", .inr 2]
def textParts : List (Sum Str Nat) := [.inl "no written program: line ", .inr 0]
def fldB (K : PySem.W.Frag) (w : Str) (j : Nat) (fs : List Str) : Bool := kindB K (He.ga K w) j && (xfB K (He.ga K w) && fs.all fun f => decide (PySem.W.findIn K (.ref (He.ga K w)) f = some none))
/-- the two classes with fields, of a text whose code stands in the file -/
def fldsB (K : PySem.W.Frag) : Bool :=
  supB K (He.ga K "BadProgram") ["self", "word", "number", "row"] ["word", "number", "row"] progParts "/claim/cut.py" && (supB K (He.ga K "BadText") ["self", "line"] ["line"] textParts "/claim/cut.py" &&
    (fldB K "BadProgram" 0 ["word", "number", "row"] && fldB K "BadText" 9 ["line"]))
def reachC (g : Addr → Option Obj) (n : Nat) : PySem.W.Frag := He.frT g (cStatics :: He.asD g n)
def obC (n : Nat) (fa : List He.Fa) (fn : List He.DefD) (ts : List He.Tab) (tf : List He.Defn) (ex : PySem.W.Frag → Bool) (g : Addr → Option Obj) : He.AlX :=
  (He.obsT fa fn ts (reachC g n), ex (reachC g n) && He.tabsB g tf (reachC g n))
theorem says_by {fa : List He.Fa} {fn : List He.DefD} {ts : List He.Tab} {tf : List He.Defn} {ex : PySem.W.Frag → Bool} {w : World} {h : Heap} {K : PySem.W.Frag} (e1 : He.SaysT fa fn ts w K) (e2 : ex K = true) (e3 : He.tabsB h.get? tf K = true)
    (no : ∀ a o, h.get? a = some o → He.emptyTab o = true → K.lookup a = none) : He.SaysX fa fn ts tf ex w h K := by
  have each : ∀ p ∈ tf, PySem.W.codeHdIn K (He.cT K p).1 (He.cT K p).2 = true ∧ ∃ o, h.get? (He.cT K p).2 = some o ∧ He.emptyTab o = true := by
    intro p hp
    have := Bool.and_eq_true_iff.mp (List.all_eq_true.mp e3 p hp)
    refine ⟨this.1, ?_⟩
    have h2 := this.2
    split at h2
    · rename_i o ho
      exact ⟨o, ho, h2⟩
    · cases h2
  constructor
  · exact e1
  · exact e2
  · exact fun p hp => (each p hp).1
  · intro p hp
    obtain ⟨o, ho, hz⟩ := (each p hp).2
    exact no _ o ho hz
  · intro p hp
    obtain ⟨o, ho, hz⟩ := (each p hp).2
    rw [ho, He.emptyTab_eq hz]
def hookC (n : Nat) (fa : List He.Fa) (fn : List He.DefD) (ts : List He.Tab) (tf : List He.Defn) (ex : PySem.W.Frag → Bool) : PySem.W.Hook where
  α := He.AlX
  obs s := obC n fa fn ts tf ex s.heap.get?
  val := He.valX fn ts
  says w h := ∃ K : PySem.W.Frag, K.In h ∧ He.SaysX fa fn ts tf ex w h K
  of := fun w s e => by
    have e2 := Bool.and_eq_true_iff.mp (show (ex (reachC s.heap.get? n) && He.tabsB s.heap.get? tf (reachC s.heap.get? n)) = true from congrArg Prod.snd e)
    exact ⟨reachC s.heap.get? n, He.frT_in, says_by (congrArg Prod.fst e) e2.1 e2.2 fun _ _ => He.frT_none⟩
  keeps := (He.hookX n fa fn ts tf ex).keeps
theorem obC_eq {n : Nat} {fa : List He.Fa} {fn : List He.DefD} {ts : List He.Tab} {tf : List He.Defn} {ex : PySem.W.Frag → Bool} {g : Addr → Option Obj} {s : Shared} (h : ∀ a, g a = s.heap.get? a) : obC n fa fn ts tf ex g = (hookC n fa fn ts tf ex).obs s := by
  rw [show g = s.heap.get? from funext h]
  rfl
end
/-! Gk20_1 -/
/-! .. and that the text does it; written by gen.py -/
section
open PySem PySem.Spec PyProof.Rows L2
def topS (i : Nat) : Stmt := PySem.Challenge.pw_callpact_k20_texts_refused.main.body.getD i (.Pass ⟨0, 0, 0, 0⟩)
abbrev s_is_tuple_of : Stmt := topS 20
abbrev s_is_below : Stmt := topS 19
abbrev s_are_rising_boxes : Stmt := topS 21
abbrev s_is_house : Stmt := topS 22
abbrev s_check_houses : Stmt := topS 24
abbrev s_is_row : Stmt := topS 23
abbrev s_check_rows : Stmt := topS 25
abbrev s_check_routines : Stmt := topS 26
abbrev s_check_program : Stmt := topS 27
abbrev s_boxes_word : Stmt := topS 32
abbrev s_house_line : Stmt := topS 33
abbrev s_routine_lines : Stmt := topS 34
abbrev s_written : Stmt := topS 35
abbrev s_are_figures : Stmt := topS 36
abbrev s_is_number_word : Stmt := topS 37
abbrev s_is_boxes_word : Stmt := topS 38
abbrev s_is_house_line : Stmt := topS 39
abbrev s_is_routine_line : Stmt := topS 40
abbrev s_is_row_line : Stmt := topS 41
abbrev s_boxes_read : Stmt := topS 42
abbrev s_house_read : Stmt := topS 43
abbrev s_row_read : Stmt := topS 44
abbrev s_read : Stmt := topS 45
abbrev s_mix : Stmt := topS 47
abbrev s_next : Stmt := topS 48
abbrev s_alike : Stmt := topS 49
abbrev s_house : Stmt := topS 50
abbrev s_number : Stmt := topS 51
abbrev s_simple : Stmt := topS 52
abbrev s_calling : Stmt := topS 53
abbrev s_zeroed : Stmt := topS 54
abbrev s_kept : Stmt := topS 55
abbrev s_program : Stmt := topS 57
abbrev s_wild_row : Stmt := topS 56
abbrev s_odd : Stmt := topS 58
abbrev s_wild : Stmt := topS 59
abbrev s_any : Stmt := topS 60
abbrev s_forms : Stmt := topS 62
abbrev s_figures : Stmt := topS 63
abbrev s_boxes : Stmt := topS 64
abbrev s_line : Stmt := topS 65
abbrev s_made : Stmt := topS 66
abbrev s_spoilt : Stmt := topS 67
abbrev s_law : Stmt := topS 68
abbrev s_kind : Stmt := topS 61
def d_is_tuple_of : He.DefD := ⟨("is_tuple_of", none), "is_tuple_of", "is_tuple_of", defArgs s_is_tuple_of, defBody s_is_tuple_of, defScope s_is_tuple_of, [], []⟩
def d_is_below : He.DefD := ⟨("is_below", none), "is_below", "is_below", defArgs s_is_below, defBody s_is_below, defScope s_is_below, [], []⟩
def d_are_rising_boxes : He.DefD := ⟨("are_rising_boxes", none), "are_rising_boxes", "are_rising_boxes", defArgs s_are_rising_boxes, defBody s_are_rising_boxes, defScope s_are_rising_boxes, [], []⟩
def d_is_house : He.DefD := ⟨("is_house", none), "is_house", "is_house", defArgs s_is_house, defBody s_is_house, defScope s_is_house, [], []⟩
def d_check_houses : He.DefD := ⟨("check_houses", none), "check_houses", "check_houses", defArgs s_check_houses, defBody s_check_houses, defScope s_check_houses, [], []⟩
def d_is_row : He.DefD := ⟨("is_row", none), "is_row", "is_row", defArgs s_is_row, defBody s_is_row, defScope s_is_row, [], []⟩
def d_check_rows : He.DefD := ⟨("check_rows", none), "check_rows", "check_rows", defArgs s_check_rows, defBody s_check_rows, defScope s_check_rows, [], []⟩
def d_check_routines : He.DefD := ⟨("check_routines", none), "check_routines", "check_routines", defArgs s_check_routines, defBody s_check_routines, defScope s_check_routines, [], []⟩
def d_check_program : He.DefD := ⟨("check_program", none), "check_program", "check_program", defArgs s_check_program, defBody s_check_program, defScope s_check_program, [], []⟩
def d_boxes_word : He.DefD := ⟨("boxes_word", none), "boxes_word", "boxes_word", defArgs s_boxes_word, defBody s_boxes_word, defScope s_boxes_word, [], []⟩
def d_house_line : He.DefD := ⟨("house_line", none), "house_line", "house_line", defArgs s_house_line, defBody s_house_line, defScope s_house_line, [], []⟩
def d_routine_lines : He.DefD := ⟨("routine_lines", none), "routine_lines", "routine_lines", defArgs s_routine_lines, defBody s_routine_lines, defScope s_routine_lines, [], []⟩
def d_written : He.DefD := ⟨("written", none), "written", "written", defArgs s_written, defBody s_written, defScope s_written, [], []⟩
def d_are_figures : He.DefD := ⟨("are_figures", none), "are_figures", "are_figures", defArgs s_are_figures, defBody s_are_figures, defScope s_are_figures, [], []⟩
def d_is_number_word : He.DefD := ⟨("is_number_word", none), "is_number_word", "is_number_word", defArgs s_is_number_word, defBody s_is_number_word, defScope s_is_number_word, [], []⟩
def d_is_boxes_word : He.DefD := ⟨("is_boxes_word", none), "is_boxes_word", "is_boxes_word", defArgs s_is_boxes_word, defBody s_is_boxes_word, defScope s_is_boxes_word, [], []⟩
def d_is_house_line : He.DefD := ⟨("is_house_line", none), "is_house_line", "is_house_line", defArgs s_is_house_line, defBody s_is_house_line, defScope s_is_house_line, [], []⟩
def d_is_routine_line : He.DefD := ⟨("is_routine_line", none), "is_routine_line", "is_routine_line", defArgs s_is_routine_line, defBody s_is_routine_line, defScope s_is_routine_line, [], []⟩
def d_is_row_line : He.DefD := ⟨("is_row_line", none), "is_row_line", "is_row_line", defArgs s_is_row_line, defBody s_is_row_line, defScope s_is_row_line, [], []⟩
def d_boxes_read : He.DefD := ⟨("boxes_read", none), "boxes_read", "boxes_read", defArgs s_boxes_read, defBody s_boxes_read, defScope s_boxes_read, [], []⟩
def d_house_read : He.DefD := ⟨("house_read", none), "house_read", "house_read", defArgs s_house_read, defBody s_house_read, defScope s_house_read, [], []⟩
def d_row_read : He.DefD := ⟨("row_read", none), "row_read", "row_read", defArgs s_row_read, defBody s_row_read, defScope s_row_read, [], []⟩
def d_read : He.DefD := ⟨("read", none), "read", "read", defArgs s_read, defBody s_read, defScope s_read, [], []⟩
def d_mix : He.DefD := ⟨("_law_mix", none), "_law_mix", "_law_mix", defArgs s_mix, defBody s_mix, defScope s_mix, [], []⟩
def d_next : He.DefD := ⟨("_law_next", none), "_law_next", "_law_next", defArgs s_next, defBody s_next, defScope s_next, [], []⟩
def d_alike : He.DefD := ⟨("_law_alike", none), "_law_alike", "_law_alike", defArgs s_alike, defBody s_alike, defScope s_alike, [], []⟩
def d_house : He.DefD := ⟨("_law_house", none), "_law_house", "_law_house", defArgs s_house, defBody s_house, defScope s_house, [], []⟩
def d_number : He.DefD := ⟨("_law_number", none), "_law_number", "_law_number", defArgs s_number, defBody s_number, defScope s_number, [], []⟩
def d_simple : He.DefD := ⟨("_law_simple", none), "_law_simple", "_law_simple", defArgs s_simple, defBody s_simple, defScope s_simple, [], []⟩
def d_calling : He.DefD := ⟨("_law_calling", none), "_law_calling", "_law_calling", defArgs s_calling, defBody s_calling, defScope s_calling, [], []⟩
def d_zeroed : He.DefD := ⟨("_law_zeroed", none), "_law_zeroed", "_law_zeroed", defArgs s_zeroed, defBody s_zeroed, defScope s_zeroed, [], []⟩
def d_kept : He.DefD := ⟨("_law_kept", none), "_law_kept", "_law_kept", defArgs s_kept, defBody s_kept, defScope s_kept, [], []⟩
def d_program : He.DefD := ⟨("_law_program", none), "_law_program", "_law_program", defArgs s_program, defBody s_program, defScope s_program, [], []⟩
def d_wild_row : He.DefD := ⟨("_law_wild_row", none), "_law_wild_row", "_law_wild_row", defArgs s_wild_row, defBody s_wild_row, defScope s_wild_row, [], []⟩
def d_odd : He.DefD := ⟨("_law_odd", none), "_law_odd", "_law_odd", defArgs s_odd, defBody s_odd, defScope s_odd, [], []⟩
def d_wild : He.DefD := ⟨("_law_wild", none), "_law_wild", "_law_wild", defArgs s_wild, defBody s_wild, defScope s_wild, [], []⟩
def d_any : He.DefD := ⟨("_law_any", none), "_law_any", "_law_any", defArgs s_any, defBody s_any, defScope s_any, [], []⟩
def d_forms : He.DefD := ⟨("_law_forms", none), "_law_forms", "_law_forms", defArgs s_forms, defBody s_forms, defScope s_forms, [], []⟩
def d_figures : He.DefD := ⟨("_law_figures", none), "_law_figures", "_law_figures", defArgs s_figures, defBody s_figures, defScope s_figures, [], []⟩
def d_boxes : He.DefD := ⟨("_law_boxes", none), "_law_boxes", "_law_boxes", defArgs s_boxes, defBody s_boxes, defScope s_boxes, [], []⟩
def d_line : He.DefD := ⟨("_law_line", none), "_law_line", "_law_line", defArgs s_line, defBody s_line, defScope s_line, [], []⟩
def d_made : He.DefD := ⟨("_law_made", none), "_law_made", "_law_made", defArgs s_made, defBody s_made, defScope s_made, [], []⟩
def d_spoilt : He.DefD := ⟨("_law_spoilt", none), "_law_spoilt", "_law_spoilt", defArgs s_spoilt, defBody s_spoilt, defScope s_spoilt, [], []⟩
def d_law : He.DefD := ⟨("law", none), "law", "law", defArgs s_law, defBody s_law, defScope s_law, [], []⟩
def d_kind : He.DefD := ⟨("_law_kind", none), "_law_kind", "_law_kind", defArgs s_kind, defBody s_kind, defScope s_kind, [], []⟩
def fnl : List He.DefD := [d_is_tuple_of, d_is_below, d_are_rising_boxes, d_is_house, d_check_houses, d_is_row, d_check_rows, d_check_routines, d_check_program, d_boxes_word, d_house_line, d_routine_lines, d_written, d_are_figures, d_is_number_word, d_is_boxes_word, d_is_house_line, d_is_routine_line, d_is_row_line, d_boxes_read, d_house_read, d_row_read, d_read, d_mix, d_next, d_alike, d_house, d_number, d_simple, d_calling, d_zeroed, d_kept, d_program, d_wild_row, d_odd, d_wild, d_any, d_forms, d_figures, d_boxes, d_line, d_made, d_spoilt, d_law, d_kind]
def fal : List He.Fa := [.free "all", .free "any", .free "bool", .free "enumerate", .free "int", .free "isinstance", .free "len", .free "list", .free "max", .free "min", .free "range", .free "reversed", .free "str", .free "super", .free "tuple", .free "zip", .glo "PLACES", .str "FIGURES" "0123456789", .str "NO_BOXES" "-", .int "BOXES" 6, .int "MOST_FIGURES" 3, .int "MOST_HOUSES" 3, .int "MOST_ROUTINES" 6, .int "MOST_ROWS" 32, .int "NUMBERS" 1000, .free "ValueError", .glo "BadProgram", .glo "BadNumber", .glo "TooMany", .glo "NotLet", .glo "BadStates", .glo "BadGiven", .glo "BadFuel", .glo "BadNoise", .glo "BadSaves", .glo "BadText", .glo "PactError", .glo "_law_kind", .glo "is_tuple_of", .glo "is_below", .glo "are_rising_boxes", .glo "is_house", .glo "check_houses", .glo "is_row", .glo "check_rows", .glo "check_routines", .glo "check_program", .glo "boxes_word", .glo "house_line", .glo "routine_lines", .glo "written", .glo "are_figures", .glo "is_number_word", .glo "is_boxes_word", .glo "is_house_line", .glo "is_routine_line", .glo "is_row_line", .glo "boxes_read", .glo "house_read", .glo "row_read", .glo "read", .glo "_law_mix", .glo "_law_next", .glo "_law_alike", .glo "_law_house", .glo "_law_number", .glo "_law_simple", .glo "_law_calling", .glo "_law_zeroed", .glo "_law_kept", .glo "_law_program", .glo "_law_wild_row", .glo "_law_odd", .glo "_law_wild", .glo "_law_any", .glo "_law_forms", .glo "_law_figures", .glo "_law_boxes", .glo "_law_line", .glo "_law_made", .glo "_law_spoilt", .glo "law"]
def K_PLACES : List Str := ["put", "move", "add", "take", "push", "pop", "say", "zero", "go", "call", "back"]
def V_PLACES : List PV := [PV.tup [PV.str "box", PV.str "number"], PV.tup [PV.str "box", PV.str "box"], PV.tup [PV.str "box", PV.str "box", PV.str "box"], PV.tup [PV.str "box", PV.str "box", PV.str "box"], PV.tup [PV.str "box"], PV.tup [PV.str "box"], PV.tup [PV.str "box"], PV.tup [PV.str "box", PV.str "row"], PV.tup [PV.str "row"], PV.tup [PV.str "routine"], PV.tup []]
def tbl : List He.Tab := [(fun K => He.ga K "PLACES", K_PLACES)]
def exB (K : PySem.W.Frag) : Bool := dictP K (He.ga K "PLACES") K_PLACES V_PLACES && kindsB K && fldsB K
end

/-! Gk20_r -/
section
open PySem PySem.Spec PyProof.Rows L2
abbrev hk : PySem.W.Hook := hookC 5 fal fnl tbl [("law", none)] exB
def ob (s : PySem.W.SharedT) : He.AlX := obC 5 fal fnl tbl [("law", none)] exB (HandSHeadRun.getT s)
theorem ob_eq (s : PySem.W.SharedT) : ob s = hk.obs s.abs := obC_eq (HandSHeadRun.getT_eq s)
abbrev Rw : PySem.W.OpenRow := PySem.W.OpenLaw.row PySem.Challenge.rw_callpact_k20_texts_refused
def ln0 : List PySem.Str := ["PactError", "BadProgram", "BadNumber", "TooMany", "NotLet", "BadStates", "BadGiven", "BadFuel", "BadNoise", "BadSaves", "BadText", "BOXES", "NUMBERS", "MOST_HOUSES", "MOST_ROUTINES", "MOST_ROWS", "PLACES", "is_below", "is_tuple_of", "are_rising_boxes", "is_house", "is_row", "check_houses", "check_rows"]
def ln1 : List PySem.Str := ["check_routines", "check_program", "FIGURES", "MOST_FIGURES", "NO_BOXES", "boxes_word", "house_line", "routine_lines", "written", "are_figures", "is_number_word", "is_boxes_word", "is_house_line", "is_routine_line", "is_row_line", "boxes_read", "house_read", "row_read", "read", "_law_mix", "_law_next", "_law_alike", "_law_house", "_law_number"]
def ln2 : List PySem.Str := ["_law_simple", "_law_calling", "_law_zeroed", "_law_kept", "_law_wild_row", "_law_program", "_law_odd", "_law_wild", "_law_any", "_law_kind", "_law_forms", "_law_figures", "_law_boxes", "_law_line", "_law_made", "_law_spoilt"]
def loose : List PySem.Str := ln0 ++ ln1 ++ ln2
set_option maxHeartbeats 0 in
theorem runF (w : World) : HandSHeadRun.RunEq Rw (PySem.W.view Rw.prog [68]) hk ob 6000 loose (w.withFollow "special-get-raises" false) := by
  intro os
  kernel_rfl
theorem runT (w : World) : HandSHeadRun.RunEq Rw (PySem.W.view Rw.prog [68]) hk ob 6000 loose (w.withFollow "special-get-raises" true) := by
  intro os
  kernel_rfl
theorem run (w : World) : HandSHeadRun.RunEq Rw (PySem.W.view Rw.prog [68]) hk ob 6000 loose w :=
  PySem.W.byRow2 "special-get-raises" (P := fun w => HandSHeadRun.RunEq Rw (PySem.W.view Rw.prog [68]) hk ob 6000 loose w) runF runT w
end

/-! MiniK -/
/-! MiniK: the defs of this law that make lambdas (by name). -/
section
open PySem
def KD : List He.Defn := [("law", none)]
/-- their tables of code objects -/
def KT (K : PySem.W.Frag) : List (Addr × Str) := KD.map fun p => ((He.cT K p).2, p.1 ++ ".<locals>.<lambda>")
end

/-! Mini0 -/
/-! Mini0: a small machine of plain data: values, a store of what changes, what a piece of program does. -/
section
open PySem L2


mutual
def PV.beq : PV → PV → Bool
  | .non, .non => true
  | .bl a, .bl b => a == b
  | .int a, .int b => a == b
  | .str a, .str b => decide (a = b)
  | .tup a, .tup b => PV.beqs a b
  | .ls a, .ls b => PV.beqs a b
  | .fz a, .fz b => PV.beqs a b
  | .dc k a, .dc l b => decide (k = l) && PV.beqs a b
  | .loc a, .loc b => a == b
  | _, _ => false
def PV.beqs : List PV → List PV → Bool
  | [], [] => true
  | a :: r, b :: s => PV.beq a b && PV.beqs r s
  | _, _ => false
end
mutual
theorem PV.beq_eq : ∀ a b : PV, PV.beq a b = true → a = b
  | .non, b, h => by cases b <;> simp_all [PV.beq]
  | .bl x, b, h => by cases b <;> simp_all [PV.beq]
  | .int x, b, h => by cases b <;> simp_all [PV.beq]
  | .str x, b, h => by cases b <;> simp_all [PV.beq]
  | .tup xs, b, h => by
    cases b <;> simp [PV.beq] at h
    rw [PV.beqs_eq _ _ h]
  | .ls xs, b, h => by
    cases b <;> simp [PV.beq] at h
    rw [PV.beqs_eq _ _ h]
  | .fz xs, b, h => by
    cases b <;> simp [PV.beq] at h
    rw [PV.beqs_eq _ _ h]
  | .dc k xs, b, h => by
    cases b <;> simp [PV.beq] at h
    rw [h.1, PV.beqs_eq _ _ h.2]
  | .loc l, b, h => by cases b <;> simp_all [PV.beq]
theorem PV.beqs_eq : ∀ a b : List PV, PV.beqs a b = true → a = b
  | [], b, h => by cases b <;> simp_all [PV.beqs]
  | x :: r, b, h => by
    cases b with
    | nil => simp [PV.beqs] at h
    | cons y s =>
      simp [PV.beqs] at h
      rw [PV.beq_eq _ _ h.1, PV.beqs_eq _ _ h.2]
end
mutual
theorem PV.beq_refl : ∀ a : PV, PV.beq a a = true
  | .non => rfl
  | .bl x => by simp [PV.beq]
  | .int x => by simp [PV.beq]
  | .str x => by simp [PV.beq]
  | .tup xs => by simp [PV.beq, PV.beqs_refl xs]
  | .ls xs => by simp [PV.beq, PV.beqs_refl xs]
  | .fz xs => by simp [PV.beq, PV.beqs_refl xs]
  | .dc k xs => by simp [PV.beq, PV.beqs_refl xs]
  | .loc l => by simp [PV.beq]
theorem PV.beqs_refl : ∀ a : List PV, PV.beqs a a = true
  | [] => rfl
  | x :: r => by simp [PV.beqs, PV.beq_refl x, PV.beqs_refl r]
end
instance : DecidableEq PV := fun a b =>
  if h : PV.beq a b = true then .isTrue (PV.beq_eq a b h) else .isFalse fun e => h (e ▸ PV.beq_refl a)
instance : Inhabited PV := ⟨.non⟩

/-- what changes: a list, a dict by texts, a dict by data, by ints, such that are walked just now, an instance of the class at C -/
inductive Cell where
  | lst (xs : List PV)
  | dks (ks : List Str) (vs : List PV)
  | dkn (ks vs : List PV)
  | dki (ks : List Int) (vs : List PV)
  | fki (ks : List Int) (vs : List PV)
  | fkn (ks vs : List PV)
  | ins (C : Nat) (fs : List (Str × PV))
  deriving DecidableEq
abbrev Store := List Cell
structure PExc where
  cls : Str
  fs : List (Str × PV)
  deriving DecidableEq
inductive R (α : Type) where
  | ok (a : α) (S : Store)
  | exc (e : PExc) (S : Store)
  | bad
def R.bind {α β : Type} (r : R α) (f : α → Store → R β) : R β :=
  match r with
  | .ok a S => f a S
  | .exc e S => .exc e S
  | .bad => .bad
@[simp] theorem R.bind_ok {α β : Type} (a : α) (S : Store) (f : α → Store → R β) : (R.ok a S).bind f = f a S := rfl
/-- where no error may come out -/
def R.nox {α : Type} : R α → R α
  | .exc _ _ => .bad
  | r => r
@[simp] theorem R.nox_ok {α : Type} (a : α) (S : Store) : (R.ok a S).nox = .ok a S := rfl
abbrev Env := List (Option PV)
abbrev XE := Env → Store → R PV
abbrev XB := Env → Store → R Bool
abbrev XA := Env → Store → R (List PV)
inductive Fl where
  | nx | rt (v : PV) | bk | ct
abbrev XS := Env → Store → R (Fl × Env)

/-! ### values -/
def eVar (i : Nat) : XE := fun env S => match env[i]? with
  | some (some x) => .ok x S
  | _ => .bad
def eC (x : PV) : XE := fun _ S => .ok x S
abbrev Op1 := PV → Store → R PV
abbrev Op2 := PV → PV → Store → R PV
def eUn (op : Op1) (a : XE) : XE := fun env S => (a env S).bind fun x S => op x S
def eOp (op : Op2) (a b : XE) : XE := fun env S => (a env S).bind fun x S => (b env S).bind fun y S => op x y S
def eAnd (a b : XE) : XE := fun env S => (a env S).bind fun x S => match x with
  | .bl true => b env S
  | .bl false => .ok (.bl false) S
  | _ => .bad
def eOr (a b : XE) : XE := fun env S => (a env S).bind fun x S => match x with
  | .bl true => .ok (.bl true) S
  | .bl false => b env S
  | _ => .bad
def eNot (a : XE) : XE := fun env S => (a env S).bind fun x S => match x with
  | .bl k => .ok (.bl (!k)) S
  | _ => .bad
def eIf (c : XB) (a b : XE) : XE := fun env S => (c env S).bind fun k S => if k = true then a env S else b env S
/-- a op1 b op2 c -/
def eChain (o1 o2 : Op2) (a b c : XE) : XE := fun env S => (a env S).bind fun x S => (b env S).bind fun y S => (o1 x y S).bind fun k S => match k with
  | .bl true => (c env S).bind fun z S => o2 y z S
  | .bl false => .ok (.bl false) S
  | _ => .bad
/-! tests -/
def bVal (a : XE) : XB := fun env S => (a env S).bind fun x S => match x with
  | .bl k => .ok k S
  | _ => .bad
def bAnd (a b : XB) : XB := fun env S => (a env S).bind fun k S => if k = true then b env S else .ok false S
def bOr (a b : XB) : XB := fun env S => (a env S).bind fun k S => if k = true then .ok true S else b env S
def bNot (a : XB) : XB := fun env S => (a env S).bind fun k S => .ok (!k) S
/-! argument lists -/
def aNil : XA := fun _ S => .ok [] S
def aCons (a : XE) (r : XA) : XA := fun env S => (a env S).bind fun x S => (r env S).bind fun xs S => .ok (x :: xs) S

/-! ### operations -/
def lim : Nat := 1000000
/-- the items of a list or tuple -/
def seqOf (S : Store) : PV → Option (List PV)
  | .tup xs => some xs
  | .ls xs => some xs
  | .fz xs => some xs
  | .loc l => match S[l]? with
    | some (.lst xs) => some xs
    | _ => none
  | _ => none
def lstOf (S : Store) : PV → Option (List PV)
  | .ls xs => some xs
  | .loc l => match S[l]? with
    | some (.lst xs) => some xs
    | _ => none
  | _ => none
def oAdd : Op2 := fun x y S => match x, y with
  | .int i, .int j => .ok (.int (i + j)) S
  | .tup a, .tup b => if a.length + b.length ≤ lim then .ok (.tup (a ++ b)) S else .bad
  | x, y => match lstOf S x, lstOf S y with
    | some a, some b => if a.length + b.length ≤ lim then .ok (.ls (a ++ b)) S else .bad
    | _, _ => .bad
def oSub : Op2 := fun x y S => match x, y with
  | .int i, .int j => .ok (.int (i - j)) S
  | _, _ => .bad
def mulOk (i j : Int) : Bool := (decide (-(2 ^ 64) < i) && decide (i < 2 ^ 64)) || (decide (-(2 ^ 64) < j) && decide (j < 2 ^ 64))
def rep (xs : List PV) (n : Nat) : List PV := (List.replicate n xs).flatten
def oMul : Op2 := fun x y S => match x, y with
  | .int i, .int j => if mulOk i j = true then .ok (.int (i * j)) S else .bad
  | .tup a, .int j => if j = 1 then .ok (.tup a) S else if 2 ≤ j ∧ j ≤ 1000 ∧ a.length ≤ 1000 ∧ a ≠ [] then .ok (.tup (rep a j.toNat)) S else .bad
  | x, .int j => match lstOf S x with
    | some a => if 0 ≤ j ∧ j ≤ 1000 ∧ a.length ≤ 1000 then .ok (.ls (rep a j.toNat)) S else .bad
    | none => .bad
  | _, _ => .bad
def oDiv : Op2 := fun x y S => match x, y with
  | .int i, .int j => if 0 < j ∧ j < 1073741824 then .ok (.int (i / j)) S else .bad
  | _, _ => .bad
def oMod : Op2 := fun x y S => match x, y with
  | .int i, .int j => if 0 < j then .ok (.int (i % j)) S else .bad
  | _, _ => .bad
def oPow : Op2 := fun x y S => match x, y with
  | .int i, .int j => if 0 ≤ j ∧ j ≤ 1000 ∧ i.natAbs < 2 ^ 64 then .ok (.int (i ^ j.toNat)) S else .bad
  | _, _ => .bad
def oNeg : Op1 := fun x S => match x with
  | .int i => .ok (.int (-i)) S
  | _ => .bad
def oLt : Op2 := fun x y S => match x, y with
  | .int i, .int j => .ok (.bl (decide (i < j))) S
  | _, _ => .bad
def oLe : Op2 := fun x y S => match x, y with
  | .int i, .int j => .ok (.bl (decide (i ≤ j))) S
  | _, _ => .bad
def oGt : Op2 := fun x y S => match x, y with
  | .int i, .int j => .ok (.bl (decide (j < i))) S
  | _, _ => .bad
def oGe : Op2 := fun x y S => match x, y with
  | .int i, .int j => .ok (.bl (decide (j ≤ i))) S
  | _, _ => .bad
def PV.isNon : PV → Bool
  | .non => true
  | _ => false
def oIsN : Op2 := fun x y S => match y with
  | .non => .ok (.bl x.isNon) S
  | _ => .bad
/-! plain data, as == looks at it; lists of the store at any depth -/
def res : Nat → Store → PV → PV
  | 0, _, x => x
  | n + 1, S, .loc l => match S[l]? with
    | some (.lst xs) => .ls (xs.map (res n S))
    | _ => .loc l
  | n + 1, S, .tup xs => .tup (xs.map (res n S))
  | n + 1, S, .ls xs => .ls (xs.map (res n S))
  | n + 1, S, .fz xs => .ls (xs.map (res n S))
  | _ + 1, _, x => x
def plain : Nat → PV → Bool
  | _, .non => true
  | _, .bl _ => true
  | _, .int _ => true
  | _, .str s => PyData.strOk s
  | n + 1, .tup xs => xs.all (plain n)
  | n + 1, .ls xs => xs.all (plain n)
  | _, _ => false
/-! == by its own clauses -/
mutual
def eqv : PV → PV → Bool
  | .non, y => match y with | .non => true | _ => false
  | .bl a, y => match y with | .bl b => a == b | .int j => (if a then 1 else 0) == j | _ => false
  | .int i, y => match y with | .bl b => i == (if b then 1 else 0) | .int j => i == j | _ => false
  | .str a, y => match y with | .str b => decide (a = b) | _ => false
  | .tup a, y => match y with | .tup b => eqvs a b | _ => false
  | .ls a, y => match y with | .ls b => eqvs a b | _ => false
  | _, _ => false
def eqvs : List PV → List PV → Bool
  | [], y => match y with | [] => true | _ :: _ => false
  | a :: r, y => match y with | [] => false | b :: s => eqv a b && eqvs r s
end
mutual
def datOf : PV → PyData
  | .bl b => .bool b
  | .int i => .int i
  | .str s => .str s
  | .tup xs => .tuple (datsOf xs)
  | .ls xs => .list (datsOf xs)
  | _ => .none
def datsOf : List PV → List PyData
  | [] => []
  | x :: r => datOf x :: datsOf r
end
def oEq : Op2 := fun x y S => if plain 20 (res 20 S x) = true ∧ plain 20 (res 20 S y) = true then .ok (.bl (eqv (res 20 S x) (res 20 S y))) S else .bad
def oNe : Op2 := fun x y S => if plain 20 (res 20 S x) = true ∧ plain 20 (res 20 S y) = true then .ok (.bl (!eqv (res 20 S x) (res 20 S y))) S else .bad
def flat : PV → Bool
  | .non => true
  | .bl _ => true
  | .int _ => true
  | .str _ => true
  | _ => false
def inSeq (x : PV) (xs : List PV) : Bool := xs.any fun y => eqv y x
/-- x in a list or tuple of flat things -/
def oIn : Op2 := fun x y S => match seqOf S y with
  | some xs => if flat x = true ∧ xs.all flat = true then .ok (.bl (inSeq x xs)) S else .bad
  | none => .bad
def oNotIn : Op2 := fun x y S => match seqOf S y with
  | some xs => if flat x = true ∧ xs.all flat = true then .ok (.bl (!inSeq x xs)) S else .bad
  | none => .bad
def lookS : List Str → List PV → Str → Option PV
  | k :: ks, v :: vs, x => if k = x then some v else lookS ks vs x
  | _, _, _ => none
def dksOf (S : Store) : PV → Option (List Str × List PV)
  | .dc ks vs => some (ks, vs)
  | .loc l => match S[l]? with
    | some (.dks ks vs) => some (ks, vs)
    | _ => none
  | _ => none
/-- o[i] -/
def oIx : Op2 := fun o i S => match i with
  | .int j => match seqOf S o with
    | some xs => match atI xs j with
      | some x => .ok x S
      | none => .bad
    | none => .bad
  | .str k => match dksOf S o with
    | some (ks, vs) => match lookS ks vs k with
      | some x => .ok x S
      | none => .bad
    | none => .bad
  | _ => .bad

def oCut (o : PV) (lo hi : Option Int) (S : Store) : R PV := match o with
  | .tup xs => .ok (.tup (cut xs lo hi)) S
  | o => match lstOf S o with
    | some xs => .ok (.ls (cut xs lo hi)) S
    | none => .bad
def ePart (a : Option XE) : Env → Store → R (Option Int) := fun env S => match a with
  | none => .ok none S
  | some f => (f env S).bind fun x S => match x with
    | .int i => .ok (some i) S
    | _ => .bad
def eCut (o : XE) (lo hi : Option XE) : XE := fun env S => (o env S).bind fun x S => (ePart lo env S).bind fun i S => (ePart hi env S).bind fun j S => oCut x i j S
def eTup (a : XA) : XE := fun env S => (a env S).bind fun xs S => if xs.length ≤ lim then .ok (.tup xs) S else .bad
/-- a list that nobody changes, a list of the store -/
def eLs (a : XA) : XE := fun env S => (a env S).bind fun xs S => if xs.length ≤ lim then .ok (.ls xs) S else .bad
def eNew (a : XA) : XE := fun env S => (a env S).bind fun xs S => if xs.length ≤ lim then .ok (.loc S.length) (S ++ [.lst xs]) else .bad
/-! ### calls of what is built in -/
abbrev Bf := List PV → Store → R PV
def eBf (f : Bf) (a : XA) : XE := fun env S => (a env S).bind fun xs S => f xs S
def bLen : Bf := fun xs S => match xs with
  | [x] => match seqOf S x with
    | some ys => .ok (.int ys.length) S
    | none => .bad
  | _ => .bad
def bList : Bf := fun xs S => match xs with
  | [x] => match seqOf S x with
    | some ys => .ok (.ls ys) S
    | none => .bad
  | _ => .bad
def bListN : Bf := fun xs S => match xs with
  | [x] => match seqOf S x with
    | some ys => .ok (.loc S.length) (S ++ [.lst ys])
    | none => .bad
  | _ => .bad
def bTuple : Bf := fun xs S => match xs with
  | [x] => match seqOf S x with
    | some ys => .ok (.tup ys) S
    | none => .bad
  | _ => .bad
def bStr : Bf := fun xs S => match xs with
  | [.int i] => if i.natAbs.log2 < 1920 then .ok (.str (toString i : String)) S else .bad
  | _ => .bad
def bInt : Bf := fun xs S => match xs with
  | [.int i] => .ok (.int i) S
  | [.bl k] => .ok (.int (if k = true then 1 else 0)) S
  | _ => .bad
def bMax : Bf := fun xs S => match xs with
  | [.int i, .int j] => .ok (.int (if j > i then j else i)) S
  | _ => .bad
def bMin : Bf := fun xs S => match xs with
  | [.int i, .int j] => .ok (.int (if j < i then j else i)) S
  | _ => .bad
def bools : List PV → Option (List Bool)
  | [] => some []
  | .bl k :: r => (bools r).map (k :: ·)
  | _ => none
def bAll : Bf := fun xs S => match xs with
  | [x] => match (lstOf S x).bind bools with
    | some ks => .ok (.bl (ks.all id)) S
    | none => .bad
  | _ => .bad
def bAny : Bf := fun xs S => match xs with
  | [x] => match (lstOf S x).bind bools with
    | some ks => .ok (.bl (ks.any id)) S
    | none => .bad
  | _ => .bad
/-- isinstance: the kinds -/
inductive Ty where
  | int | bool | str | tuple | list
def isTy (S : Store) (x : PV) : Ty → Option Bool := fun t => match x with
  | .non => some false
  | .bl _ => some (match t with | .int => true | .bool => true | _ => false)
  | .int _ => some (match t with | .int => true | _ => false)
  | .str _ => some (match t with | .str => true | _ => false)
  | .tup _ => some (match t with | .tuple => true | _ => false)
  | .ls _ => some (match t with | .list => true | _ => false)
  | .fz _ => some (match t with | .list => true | _ => false)
  | .loc l => match S[l]? with
    | some (.lst _) => some (match t with | .list => true | _ => false)
    | _ => none
  | _ => none
def eIsa (t : Ty) (a : XE) : XE := fun env S => (a env S).bind fun x S => match isTy S x t with
  | some k => .ok (.bl k) S
  | none => .bad
def eIsa2 (t u : Ty) (a : XE) : XE := fun env S => (a env S).bind fun x S => match isTy S x t, isTy S x u with
  | some k, some j => .ok (.bl (k || j)) S
  | _, _ => .bad
def eGet2 (o k d : XE) : XE := fun env S => (o env S).bind fun ov S => match dksOf S ov with
  | none => .bad
  | some _ => (k env S).bind fun kv S => (d env S).bind fun dv S => match kv, dksOf S ov with
    | .str k, some (ks, vs) => .ok ((lookS ks vs k).getD dv) S
    | _, _ => .bad
/-- .. of a dict of the module's top -/
def eGetS (ks : List Str) (vs : List PV) (k : XE) : XE := fun env S => (k env S).bind fun kv S => match kv with
  | .str k => .ok ((lookS ks vs k).getD .non) S
  | _ => .bad
/-- a dict written out, texts the keys -/
def eDc (ks : List Str) (a : XA) : XE := fun env S => (a env S).bind fun vs S => if ks.length = vs.length ∧ ks.length ≤ 15 ∧ ks.Nodup then .ok (.dc ks vs) S else .bad
def eDks (ks : List Str) (a : XA) : XE := fun env S => (a env S).bind fun vs S => if ks.length = vs.length ∧ ks.length ≤ 15 ∧ ks.Nodup then .ok (.loc S.length) (S ++ [.dks ks vs]) else .bad
def lsOf : PV → Option (List PV)
  | .ls xs => some xs
  | _ => none
/-! ### what is walked -/
inductive It where
  | seq (v : PV) | rng (lo : Int) (n : Nat) | enum (v : PV) | zip (v u : PV) | rev (v : PV) | keys (v : PV)
def pairs (xs ys : List PV) : List PV := (xs.zip ys).map fun p => .tup [p.1, p.2]
def upto (lo : Int) (n : Nat) : List PV := (List.range n).map fun (i : Nat) => PV.int (lo + (i : Int))
/-- the keys of a dict that is walked -/
def keyOf (S : Store) : PV → Option (List PV)
  | .loc l => match S[l]? with
    | some (.fki ks _) => some (ks.map .int)
    | some (.fkn ks _) => some ks
    | _ => none
  | _ => none
def It.items (S : Store) : It → Option (List PV)
  | .seq v => seqOf S v
  | .rng lo n => some (upto lo n)
  | .enum v => (seqOf S v).map fun xs => pairs (upto 0 xs.length) xs
  | .zip v u => match seqOf S v, seqOf S u with
    | some xs, some ys => some (pairs xs ys)
    | _, _ => none
  | .rev v => (lsOf v).map List.reverse
  | .keys v => keyOf S v
abbrev XI := Env → Store → R It
def iSeq (a : XE) : XI := fun env S => (a env S).bind fun x S => .ok (.seq x) S
def iEnum (a : XE) : XI := fun env S => (a env S).bind fun x S => .ok (.enum x) S
def iRev (a : XE) : XI := fun env S => (a env S).bind fun x S => .ok (.rev x) S
def iZip (a b : XE) : XI := fun env S => (a env S).bind fun x S => (b env S).bind fun y S => .ok (.zip x y) S
def iRng (a : XE) : XI := fun env S => (a env S).bind fun x S => match x with
  | .int j => if -(lim : Int) ≤ j ∧ j ≤ lim then .ok (.rng 0 j.toNat) S else .bad
  | _ => .bad
/-! ### targets -/
abbrev XG := PV → Env → Store → R Env
def gNm (i : Nat) : XG := fun x env S => .ok (env.set i (some x)) S
def gTp (gs : List XG) : XG := fun x env S => match seqOf S x with
  | some xs => if xs.length = gs.length then go gs xs env S else .bad
  | none => .bad
where go : List XG → List PV → Env → Store → R Env
  | [], _, env, S => .ok env S
  | g :: gs, x :: xs, env, S => (g x env S).bind fun env S => go gs xs env S
  | _ :: _, [], _, _ => .bad
/-! ### comprehensions -/
def wipeE (env : Env) : List Nat → Env
  | [] => env
  | v :: vs => (wipeE env vs).set v none
def lcGo (it : It) (all : List PV) (g : XG) (t : XB) (e : XE) (env : Env) : List PV → List PV → Store → R (List PV)
  | [], acc, S => if it.items S = some all then .ok acc S else .bad
  | x :: r, acc, S => if it.items S = some all then
      (g x env S).nox.bind fun env' S => (t env' S).nox.bind fun k S =>
        if k = true then (e env' S).nox.bind fun y S => if acc.length < lim then lcGo it all g t e env r (acc ++ [y]) S else .bad
        else lcGo it all g t e env r acc S
    else .bad
def xLc (i : XI) (g : XG) (t : XB) (e : XE) (own : List Nat) : XA := fun env S => (i env S).bind fun it S => match it.items S with
  | some all => lcGo it all g t e (wipeE env own) all [] S
  | none => .bad
def bYes : XB := fun _ S => .ok true S
def eLc (i : XI) (g : XG) (t : XB) (e : XE) (own : List Nat) : XE := fun env S => (xLc i g t e own env S).bind fun xs S => .ok (.ls xs) S
def eLcN (i : XI) (g : XG) (t : XB) (e : XE) (own : List Nat) : XE := fun env S => (xLc i g t e own env S).bind fun xs S => .ok (.loc S.length) (S ++ [.lst xs])
/-! ### statements -/
def sNil : XS := fun env S => .ok (.nx, env) S
def sSeq (a b : XS) : XS := fun env S => (a env S).bind fun p S => match p.1 with
  | .nx => b p.2 S
  | f => .ok (f, p.2) S
def sAsg (e : XE) (g : XG) : XS := fun env S => (e env S).bind fun x S => (g x env S).bind fun env S => .ok (.nx, env) S
/-- a, b = x, y -/
def sPar (i j : Nat) (a : XA) : XS := fun env S => (a env S).bind fun xs S => match xs with
  | [x, y] => .ok (.nx, (env.set i (some x)).set j (some y)) S
  | _ => .bad
def sDrop (e : XE) : XS := fun env S => (e env S).bind fun _ S => .ok (.nx, env) S
def sRet (e : XE) : XS := fun env S => (e env S).bind fun x S => .ok (.rt x, env) S
def sRetN : XS := fun env S => .ok (.rt .non, env) S
def sIf (c : XB) (a b : XS) : XS := fun env S => (c env S).bind fun k S => if k = true then a env S else b env S
def forGo (it : It) (all : List PV) (g : XG) (b : XS) : List PV → XS
  | [], env, S => if it.items S = some all then .ok (.nx, env) S else .bad
  | x :: r, env, S => if it.items S = some all then
      (g x env S).bind fun env S => (b env S).bind fun p S => match p.1 with
        | .nx => forGo it all g b r p.2 S
        | .ct => forGo it all g b r p.2 S
        | .bk => .ok (.nx, p.2) S
        | .rt v => .ok (.rt v, p.2) S
    else .bad
def sFor (i : XI) (g : XG) (b : XS) : XS := fun env S => (i env S).bind fun it S => match it.items S with
  | some all => forGo it all g b all env S
  | none => .bad
/-! stores to what stands in the store -/
def ixOf (n : Nat) (i : Int) : Option Nat := if 0 ≤ i then (if i < n then some i.toNat else none) else if 0 ≤ i + n then some (i + n).toNat else none
def putS : List Str → List PV → Str → PV → List Str × List PV
  | k :: ks, v :: vs, x, y => if k = x then (k :: ks, y :: vs) else ((k :: (putS ks vs x y).1, v :: (putS ks vs x y).2))
  | _, _, x, y => ([x], [y])
def oSet (o i v : PV) (S : Store) : R Unit := match o, i with
  | .loc l, .int j => match S[l]? with
    | some (.lst xs) => match ixOf xs.length j with
      | some k => .ok () (S.set l (.lst (xs.set k v)))
      | none => .bad
    | _ => .bad
  | .loc l, .str k => match S[l]? with
    | some (.dks ks vs) => if ks.length < lim then .ok () (S.set l (.dks (putS ks vs k v).1 (putS ks vs k v).2)) else .bad
    | _ => .bad
  | _, _ => .bad
def gSb (o i : XE) : XG := fun x env S => (o env S).bind fun ov S => (i env S).bind fun iv S => (oSet ov iv x S).bind fun _ S => .ok env S
/-! methods of lists of the store -/
def mAppend (l : Nat) (y : PV) (S : Store) : R PV := match S[l]? with
  | some (.lst xs) => if xs.length < lim then .ok .non (S.set l (.lst (xs ++ [y]))) else .bad
  | _ => .bad
def mExtend (l : Nat) (y : PV) (S : Store) : R PV := match S[l]?, lstOf S y with
  | some (.lst xs), some ys => if xs.length + ys.length ≤ lim then .ok .non (S.set l (.lst (xs ++ ys))) else .bad
  | _, _ => .bad
def mPop (l : Nat) (S : Store) : R PV := match S[l]? with
  | some (.lst xs) => match xs.getLast? with
    | some y => .ok y (S.set l (.lst xs.dropLast))
    | none => .bad
  | _ => .bad
def eMeth1 (f : Nat → PV → Store → R PV) (o a : XE) : XE := fun env S => (o env S).bind fun x S => match x with
  | .loc l => match S[l]? with
    | some (.lst _) => (a env S).bind fun y S => f l y S
    | _ => .bad
  | _ => .bad
def eMeth0 (f : Nat → Store → R PV) (o : XE) : XE := fun env S => (o env S).bind fun x S => match x with
  | .loc l => match S[l]? with
    | some (.lst _) => f l S
    | _ => .bad
  | _ => .bad
/-! ### defs -/
abbrev XF := List PV → Store → R PV
mutual
def low (n : Nat) : PV → Bool
  | .tup xs => lows n xs
  | .ls xs => lows n xs
  | .fz xs => lows n xs
  | .dc _ xs => lows n xs
  | .loc l => decide (l < n)
  | _ => true
def lows (n : Nat) : List PV → Bool
  | [] => true
  | x :: r => low n x && lows n r
end
def Cell.low (n : Nat) : Cell → Bool
  | .lst xs => lows n xs
  | .dks _ xs => lows n xs
  | .dkn _ xs => lows n xs
  | .dki _ xs => lows n xs
  | .fki _ xs => lows n xs
  | .fkn _ xs => lows n xs
  | .ins _ fs => lows n (fs.map Prod.snd)
/-- a list that was made here goes out as one that nobody changes -/
def out1 (n : Nat) (S : Store) (v : PV) : Option PV := match v with
  | .loc l => if l < n then some v else match S[l]? with
    | some (.lst xs) => if lows n xs = true then some (.ls xs) else none
    | _ => none
  | v => if low n v = true then some v else none
def leave (n : Nat) (v : PV) (S : Store) : R PV :=
  if S.length = n then .ok v S
  else if (S.take n).all (Cell.low n) = true then match out1 n S v with
    | some w => .ok w (S.take n)
    | none => .bad
  else .bad
/-- a def whose own lists end with it -/
def fnP (np many : Nat) (b : XS) : XF := fun args S => if args.length = np then (b (args.map some ++ List.replicate (many - args.length) none) S).bind fun p S' => match p.1 with
    | .rt v => leave S.length v S'
    | .nx => leave S.length .non S'
    | _ => .bad
  else .bad
/-- a def whose lists stay -/
def fnK (np many : Nat) (b : XS) : XF := fun args S => if args.length = np then (b (args.map some ++ List.replicate (many - args.length) none) S).bind fun p S' => match p.1 with
    | .rt v => .ok v S'
    | .nx => .ok .non S'
    | _ => .bad
  else .bad
def eCall (f : XF) (a : XA) : XE := fun env S => (a env S).bind fun xs S => f xs S
end

/-! Mini1 -/
/-! Mini1: how the plain data lies in the abstract heap. -/
section
open PySem L2

/-- where the store's cells lie, and what is hidden from everybody for a time -/
structure Rho where
  lb : List Addr
  hid : List Addr
/-- what is neither a table of code nor a thing told by its heap alone -/
def Plain (o : HO) : Prop := (∀ ps, o ≠ .tbl ps) ∧ ∀ f, o = .ext f → ∀ c q, HO.ext f ≠ LamX.CodeO c q
/-- a dict whose keys are tuples of any depth: its own object (the keys' tuples stand elsewhere) -/
def DnO (w : World) (a : Addr) (kvs : List (NestedKey × Addr × V)) : HO := .ext fun h => ∃ xs : List (NestedKey × Addr × Value), Paired (fun p q => p.1 = q.1 ∧ p.2.1 = q.2.1 ∧ RelV p.2.2 q.2.2) kvs xs ∧ (a == sysModules) = false ∧
  ∃ o es ep, h.get? a = some o ∧ o.ExactDict ∧ o.data = .dict es ep ∧ es.toList = xs.map (fun x => (⟨x.1.hash w, .ref x.2.1, x.2.2⟩ : DictEntry)) ∧ (xs.map (·.1)).Nodup
theorem DnO.plain {w : World} {a : Addr} {kvs : List (NestedKey × Addr × V)} : Plain (DnO w a kvs) := by
  refine ⟨fun _ z => (by unfold DnO at z; cases z), fun f hf c q z => ?_⟩
  rw [← hf] at z
  unfold DnO LamX.CodeO at z
  have z := HO.ext.inj z
  have z := congrFun z ⟨Array.replicate (c + 1) { cls := .none, data := .fields #[.none, .str q 0] }, {}⟩
  have hg : ∀ b o, Heap.get? ⟨Array.replicate (c + 1) { cls := .none, data := .fields #[.none, .str q 0] }, {}⟩ b = some o → o = { cls := .none, data := .fields #[.none, .str q 0] } := fun b o e => by
    unfold Heap.get? at e
    simp only [Array.getElem?_replicate] at e
    split at e
    · cases e
    · split at e
      · exact (Option.some.inj e).symm
      · cases e
  have hc : Heap.get? ⟨Array.replicate (c + 1) { cls := .none, data := .fields #[.none, .str q 0] }, {}⟩ c = some { cls := .none, data := .fields #[.none, .str q 0] } := by
    unfold Heap.get?
    simp only [Array.getElem?_replicate]
    rw [if_pos (Nat.lt_succ_self c)]
  obtain ⟨_, _, _, o, es, ep, h1, _, h2, _⟩ := z.mpr ⟨_, _, 0, hc, rfl, rfl⟩
  rw [hg _ _ h1] at h2
  cases h2
theorem Plain.lst {vs : List V} : Plain (.lst vs) := ⟨fun _ z => (by cases z), fun _ z => by cases z⟩
theorem Plain.tup {vs : List V} : Plain (.tup vs) := ⟨fun _ z => (by cases z), fun _ z => by cases z⟩
theorem Plain.dK {vs : List (Key × V)} : Plain (.dK vs) := ⟨fun _ z => (by cases z), fun _ z => by cases z⟩
theorem Plain.own {a : Addr} : Plain (.own a) := ⟨fun _ z => (by cases z), fun _ z => by cases z⟩
theorem Plain.ins {C dx : Addr} {gs : List (Str × V)} : Plain (.ins C dx gs) := ⟨fun _ z => (by cases z), fun _ z => by cases z⟩
theorem Plain.xd {gs : List (Str × V)} : Plain (.xd gs) := ⟨fun _ z => (by cases z), fun _ z => by cases z⟩
theorem Plain.frz {o : Obj} {u : HO} : Plain (.frz o u) := ⟨fun _ z => (by cases z), fun _ z => by cases z⟩
/-- the tables stay where something plain is written -/
theorem tabs_upd {T : List (Addr × Str)} {H : Hp} {a : Addr} {o u : HO} (t : LamX.Tabs T H) (h : H a = some o) (n : Plain o) : LamX.Tabs T (upd H a u) := fun p hp => by
  obtain ⟨ps, h1, h2, h3⟩ := t p hp
  have ne : ∀ b v, H b = some v → (∀ o', v = o' → ¬ Plain o') → b ≠ a := fun b v e k z => by
    rw [z, h] at e
    cases e
    exact k _ rfl n
  refine ⟨ps, by rw [upd_ne (ne _ _ h1 fun o' e q => by subst e; exact q.1 ps rfl)]; exact h1, h2, fun pos cv hc => ?_⟩
  obtain ⟨c, e1, e2⟩ := h3 pos cv hc
  exact ⟨c, e1, by rw [upd_ne (ne _ _ e2 fun o' e q => by subst e; exact q.2 _ rfl c p.2 rfl)]; exact e2⟩
theorem tabs_new {T : List (Addr × Str)} {H : Hp} {a : Addr} {u : HO} (t : LamX.Tabs T H) (h : H a = none) : LamX.Tabs T (upd H a u) := t.ext fun b o e => by rw [upd_ne (ne_of_none e h)]; exact e
/-- apart from both -/
def Rho.Out (ρ : Rho) (a : Addr) : Prop := a ∉ ρ.lb ∧ a ∉ ρ.hid
/-- a tuple of the module's own top -/
def SqK (K : PySem.W.Frag) (a : Addr) (xs : List V) : Prop := ∃ (o : Obj) (its : Array Value) (n : Nat), K.lookup a = some o ∧ o.cls = .type "tuple" ∧ o.data = .seq its n ∧ its.size ≤ sizeLine ∧ Vals xs its.toList
/-- a tuple that may be read, not one of the store -/
def TupAt (K : PySem.W.Frag) (ρ : Rho) (H : Hp) (a : Addr) (vs : List V) : Prop := (Rd H a (.tup vs) ∧ ρ.Out a) ∨ SqK K a vs
theorem TupAt.sq {K : PySem.W.Frag} {ρ : Rho} {H : Hp} {a : Addr} {vs : List V} (h : TupAt K ρ H a vs) : SqT K H a vs := by
  rcases h with h | h
  · exact .inl h.1
  · exact .inr h
/-- a list of the module's own top; a list that is only read -/
def SqLK (K : PySem.W.Frag) (a : Addr) (xs : List V) : Prop := ∃ (o : Obj) (its : Array Value) (n : Nat), K.lookup a = some o ∧ o.cls = .type "list" ∧ o.dict = none ∧ o.data = .seq its n ∧ its.size ≤ sizeLine ∧ Vals xs its.toList
def LstAt (K : PySem.W.Frag) (ρ : Rho) (H : Hp) (a : Addr) (vs : List V) : Prop := (Rd H a (.lst vs) ∧ ρ.Out a) ∨ SqLK K a vs
theorem LstAt.sq {K : PySem.W.Frag} {ρ : Rho} {H : Hp} {a : Addr} {vs : List V} (h : LstAt K ρ H a vs) : SqL K H a vs := by
  rcases h with h | h
  · exact .inl h.1
  · exact .inr h
def keysV (ks : List Str) (vs : List V) : List (Key × V) := (ks.zip vs).map fun p => (.inr p.1, p.2)
def keysI (ks : List Int) (vs : List V) : List (Key × V) := (ks.zip vs).map fun p => (.inl p.1, p.2)
mutual
def Rep (K : PySem.W.Frag) (ρ : Rho) (H : Hp) : PV → V → Prop
  | .non, v => v = .non
  | .bl b, v => v = .bl b
  | .int i, v => v = .int i
  | .str s, v => v = .str s
  | .tup xs, v => ∃ a vs, v = .ref a ∧ TupAt K ρ H a vs ∧ Reps K ρ H xs vs
  | .ls xs, v => ∃ a vs, v = .ref a ∧ (H a = some (.lst vs) ∧ ρ.Out a) ∧ Reps K ρ H xs vs
  | .fz xs, v => ∃ a vs, v = .ref a ∧ LstAt K ρ H a vs ∧ Reps K ρ H xs vs
  | .dc ks xs, v => ∃ a vs, v = .ref a ∧ (Rd H a (.dK (keysV ks vs)) ∧ ρ.Out a) ∧ ks.length = xs.length ∧ ks.Nodup ∧ Reps K ρ H xs vs
  | .loc l, v => ∃ a, ρ.lb[l]? = some a ∧ v = .ref a
def Reps (K : PySem.W.Frag) (ρ : Rho) (H : Hp) : List PV → List V → Prop
  | [], vs => vs = []
  | x :: r, vs => ∃ v s, vs = v :: s ∧ Rep K ρ H x v ∧ Reps K ρ H r s
end
/-- free, or a table of code -/
def FrA (H : Hp) (a : Addr) : Prop := ∀ o, H a = some o → ∃ ps, o = .tbl ps
theorem FrA.of {H : Hp} {a : Addr} (h : H a = none) : FrA H a := fun o e => by rw [h] at e; cases e
theorem FrA.no {H : Hp} {a : Addr} {o : HO} (f : FrA H a) (h : H a = some o) (nt : ∀ ps, o ≠ .tbl ps) : False := let ⟨ps, e⟩ := f o h; nt ps e
/-- the heap behind: what stands apart from the store stays; the store may have grown -/
structure Ext (ρ : Rho) (H : Hp) (ρ' : Rho) (H' : Hp) : Prop where
  more : ∃ m, ρ'.lb = ρ.lb ++ m ∧ ∀ a ∈ m, FrA H a
  hid : ρ'.hid = ρ.hid
  keep : ∀ a o, H a = some o → (∀ ps, o ≠ .tbl ps) → a ∉ ρ.lb → H' a = some o
  dom : ∀ a, FrA H' a → FrA H a
  fz : ∀ a od u, H a = some (.frz od u) → H' a = some (.frz od u)
theorem Ext.refl (ρ : Rho) (H : Hp) : Ext ρ H ρ H := ⟨⟨[], by simp⟩, rfl, fun _ _ h _ _ => h, fun _ h => h, fun _ _ _ h => h⟩
theorem Ext.trans {ρ ρ1 ρ2 : Rho} {H H1 H2 : Hp} (a : Ext ρ H ρ1 H1) (b : Ext ρ1 H1 ρ2 H2) : Ext ρ H ρ2 H2 := by
  obtain ⟨m, em, hm⟩ := a.more
  obtain ⟨n, en, hn⟩ := b.more
  refine ⟨⟨m ++ n, by rw [en, em, List.append_assoc], fun x hx => ?_⟩, b.hid.trans a.hid, fun x o h nt hx => ?_, fun x h => a.dom x (b.dom x h), fun x od u h => b.fz x od u (a.fz x od u h)⟩
  · rcases List.mem_append.mp hx with h | h
    · exact hm x h
    · exact a.dom x (hn x h)
  · refine b.keep x o (a.keep x o h nt hx) nt fun z => ?_
    rw [em] at z
    rcases List.mem_append.mp z with z | z
    · exact hx z
    · exact (hm x z).no h nt
theorem Ext.out {ρ ρ' : Rho} {H H' : Hp} (e : Ext ρ H ρ' H') {a : Addr} {o : HO} (h : H a = some o) (nt : ∀ ps, o ≠ .tbl ps) (n : ρ.Out a) : ρ'.Out a := by
  obtain ⟨m, em, hm⟩ := e.more
  refine ⟨fun z => ?_, by rw [e.hid]; exact n.2⟩
  rw [em] at z
  rcases List.mem_append.mp z with z | z
  · exact n.1 z
  · exact (hm a z).no h nt
theorem Ext.new {ρ : Rho} {H : Hp} {p : Addr} {o : HO} (h : H p = none) : Ext ρ H ρ (upd H p o) := by
  refine ⟨⟨[], by simp⟩, rfl, fun a u e _ _ => ?_, fun a e => ?_, fun a od u e => by rw [upd_ne (ne_of_none e h)]; exact e⟩
  · rw [upd_ne (ne_of_none e h)]; exact e
  · by_cases x : a = p
    · rw [x]; exact .of h
    · intro o q; exact e o (by rw [upd_ne x]; exact q)
theorem Rd.ext {ρ ρ' : Rho} {H H' : Hp} (e : Ext ρ H ρ' H') {a : Addr} {u : HO} (h : Rd H a u) (nt : Plain u) (n : a ∉ ρ.lb) : Rd H' a u := by
  rcases h with h | ⟨o, h⟩
  · exact .inl (e.keep a _ h nt.1 n)
  · exact .inr ⟨o, e.keep a _ h Plain.frz.1 n⟩
theorem Rd.someP {H : Hp} {a : Addr} {u : HO} (h : Rd H a u) (nt : Plain u) : ∃ o, H a = some o ∧ ∀ ps, o ≠ .tbl ps := by
  rcases h with h | ⟨o, h⟩
  · exact ⟨_, h, nt.1⟩
  · exact ⟨_, h, Plain.frz.1⟩
theorem Rd.some {H : Hp} {a : Addr} {u : HO} (h : Rd H a u) : ∃ o, H a = some o := by
  rcases h with h | ⟨o, h⟩
  · exact ⟨_, h⟩
  · exact ⟨_, h⟩
section
variable {w : World} {K : PySem.W.Frag} {ρ ρ' : Rho} {H H' : Hp}
mutual
theorem Rep.ext (e : Ext ρ H ρ' H') : ∀ (x : PV) (v : V), Rep K ρ H x v → Rep K ρ' H' x v
  | .non, _, h => by unfold Rep at h ⊢; exact h
  | .bl _, _, h => by unfold Rep at h ⊢; exact h
  | .int _, _, h => by unfold Rep at h ⊢; exact h
  | .str _, _, h => by unfold Rep at h ⊢; exact h
  | .tup xs, v, h => by
    unfold Rep at h ⊢
    obtain ⟨a, vs, rfl, h1, h3⟩ := h
    refine ⟨a, vs, rfl, ?_, Reps.ext e xs vs h3⟩
    rcases h1 with ⟨h1, h2⟩ | h1
    · obtain ⟨o, ho, hn0⟩ := Rd.someP h1 .tup
      exact .inl ⟨Rd.ext e h1 .tup h2.1, e.out ho hn0 h2⟩
    · exact .inr h1
  | .ls xs, v, h => by
    unfold Rep at h ⊢
    obtain ⟨a, vs, rfl, ⟨h1, h2⟩, h3⟩ := h
    exact ⟨a, vs, rfl, ⟨e.keep a _ h1 Plain.lst.1 h2.1, e.out h1 Plain.lst.1 h2⟩, Reps.ext e xs vs h3⟩
  | .fz xs, v, h => by
    unfold Rep at h ⊢
    obtain ⟨a, vs, rfl, h1, h3⟩ := h
    refine ⟨a, vs, rfl, ?_, Reps.ext e xs vs h3⟩
    rcases h1 with ⟨h1, h2⟩ | h1
    · obtain ⟨o, ho, hn0⟩ := Rd.someP h1 .lst
      exact .inl ⟨Rd.ext e h1 .lst h2.1, e.out ho hn0 h2⟩
    · exact .inr h1
  | .dc ks xs, v, h => by
    unfold Rep at h ⊢
    obtain ⟨a, vs, rfl, ⟨h1, h2⟩, hl, hn, h3⟩ := h
    obtain ⟨o, ho, hn0⟩ := Rd.someP h1 .dK
    exact ⟨a, vs, rfl, ⟨Rd.ext e h1 .dK h2.1, e.out ho hn0 h2⟩, hl, hn, Reps.ext e xs vs h3⟩
  | .loc l, v, h => by
    unfold Rep at h ⊢
    obtain ⟨a, h1, rfl⟩ := h
    obtain ⟨m, em, _⟩ := e.more
    exact ⟨a, by rw [em, List.getElem?_append_left (List.getElem?_eq_some_iff.mp h1).1]; exact h1, rfl⟩
theorem Reps.ext (e : Ext ρ H ρ' H') : ∀ (xs : List PV) (vs : List V), Reps K ρ H xs vs → Reps K ρ' H' xs vs
  | [], _, h => by unfold Reps at h ⊢; exact h
  | x :: r, vs, h => by
    unfold Reps at h ⊢
    obtain ⟨v, s, rfl, h1, h2⟩ := h
    exact ⟨v, s, rfl, Rep.ext e x v h1, Reps.ext e r s h2⟩
end
theorem Reps.length : ∀ {xs : List PV} {vs : List V}, Reps K ρ H xs vs → xs.length = vs.length
  | [], _, h => by unfold Reps at h; subst h; rfl
  | x :: r, _, h => by
    unfold Reps at h
    obtain ⟨v, s, rfl, _, h2⟩ := h
    rw [List.length_cons, List.length_cons, Reps.length h2]
theorem Reps.nil : Reps K ρ H [] [] := by unfold Reps; rfl
theorem Reps.cons {x : PV} {v : V} {r : List PV} {s : List V} (h : Rep K ρ H x v) (t : Reps K ρ H r s) : Reps K ρ H (x :: r) (v :: s) := by unfold Reps; exact ⟨v, s, rfl, h, t⟩
theorem Reps.uncons {x : PV} {r : List PV} {vs : List V} (h : Reps K ρ H (x :: r) vs) : ∃ v s, vs = v :: s ∧ Rep K ρ H x v ∧ Reps K ρ H r s := by unfold Reps at h; exact h
theorem Reps.append : ∀ {xs ys : List PV} {vs us : List V}, Reps K ρ H xs vs → Reps K ρ H ys us → Reps K ρ H (xs ++ ys) (vs ++ us)
  | [], _, _, _, h, k => by unfold Reps at h; rw [h]; exact k
  | x :: r, _, _, _, h, k => by
    obtain ⟨v, s, rfl, h1, h2⟩ := h.uncons
    exact .cons h1 (Reps.append h2 k)
theorem Reps.get : ∀ {xs : List PV} {vs : List V} {i : Nat} {x : PV}, Reps K ρ H xs vs → xs[i]? = some x → ∃ v, vs[i]? = some v ∧ Rep K ρ H x v
  | [], _, _, _, _, e => by simp at e
  | y :: r, _, 0, x, h, e => by
    obtain ⟨v, s, rfl, h1, h2⟩ := h.uncons
    simp at e
    subst e
    exact ⟨v, rfl, h1⟩
  | y :: r, _, i + 1, x, h, e => by
    obtain ⟨v, s, rfl, h1, h2⟩ := h.uncons
    obtain ⟨u, e1, e2⟩ := Reps.get (i := i) h2 (by simpa using e)
    exact ⟨u, by simpa using e1, e2⟩
theorem Reps.getV : ∀ {xs : List PV} {vs : List V} {i : Nat} {v : V}, Reps K ρ H xs vs → vs[i]? = some v → ∃ x, xs[i]? = some x ∧ Rep K ρ H x v := fun {xs vs i v} h e => by
  have hi : i < xs.length := by rw [h.length]; exact (List.getElem?_eq_some_iff.mp e).1
  obtain ⟨u, e1, e2⟩ := h.get (List.getElem?_eq_getElem hi)
  rw [e] at e1; cases e1
  exact ⟨_, List.getElem?_eq_getElem hi, e2⟩
theorem Reps.set {x : PV} {v : V} (h : Rep K ρ H x v) : ∀ {xs : List PV} {vs : List V} (i : Nat), Reps K ρ H xs vs → Reps K ρ H (xs.set i x) (vs.set i v)
  | [], _, _, k => by unfold Reps at k; rw [k]; exact .nil
  | y :: r, _, 0, k => by
    obtain ⟨u, s, rfl, h1, h2⟩ := k.uncons
    exact .cons h h2
  | y :: r, _, i + 1, k => by
    obtain ⟨u, s, rfl, h1, h2⟩ := k.uncons
    exact .cons h1 (Reps.set h i h2)
theorem Reps.take : ∀ {xs : List PV} {vs : List V} (n : Nat), Reps K ρ H xs vs → Reps K ρ H (xs.take n) (vs.take n)
  | _, _, 0, _ => by simp only [List.take_zero]; exact .nil
  | [], _, n + 1, k => by unfold Reps at k; rw [k]; exact .nil
  | y :: r, _, n + 1, k => by
    obtain ⟨u, s, rfl, h1, h2⟩ := k.uncons
    exact .cons h1 (Reps.take n h2)
theorem Reps.drop : ∀ {xs : List PV} {vs : List V} (n : Nat), Reps K ρ H xs vs → Reps K ρ H (xs.drop n) (vs.drop n)
  | _, _, 0, k => k
  | [], _, n + 1, k => by unfold Reps at k; rw [k]; exact .nil
  | y :: r, _, n + 1, k => by
    obtain ⟨u, s, rfl, h1, h2⟩ := k.uncons
    exact Reps.drop n h2
theorem Reps.reverse : ∀ {xs : List PV} {vs : List V}, Reps K ρ H xs vs → Reps K ρ H xs.reverse vs.reverse
  | [], _, h => by unfold Reps at h; rw [h]; exact .nil
  | x :: r, _, h => by
    obtain ⟨v, s, rfl, h1, h2⟩ := h.uncons
    rw [List.reverse_cons, List.reverse_cons]
    exact Reps.append (Reps.reverse h2) (.cons h1 .nil)
theorem Reps.rep {xs : List PV} {vs : List V} (h : Reps K ρ H xs vs) : ∀ n, Reps K ρ H (rep xs n) (List.replicate n vs).flatten
  | 0 => .nil
  | n + 1 => by
    show Reps K ρ H (List.replicate (n + 1) xs).flatten (List.replicate (n + 1) vs).flatten
    rw [List.replicate_succ, List.replicate_succ, List.flatten_cons, List.flatten_cons]
    exact h.append (Reps.rep h n)
end

/-! ### the store -/
def Flds (K : PySem.W.Frag) (ρ : Rho) (H : Hp) : List (Str × PV) → List (Str × V) → Prop
  | [], gs => gs = []
  | (f, x) :: r, gs => ∃ v s, gs = (f, v) :: s ∧ Rep K ρ H x v ∧ Flds K ρ H r s
/-- a key's form -/
def keyD : Nat → PV → Bool
  | _, .non => true
  | _, .int _ => true
  | _, .str _ => true
  | n + 1, .tup xs => xs.all (keyD n)
  | _, _ => false
mutual
def nk : PV → NestedKey
  | .int i => .num i
  | .str s => .text s
  | .tup xs => .tup (nks xs)
  | _ => .none
def nks : List PV → List NestedKey
  | [] => []
  | x :: r => nk x :: nks r
end
def DkAt (K : PySem.W.Frag) (ρ : Rho) (H : Hp) : List PV → List PV → List (NestedKey × Addr × V) → Prop
  | [], [], kvs => kvs = []
  | k :: ks, x :: xs, kvs => ∃ b v r, kvs = (nk k, b, v) :: r ∧ keyD 8 k = true ∧ Rep K ρ H k (.ref b) ∧ Rep K ρ H x v ∧ DkAt K ρ H ks xs r
  | _, _, _ => False
theorem DkAt.imp {K : PySem.W.Frag} {ρ ρ' : Rho} {H H' : Hp} : ∀ {ks xs : List PV} {kvs : List (NestedKey × Addr × V)}, (∀ k v, k ∈ ks → keyD 8 k = true → Rep K ρ H k v → Rep K ρ' H' k v) → (∀ x v, x ∈ xs → Rep K ρ H x v → Rep K ρ' H' x v) → DkAt K ρ H ks xs kvs → DkAt K ρ' H' ks xs kvs
  | [], [], _, _, _, h => h
  | k :: ks, x :: xs, _, m, m2, h => by
    obtain ⟨b, v, r, rfl, h1, h2, h3, h4⟩ := h
    exact ⟨b, v, r, rfl, h1, m _ _ List.mem_cons_self h1 h2, m2 _ _ List.mem_cons_self h3, DkAt.imp (fun k v hk => m k v (List.mem_cons_of_mem _ hk)) (fun x v hx => m2 x v (List.mem_cons_of_mem _ hx)) h4⟩
  | [], _ :: _, _, _, _, h => h.elim
  | _ :: _, [], _, _, _, h => h.elim
def CellAt (w : World) (K : PySem.W.Frag) (ρ : Rho) (H : Hp) : Cell → Addr → Prop
  | .lst xs, a => ∃ vs, H a = some (.lst vs) ∧ Reps K ρ H xs vs
  | .dks ks xs, a => ∃ vs, H a = some (.dK (keysV ks vs)) ∧ ks.length = xs.length ∧ ks.Nodup ∧ Reps K ρ H xs vs
  | .dki ks xs, a => ∃ vs, H a = some (.dK (keysI ks vs)) ∧ ks.length = xs.length ∧ ks.Nodup ∧ Reps K ρ H xs vs
  | .dkn ks xs, a => ∃ kvs, H a = some (DnO w a kvs) ∧ DkAt K ρ H ks xs kvs
  | .fki ks xs, a => ∃ od vs, H a = some (.frz od (.dK (keysI ks vs))) ∧ ks.length = xs.length ∧ ks.Nodup ∧ Reps K ρ H xs vs
  | .fkn ks xs, a => ∃ od kvs, H a = some (.frz od (DnO w a kvs)) ∧ DkAt K ρ H ks xs kvs
  | .ins C fs, a => ∃ dx gs, H a = some (.ins C dx gs) ∧ H dx = some (.own a) ∧ ρ.Out dx ∧ Flds K ρ H fs gs
structure Rel (w : World) (K : PySem.W.Frag) (ρ : Rho) (S : Store) (H : Hp) : Prop where
  len : ρ.lb.length = S.length
  nd : ρ.lb.Nodup
  at_ : ∀ (l : Nat) (c : Cell) (a : Addr), S[l]? = some c → ρ.lb[l]? = some a → CellAt w K ρ H c a
  hd : ∀ a ∈ ρ.hid, (∃ o, H a = some o ∧ Plain o) ∧ a ∉ ρ.lb
  tabs : LamX.Tabs (KT K) H
structure EnvR (K : PySem.W.Frag) (ρ : Rho) (H : Hp) (env : Env) (σ : St) : Prop where
  len : env.length = σ.length
  at_ : ∀ (i : Nat) (x : PV), env[i]? = some (some x) → ∃ v, σ[i]? = some (some v) ∧ Rep K ρ H x v
section
variable {w : World} {K : PySem.W.Frag} {ρ ρ' : Rho} {H H' : Hp} {env : Env} {σ : St}
theorem EnvR.ext (e : Ext ρ H ρ' H') (h : EnvR K ρ H env σ) : EnvR K ρ' H' env σ := ⟨h.len, fun i x hx => by
  obtain ⟨v, h1, h2⟩ := h.at_ i x hx
  exact ⟨v, h1, Rep.ext e x v h2⟩⟩
theorem EnvR.set {x : PV} {v : V} (h : EnvR K ρ H env σ) (i : Nat) (r : Rep K ρ H x v) : EnvR K ρ H (env.set i (some x)) (σ.set i (some v)) := ⟨by simp [h.len], fun j y hy => by
  by_cases e : i = j
  · subst e
    by_cases hi : i < env.length
    · rw [List.getElem?_set_self hi] at hy
      cases hy
      exact ⟨v, by rw [List.getElem?_set_self (by rw [← h.len]; exact hi)], r⟩
    · rw [List.getElem?_eq_none (by rw [List.length_set]; omega)] at hy; cases hy
  · rw [List.getElem?_set_ne e] at hy ⊢
    exact h.at_ j y hy⟩
theorem EnvR.wipe (h : EnvR K ρ H env σ) : ∀ own : List Nat, EnvR K ρ H (wipeE env own) (wipe σ own)
  | [] => h
  | i :: r => ⟨by simp [wipeE, L2.wipe, (EnvR.wipe h r).len], fun j y hy => by
    have q := EnvR.wipe h r
    show ∃ v, ((L2.wipe σ r).set i none)[j]? = some (some v) ∧ _
    have hy : ((wipeE env r).set i none)[j]? = some (some y) := hy
    by_cases e : i = j
    · subst e
      by_cases hi : i < (wipeE env r).length
      · rw [List.getElem?_set_self hi] at hy; cases hy
      · rw [List.getElem?_eq_none (by rw [List.length_set]; omega)] at hy; cases hy
    · rw [List.getElem?_set_ne e] at hy ⊢
      exact q.at_ j y hy⟩
end
end

/-! Mini2 -/
/-! Mini2: the small machine's pieces as readings. -/
section
open PySem L2

/-- what is known of a text's own top: the written part, the classes of errors by name -/
structure Gx where
  K : PySem.W.Frag
  xc : Str → Option Value
  w : World
def ExcR (G : Gx) (ρ : Rho) (H : Hp) (e : PExc) (cls : Value) (d : Option Addr) : Prop :=
  G.xc e.cls = some cls ∧ ((e.fs = [] ∧ d = none) ∨ ∃ a gs, d = some a ∧ e.fs ≠ [] ∧ H a = some (.xd gs) ∧ ρ.Out a ∧ Flds G.K ρ H e.fs gs)
/-- what comes of a result: k of what is told, of the store and of the heap; the wish E of an error -/
def Aft (G : Gx) (E : XK) {α : Type} (ρ : Rho) (H : Hp) (r : R α) (k : Rho → Store → Hp → α → Prop) : Prop :=
  match r with
  | .ok a S' => ∀ ρ' H', Ext ρ H ρ' H' → Rel G.w G.K ρ' S' H' → k ρ' S' H' a
  | .exc e S' => ∀ ρ' H' cls d, Ext ρ H ρ' H' → Rel G.w G.K ρ' S' H' → ExcR G ρ' H' e cls d → E cls d H'
  | .bad => False
section
variable {G : Gx} {E : XK} {α β : Type} {ρ ρ1 : Rho} {H H1 : Hp} {S : Store}
theorem Aft.shift {r : R α} {k : Rho → Store → Hp → α → Prop} (h : Aft G E ρ H r k) (e : Ext ρ H ρ1 H1) : Aft G E ρ1 H1 r k := by
  cases r with
  | ok a S' => exact fun ρ' H' e' q => h ρ' H' (e.trans e') q
  | exc x S' => exact fun ρ' H' c d e' q z => h ρ' H' c d (e.trans e') q z
  | bad => exact h
theorem Aft.mono {r : R α} {k k' : Rho → Store → Hp → α → Prop} (h : Aft G E ρ H r k) (m : ∀ ρ' S' H' a, Ext ρ H ρ' H' → Rel G.w G.K ρ' S' H' → k ρ' S' H' a → k' ρ' S' H' a) : Aft G E ρ H r k' := by
  cases r with
  | ok a S' => exact fun ρ' H' e' q => m ρ' S' H' a e' q (h ρ' H' e' q)
  | exc x S' => exact h
  | bad => exact h
/-- one piece behind another -/
theorem Aft.bind {r : R α} {f : α → Store → R β} {k : Rho → Store → Hp → β → Prop} (h : Aft G E ρ H (r.bind f) k) : Aft G E ρ H r (fun ρ1 S1 H1 a => Aft G E ρ1 H1 (f a S1) k) := by
  cases r with
  | ok a S' =>
    intro ρ' H' e q
    exact Aft.shift (r := f a S') h e
  | exc x S' => exact h
  | bad => exact h
/-- .. with what is known behind the first -/
theorem Aft.step {r : R α} {f : α → Store → R β} {k : Rho → Store → Hp → β → Prop} {k' : Rho → Store → Hp → α → Prop} (h : Aft G E ρ H (r.bind f) k)
    (m : ∀ ρ' S' H' a, Ext ρ H ρ' H' → Rel G.w G.K ρ' S' H' → Aft G E ρ' H' (f a S') k → k' ρ' S' H' a) : Aft G E ρ H r k' := (Aft.bind h).mono m
theorem Aft.ok {a : α} {k : Rho → Store → Hp → α → Prop} (h : Aft G E ρ H (.ok a S) k) (q : Rel G.w G.K ρ S H) : k ρ S H a := h ρ H (Ext.refl ρ H) q
end

/-! ### readings -/
def kV (G : Gx) (Q : VK) : Rho → Store → Hp → PV → Prop := fun ρ _ H x => ∀ v, Rep G.K ρ H x v → Q v H
def tI (G : Gx) (E : XK) (m : XE) : TE := fun σ H Q => ∃ ρ S env, Rel G.w G.K ρ S H ∧ EnvR G.K ρ H env σ ∧ Aft G E ρ H (m env S) (kV G Q)
def tIB (G : Gx) (E : XK) (m : XB) : TT := fun σ H Q => ∃ ρ S env, Rel G.w G.K ρ S H ∧ EnvR G.K ρ H env σ ∧ Aft G E ρ H (m env S) (fun _ _ H' b => Q b H')
def tIA (G : Gx) (E : XK) (m : XA) : TA := fun σ H Q => ∃ ρ S env, Rel G.w G.K ρ S H ∧ EnvR G.K ρ H env σ ∧ Aft G E ρ H (m env S) (fun ρ' _ H' xs => ∀ vs, Reps G.K ρ' H' xs vs → Q vs H')
def kS (G : Gx) (D : Ends) : Rho → Store → Hp → Fl × Env → Prop := fun ρ _ H p => match p.1 with
  | .nx => ∀ σ, EnvR G.K ρ H p.2 σ → D.nx σ H
  | .rt x => ∀ v, Rep G.K ρ H x v → D.rt v H
  | .bk => ∀ σ, EnvR G.K ρ H p.2 σ → D.bk σ H
  | .ct => ∀ σ, EnvR G.K ρ H p.2 σ → D.ct σ H
def tIS (G : Gx) (E : XK) (m : XS) : TS := fun D σ H => ∃ ρ S env, Rel G.w G.K ρ S H ∧ EnvR G.K ρ H env σ ∧ Aft G E ρ H (m env S) (kS G D)

/-- a weaker reading -/
theorem _root_.L2.PE.imp {X : Cx} {e : Expr} {t u : TE} (h : PE X e t) (m : ∀ σ H Q, u σ H Q → t σ H Q) : PE X e u := ⟨fun pins s σ H Q I q => h.run pins s σ H Q I (m σ H Q q)⟩
theorem _root_.L2.PT.imp {X : Cx} {e : Expr} {t u : TT} (h : PT X e t) (m : ∀ σ H Q, u σ H Q → t σ H Q) : PT X e u := ⟨fun pins s σ H Q I q => h.run pins s σ H Q I (m σ H Q q)⟩
theorem _root_.L2.PA.imp {X : Cx} {e : List Expr} {t u : TA} (h : PA X e t) (m : ∀ σ H Q, u σ H Q → t σ H Q) : PA X e u := ⟨fun p pins s σ H Q I q => h.run p pins s σ H Q I (m σ H Q q)⟩
theorem _root_.L2.PS.imp {X : Cx} {e : Stmt} {t u : TS} (h : PS X e t) (m : ∀ D σ H, u D σ H → t D σ H) : PS X e u := ⟨fun pins s σ H D I q => h.run pins s σ H D I (m D σ H q)⟩
theorem _root_.L2.PSs.imp {X : Cx} {e : List Stmt} {t u : TS} (h : PSs X e t) (m : ∀ D σ H, u D σ H → t D σ H) : PSs X e u := ⟨fun pins s σ H D I q => h.run pins s σ H D I (m D σ H q)⟩
theorem _root_.L2.PE.or {X : Cx} {e : Expr} {t u : TE} (h : PE X e t) (h' : PE X e u) : PE X e (fun σ H Q => t σ H Q ∨ u σ H Q) := ⟨fun pins s σ H Q I q => q.elim (h.run pins s σ H Q I) (h'.run pins s σ H Q I)⟩

section
variable {G : Gx} {E : XK} {X : Cx} {a b c e : Expr} {ma mb mc : XE} {pos : Pos}
theorem i_var {i : Nat} {x : Str} (hN : X.N[i]? = some x) (hv : Vis X.env.scope x) (hd : (x == ("__debug__" : Str)) = false := by decide) (hcd : (x == ("__classdict__" : Str)) = false := by decide) : PE X (.Name x pos) (tI G E (eVar i)) :=
  (pe_var hN hv hd hcd).imp fun σ H Q h => by
    obtain ⟨ρ, S, env, hR, hE, h⟩ := h
    unfold eVar at h
    split at h
    · rename_i x hx
      obtain ⟨v, h1, h2⟩ := hE.at_ _ _ hx
      exact ⟨v, h1, h.ok hR v h2⟩
    · exact h.elim
/-- what is the same in every heap -/
theorem i_c {v : V} {x : PV} (h : PE X e (tC v)) (r : ∀ ρ H, Rep G.K ρ H x v) : PE X e (tI G E (eC x)) := h.imp fun σ H Q h => by
  obtain ⟨ρ, S, env, hR, hE, h⟩ := h
  exact h.ok hR v (r ρ H)
theorem i_int {i : Int} {j} : PE X (.Constant (.int i) j pos) (tI G E (eC (.int i))) := i_c pe_int fun _ _ => by unfold Rep; rfl
theorem i_bl {k : Bool} {j} : PE X (.Constant (.bool k) j pos) (tI G E (eC (.bl k))) := i_c pe_bl fun _ _ => by unfold Rep; rfl
theorem i_non {j} : PE X (.Constant .none j pos) (tI G E (eC .non)) := i_c pe_non fun _ _ => by unfold Rep; rfl
theorem i_str {x : Str} {j} : PE X (.Constant (.str x) j pos) (tI G E (eC (.str x))) := i_c pe_str fun _ _ => by unfold Rep; rfl
/-- operations by values -/
def Sd2 (G : Gx) (E : XK) (r : R2) (op : Op2) : Prop := ∀ ρ S H x y v u Q, Rel G.w G.K ρ S H → Rep G.K ρ H x v → Rep G.K ρ H y u → Aft G E ρ H (op x y S) (kV G Q) → r v u H Q
def Sd1 (G : Gx) (E : XK) (r : V → Hp → VK → Prop) (op : Op1) : Prop := ∀ ρ S H x v Q, Rel G.w G.K ρ S H → Rep G.K ρ H x v → Aft G E ρ H (op x S) (kV G Q) → r v H Q
/-- two in a row -/
theorem two {σ : St} {H : Hp} {ρ : Rho} {S : Store} {env : Env} {β : Type} {f : PV → PV → Store → R β} {k : Rho → Store → Hp → β → Prop} {Q : V → V → Hp → Prop} (hR : Rel G.w G.K ρ S H) (hE : EnvR G.K ρ H env σ)
    (h : Aft G E ρ H ((ma env S).bind fun x S => (mb env S).bind fun y S => f x y S) k)
    (m : ∀ ρ' S' H' x y v u, Ext ρ H ρ' H' → Rel G.w G.K ρ' S' H' → Rep G.K ρ' H' x v → Rep G.K ρ' H' y u → Aft G E ρ' H' (f x y S') k → Q v u H') :
    tI G E ma σ H fun v H1 => tI G E mb σ H1 fun u H2 => Q v u H2 := by
  refine ⟨ρ, S, env, hR, hE, h.step fun ρ1 S1 H1 x e1 hR1 h1 v rv => ?_⟩
  refine ⟨ρ1, S1, env, hR1, hE.ext e1, h1.step fun ρ2 S2 H2 y e2 hR2 h2 u ru => ?_⟩
  exact m ρ2 S2 H2 x y v u (e1.trans e2) hR2 (Rep.ext e2 x v rv) ru h2
theorem i_op {op : Operator} {r : R2} {o : Op2} (ho : OpR X (binaryOp op) r) (so : Sd2 G E r o) (ha : PE X a (tI G E ma)) (hb : PE X b (tI G E mb)) : PE X (.BinOp a op b pos) (tI G E (eOp o ma mb)) :=
  (pe_op ho ha hb).imp fun σ H Q h => by
    obtain ⟨ρ, S, env, hR, hE, h⟩ := h
    exact two hR hE h fun ρ' S' H' x y v u e' hR' rv ru h' => so ρ' S' H' x y v u Q hR' rv ru h'
theorem i_un {op : UnaryOp} {r : V → Hp → VK → Prop} {o : Op1} (ho : UnR X (unaryOp op) r) (so : Sd1 G E r o) (ha : PE X a (tI G E ma)) : PE X (.UnaryOp op a pos) (tI G E (eUn o ma)) :=
  (pe_un ho ha).imp fun σ H Q h => by
    obtain ⟨ρ, S, env, hR, hE, h⟩ := h
    exact ⟨ρ, S, env, hR, hE, h.step fun ρ1 S1 H1 x e1 hR1 h1 v rv => so ρ1 S1 H1 x v Q hR1 rv h1⟩
theorem i_cmp {op : CmpOp} {r : R2} {o : Op2} (ho : OpR X (compareOp op) r) (so : Sd2 G E r o) (ha : PE X a (tI G E ma)) (hb : PE X b (tI G E mb)) (hm : behindInMarks op b = false) : PE X (.Compare a [op] [b] pos) (tI G E (eOp o ma mb)) :=
  (pe_cmpR ho ha hb hm).imp fun σ H Q h => by
    obtain ⟨ρ, S, env, hR, hE, h⟩ := h
    exact two hR hE h fun ρ' S' H' x y v u e' hR' rv ru h' => so ρ' S' H' x y v u Q hR' rv ru h'
/-- what is known of a value that has a plain form -/
theorem Rep.bl_of {K : PySem.W.Frag} {ρ : Rho} {H : Hp} {k : Bool} {v : V} (h : Rep K ρ H (.bl k) v) : v = .bl k := by unfold Rep at h; exact h
theorem Rep.int_of {K : PySem.W.Frag} {ρ : Rho} {H : Hp} {k : Int} {v : V} (h : Rep K ρ H (.int k) v) : v = .int k := by unfold Rep at h; exact h
theorem Rep.str_of {K : PySem.W.Frag} {ρ : Rho} {H : Hp} {k : Str} {v : V} (h : Rep K ρ H (.str k) v) : v = .str k := by unfold Rep at h; exact h
theorem Rep.non_of {K : PySem.W.Frag} {ρ : Rho} {H : Hp} {v : V} (h : Rep K ρ H .non v) : v = .non := by unfold Rep at h; exact h
theorem Rep.bl {K : PySem.W.Frag} {ρ : Rho} {H : Hp} {k : Bool} : Rep K ρ H (.bl k) (.bl k) := by unfold Rep; rfl
theorem Rep.int {K : PySem.W.Frag} {ρ : Rho} {H : Hp} {k : Int} : Rep K ρ H (.int k) (.int k) := by unfold Rep; rfl
theorem Rep.str {K : PySem.W.Frag} {ρ : Rho} {H : Hp} {k : Str} : Rep K ρ H (.str k) (.str k) := by unfold Rep; rfl
theorem Rep.non {K : PySem.W.Frag} {ρ : Rho} {H : Hp} : Rep K ρ H .non .non := by unfold Rep; rfl
theorem i_one {op} {m : XE} (h : PE X a (tI G E m)) : PE X (.BoolOp op [a] pos) (tI G E m) := pe_one h
variable {rest : List Expr}
theorem i_and (ha : PE X a (tI G E ma)) (hb : PE X (.BoolOp .And (b :: rest) pos) (tI G E mb)) : PE X (.BoolOp .And (a :: b :: rest) pos) (tI G E (eAnd ma mb)) :=
  (pe_and ha hb).imp fun σ H Q h => by
    obtain ⟨ρ, S, env, hR, hE, h⟩ := h
    refine ⟨ρ, S, env, hR, hE, h.step fun ρ1 S1 H1 x e1 hR1 h1 v rv => ?_⟩
    split at h1
    · rw [rv.bl_of]
      exact ⟨true, rfl, by rw [if_pos rfl]; exact ⟨ρ1, S1, env, hR1, hE.ext e1, h1⟩⟩
    · rw [rv.bl_of]
      exact ⟨false, rfl, by rw [if_neg Bool.false_ne_true]; exact h1.ok hR1 _ Rep.bl⟩
    · exact h1.elim
theorem i_or (ha : PE X a (tI G E ma)) (hb : PE X (.BoolOp .Or (b :: rest) pos) (tI G E mb)) : PE X (.BoolOp .Or (a :: b :: rest) pos) (tI G E (eOr ma mb)) :=
  (pe_or ha hb).imp fun σ H Q h => by
    obtain ⟨ρ, S, env, hR, hE, h⟩ := h
    refine ⟨ρ, S, env, hR, hE, h.step fun ρ1 S1 H1 x e1 hR1 h1 v rv => ?_⟩
    split at h1
    · rw [rv.bl_of]
      exact ⟨true, rfl, by rw [if_pos rfl]; exact h1.ok hR1 _ Rep.bl⟩
    · rw [rv.bl_of]
      exact ⟨false, rfl, by rw [if_neg Bool.false_ne_true]; exact ⟨ρ1, S1, env, hR1, hE.ext e1, h1⟩⟩
    · exact h1.elim
theorem i_not (ha : PE X a (tI G E ma)) : PE X (.UnaryOp .Not a pos) (tI G E (eNot ma)) :=
  (pe_not ha).imp fun σ H Q h => by
    obtain ⟨ρ, S, env, hR, hE, h⟩ := h
    refine ⟨ρ, S, env, hR, hE, h.step fun ρ1 S1 H1 x e1 hR1 h1 v rv => ?_⟩
    split at h1
    · rw [rv.bl_of]
      exact ⟨_, rfl, h1.ok hR1 _ Rep.bl⟩
    · exact h1.elim
/-! tests -/
theorem j_val {e : Expr} (h : PE X e (tI G E ma)) (he : ∀ whole, isTrue e X.env whole = (do let v ← whole; standAt e.pos; holding [v] (truthy v)) := by intro _; rfl) : PT X e (tIB G E (bVal ma)) :=
  (pt_val h he).imp fun σ H Q h => by
    obtain ⟨ρ, S, env, hR, hE, h⟩ := h
    refine ⟨ρ, S, env, hR, hE, h.step fun ρ1 S1 H1 x e1 hR1 h1 v rv => ?_⟩
    split at h1
    · rw [rv.bl_of]
      exact ⟨_, rfl, h1.ok hR1⟩
    · exact h1.elim
theorem j_cmp {op : CmpOp} {r : R2} {o : Op2} (ho : OpR X (compareOp op) r) (so : Sd2 G E r o) (ha : PE X a (tI G E ma)) (hb : PE X b (tI G E mb)) (hm : behindInMarks op b = false) : PT X (.Compare a [op] [b] pos) (tIB G E (bVal (eOp o ma mb))) :=
  (pt_cmpR ho ha hb hm).imp fun σ H Q h => by
    obtain ⟨ρ, S, env, hR, hE, h⟩ := h
    have h' : Aft G E ρ H ((ma env S).bind fun x S => (mb env S).bind fun y S => (o x y S).bind fun z S => match z with | .bl k => R.ok k S | _ => .bad) (fun _ _ H' b => Q b H') := by
      have e : ((eOp o ma mb env S).bind fun z S => match z with | .bl k => R.ok k S | _ => .bad) = ((ma env S).bind fun x S => (mb env S).bind fun y S => (o x y S).bind fun z S => match z with | .bl k => R.ok k S | _ => .bad) := by
        unfold eOp
        cases ma env S with
        | ok x S1 =>
          simp only [R.bind_ok]
          cases mb env S1 with
          | ok y S2 => rfl
          | exc _ _ => rfl
          | bad => rfl
        | exc _ _ => rfl
        | bad => rfl
      rw [← e]
      exact h
    refine two hR hE h' fun ρ' S' H' x y v u e' hR' rv ru h2 => so ρ' S' H' x y v u _ hR' rv ru ?_
    refine h2.step fun ρ3 S3 H3 z e3 hR3 h3 w rw' => ?_
    split at h3
    · rw [rw'.bl_of]
      exact ⟨_, rfl, h3.ok hR3⟩
    · exact h3.elim
theorem j_not {t : XB} (h : PT X a (tIB G E t)) : PT X (.UnaryOp .Not a pos) (tIB G E (bNot t)) :=
  (pt_not h).imp fun σ H Q h => by
    obtain ⟨ρ, S, env, hR, hE, h⟩ := h
    exact ⟨ρ, S, env, hR, hE, h.step fun ρ1 S1 H1 x e1 hR1 h1 => h1.ok hR1⟩
theorem _root_.L2.PW.imp {X : Cx} {e : Expr} {t u : TT} (h : PW X e t) (m : ∀ σ H Q, u σ H Q → t σ H Q) : PW X e u := ⟨fun w pins s σ H Q I q => h.run w pins s σ H Q I (m σ H Q q)⟩
theorem j_and1 {t : XB} (h : PT X a (tIB G E t)) : PW X (.BoolOp .And [a] pos) (tIB G E t) := pw_and1 h
theorem j_or1 {t : XB} (h : PT X a (tIB G E t)) : PW X (.BoolOp .Or [a] pos) (tIB G E t) := pw_or1 h
theorem j_and {t u : XB} (ha : PT X a (tIB G E t)) (hb : PW X (.BoolOp .And (b :: rest) pos) (tIB G E u)) : PW X (.BoolOp .And (a :: b :: rest) pos) (tIB G E (bAnd t u)) :=
  PW.imp (pw_and ha hb) fun σ H Q h => by
    obtain ⟨ρ, S, env, hR, hE, h⟩ := h
    refine ⟨ρ, S, env, hR, hE, h.step fun ρ1 S1 H1 k e1 hR1 h1 => ?_⟩
    cases k with
    | true => exact ⟨ρ1, S1, env, hR1, hE.ext e1, h1⟩
    | false => exact h1.ok hR1
theorem j_or {t u : XB} (ha : PT X a (tIB G E t)) (hb : PW X (.BoolOp .Or (b :: rest) pos) (tIB G E u)) : PW X (.BoolOp .Or (a :: b :: rest) pos) (tIB G E (bOr t u)) :=
  PW.imp (pw_or ha hb) fun σ H Q h => by
    obtain ⟨ρ, S, env, hR, hE, h⟩ := h
    refine ⟨ρ, S, env, hR, hE, h.step fun ρ1 S1 H1 k e1 hR1 h1 => ?_⟩
    cases k with
    | true => exact h1.ok hR1
    | false => exact ⟨ρ1, S1, env, hR1, hE.ext e1, h1⟩
theorem i_ifExp {t : XB} (hc : PT X c (tIB G E t)) (ha : PE X a (tI G E ma)) (hb : PE X b (tI G E mb)) : PE X (.IfExp c a b pos) (tI G E (eIf t ma mb)) :=
  (pe_ifExp hc ha hb).imp fun σ H Q h => by
    obtain ⟨ρ, S, env, hR, hE, h⟩ := h
    refine ⟨ρ, S, env, hR, hE, h.step fun ρ1 S1 H1 k e1 hR1 h1 => ?_⟩
    cases k with
    | true => exact ⟨ρ1, S1, env, hR1, hE.ext e1, h1⟩
    | false => exact ⟨ρ1, S1, env, hR1, hE.ext e1, h1⟩
/-! arguments -/
theorem i_nil : PA X [] (tIA G E aNil) := pa_nil.imp fun σ H Q h => by
  obtain ⟨ρ, S, env, hR, hE, h⟩ := h
  exact h.ok hR [] Reps.nil
theorem i_cons {es : List Expr} {m : XE} {r : XA} (h1 : PE X e (tI G E m)) (h2 : PA X es (tIA G E r)) (hs : starEach (e :: es) X.env = (false, eval e X.env) :: starEach es X.env := by rfl) : PA X (e :: es) (tIA G E (aCons m r)) :=
  (pa_cons h1 h2 hs).imp fun σ H Q h => by
    obtain ⟨ρ, S, env, hR, hE, h⟩ := h
    refine ⟨ρ, S, env, hR, hE, h.step fun ρ1 S1 H1 x e1 hR1 h1 v rv => ?_⟩
    refine ⟨ρ1, S1, env, hR1, hE.ext e1, h1.step fun ρ2 S2 H2 xs e2 hR2 h2 vs rvs => ?_⟩
    exact h2.ok hR2 _ (.cons (Rep.ext e2 x v rv) rvs)
end
end

/-! MiniT -/
/-! MiniT: a tuple * 1 is the tuple. -/
section
open PySem PySem.Spec PyProof.Rows L2
set_option maxHeartbeats 4100000 in
theorem tuple_once (l : Addr) (items : Array Value) (n : Nat) (dd : Option Addr) (sl : Array (Option Value)) (u : Tok) :
    Meets (Builtin.«tuple.__mul__» ⟨[.ref l, .int 1 u], []⟩) (fun _ R s => s.heap.get? l = some ⟨.type "tuple", dd, .seq items n, sl⟩ ∧ R (.ok (.ret (.ref l))) s) :=
  .of_wp fun prog w A R st pre => by
    cases st with
    | mk hp g d tk os =>
      have hl := pre.1
      have q := pre.2
      have f1 := AutoSeq1.idx_int
      wp_walk using (wpAny_loadPart' hl)
      exact ⟨_, rfl, q⟩
def rOnce (K : PySem.W.Frag) : R2 := fun x y H Q => ∃ l xs, x = .ref l ∧ y = .int 1 ∧ SqT K H l xs ∧ Q x H
set_option maxHeartbeats 4100000 in
theorem op_once {X : Cx} : OpR X (binaryOp .Mult) (rOnce X.K) := by
  rintro pins s σ H x y _ u Q I rx ry ⟨l, xs, rfl, rfl, hT, q⟩
  cases rx
  obtain ⟨t, rfl⟩ := ry
  obtain ⟨its, r, ⟨ob, ho, hc, n, hd⟩, hs⟩ := I.tuple hT
  obtain ⟨cls, dd, data, sl⟩ := ob
  simp only at hc hd
  subst hc hd
  have m1 := int_rmul_tuple 1 t l its.toArray n dd sl
  have m2 := tuple_once l its.toArray n dd sl t
  refine wpAny_binaryOp_repeat_ref (T := "tuple") (U := "int") (by decide) ⟨_, ho, rfl⟩ (fun s' => typeIs_int s' 1 t) noFill_tuple_mul F.fills_int_mul F.slot_int_rmul repeat_tuple F.slot_int_index.lookup ?_
  refine call_meets F.slot_int_rmul (typeIs_int s 1 t) F.entry_int_rmul (F.args_int_rmul_2 _ _) m1 ⟨ho, rfl, ⟨_, ho, rfl⟩, ?_⟩
  refine call_meets F.slot_tuple_mul ⟨_, ho, rfl⟩ F.entry_tuple_mul (F.args_tuple_mul_2 _ _) m2 ⟨ho, ?_⟩
  exact ⟨.ref l, H, I, rfl, q⟩
end

/-! Mini3 -/
/-! Mini3: operations. -/
section
open PySem L2
section
variable {w : World} {K : PySem.W.Frag} {ρ ρ' : Rho} {H H' : Hp} {S : Store}
theorem CellAt.thereP {c : Cell} {a : Addr} (h : CellAt w K ρ H c a) : ∃ o, H a = some o ∧ Plain o := by
  cases c with
  | lst xs => obtain ⟨vs, h, _⟩ := h; exact ⟨_, h, .lst⟩
  | dks ks xs => obtain ⟨vs, h, _⟩ := h; exact ⟨_, h, .dK⟩
  | dki ks xs => obtain ⟨vs, h, _⟩ := h; exact ⟨_, h, .dK⟩
  | fki ks xs => obtain ⟨_, _, h, _⟩ := h; exact ⟨_, h, .frz⟩
  | dkn ks xs => obtain ⟨kvs, h, _⟩ := h; exact ⟨_, h, DnO.plain⟩
  | fkn ks xs => obtain ⟨_, _, h, _⟩ := h; exact ⟨_, h, .frz⟩
  | ins C fs => obtain ⟨dx, gs, h, _⟩ := h; exact ⟨_, h, .ins⟩
theorem CellAt.there {c : Cell} {a : Addr} (h : CellAt w K ρ H c a) : ∃ o, H a = some o := let ⟨o, h, _⟩ := h.thereP; ⟨o, h⟩
theorem Flds.ext (e : Ext ρ H ρ' H') : ∀ {fs : List (Str × PV)} {gs : List (Str × V)}, Flds K ρ H fs gs → Flds K ρ' H' fs gs
  | [], _, h => h
  | (f, x) :: r, _, h => by
    obtain ⟨v, s, rfl, h1, h2⟩ := h
    exact ⟨v, s, rfl, Rep.ext e x v h1, Flds.ext e h2⟩
theorem CellAt.ext {c : Cell} {a : Addr} (e : Ext ρ H ρ' H') (k : H' a = H a) (h : CellAt w K ρ H c a) : CellAt w K ρ' H' c a := by
  cases c with
  | lst xs => obtain ⟨vs, h1, h2⟩ := h; exact ⟨vs, by rw [k]; exact h1, Reps.ext e _ _ h2⟩
  | dks ks xs => obtain ⟨vs, h1, h2, h3, h4⟩ := h; exact ⟨vs, by rw [k]; exact h1, h2, h3, Reps.ext e _ _ h4⟩
  | dki ks xs => obtain ⟨vs, h1, h2, h3, h4⟩ := h; exact ⟨vs, by rw [k]; exact h1, h2, h3, Reps.ext e _ _ h4⟩
  | fki ks xs => obtain ⟨od, vs, h1, h2, h3, h4⟩ := h; exact ⟨od, vs, by rw [k]; exact h1, h2, h3, Reps.ext e _ _ h4⟩
  | dkn ks xs => obtain ⟨kvs, h1, h2⟩ := h; exact ⟨kvs, by rw [k]; exact h1, h2.imp (fun x v _ _ => Rep.ext e x v) fun x v _ => Rep.ext e x v⟩
  | fkn ks xs => obtain ⟨od, kvs, h1, h2⟩ := h; exact ⟨od, kvs, by rw [k]; exact h1, h2.imp (fun x v _ _ => Rep.ext e x v) fun x v _ => Rep.ext e x v⟩
  | ins C fs => obtain ⟨dx, gs, h1, h2, h3, h4⟩ := h; exact ⟨dx, gs, by rw [k]; exact h1, e.keep _ _ h2 Plain.own.1 h3.1, e.out h2 Plain.own.1 h3, Flds.ext e h4⟩
theorem Rel.out1 (q : Rel w K ρ S H) {p : Addr} (h : H p = none) : p ∉ ρ.lb := fun z => by
  obtain ⟨l, hl, e⟩ := List.mem_iff_getElem.mp z
  have hS : l < S.length := by rw [← q.len]; exact hl
  obtain ⟨o, ho⟩ := (q.at_ l S[l] p (List.getElem?_eq_getElem hS) (by rw [List.getElem?_eq_getElem hl, e])).there
  rw [h] at ho; cases ho
theorem Rel.out (q : Rel w K ρ S H) {p : Addr} (h : H p = none) : ρ.Out p := ⟨q.out1 h, fun z => by
  obtain ⟨⟨o, ho, _⟩, _⟩ := q.hd p z
  rw [h] at ho; cases ho⟩
theorem Rel.cell (q : Rel w K ρ S H) {l : Nat} {a : Addr} (h : ρ.lb[l]? = some a) : ∃ c, S[l]? = some c ∧ CellAt w K ρ H c a := by
  have hl : l < S.length := by rw [← q.len]; exact (List.getElem?_eq_some_iff.mp h).1
  exact ⟨S[l], List.getElem?_eq_getElem hl, q.at_ l _ a (List.getElem?_eq_getElem hl) h⟩
/-- a new thing apart from the store -/
theorem Rel.new {p : Addr} {o : HO} (q : Rel w K ρ S H) (h : H p = none) : Rel w K ρ S (upd H p o) := ⟨q.len, q.nd, fun l c a h1 h2 => by
  have c1 := q.at_ l c a h1 h2
  obtain ⟨u, hu⟩ := c1.there
  exact c1.ext (Ext.new h) (upd_ne (ne_of_none hu h)), fun a ha => by
  obtain ⟨⟨u, hu, pl⟩, n⟩ := q.hd a ha
  exact ⟨⟨u, by rw [upd_ne (ne_of_none hu h)]; exact hu, pl⟩, n⟩, tabs_new q.tabs h⟩
/-- the store with one cell more -/
def Rho.add (ρ : Rho) (p : Addr) : Rho := ⟨ρ.lb ++ [p], ρ.hid⟩
theorem Ext.grow {p : Addr} {o : HO} (h : H p = none) : Ext ρ H (ρ.add p) (upd H p o) :=
  ⟨⟨[p], rfl, fun a ha => by rw [List.mem_singleton.mp ha]; exact .of h⟩, rfl, (Ext.new (ρ := ρ) h).keep, (Ext.new (ρ := ρ) h).dom, (Ext.new (ρ := ρ) h).fz⟩
/-- a new thing of the store -/
theorem Rel.grow {p : Addr} {o : HO} {c : Cell} (q : Rel w K ρ S H) (h : H p = none) (hc : CellAt w K (ρ.add p) (upd H p o) c p) : Rel w K (ρ.add p) (S ++ [c]) (upd H p o) := by
  refine ⟨by simp [Rho.add, q.len], ?_, fun l d a h1 h2 => ?_, fun a ha => ?_, tabs_new q.tabs h⟩
  · show (ρ.lb ++ [p]).Nodup
    rw [List.nodup_append]
    exact ⟨q.nd, by simp, fun a ha b hb e => q.out1 h (by rw [List.mem_singleton.mp hb] at e; exact e ▸ ha)⟩
  · have h2 : (ρ.lb ++ [p])[l]? = some a := h2
    by_cases hl : l < S.length
    · rw [List.getElem?_append_left hl] at h1
      rw [List.getElem?_append_left (by rw [q.len]; exact hl)] at h2
      have c1 := q.at_ l d a h1 h2
      obtain ⟨u, hu⟩ := c1.there
      exact c1.ext (Ext.grow h) (upd_ne (ne_of_none hu h))
    · have e : l = S.length := by
        have := (List.getElem?_eq_some_iff.mp h1).1
        rw [List.length_append] at this
        simp at this
        omega
      subst e
      rw [List.getElem?_append_right (Nat.le_refl _)] at h1
      rw [List.getElem?_append_right (by rw [q.len]; exact Nat.le_refl _)] at h2
      simp [q.len] at h1 h2
      subst h1 h2
      exact hc
  · obtain ⟨⟨u, hu, pl⟩, n⟩ := q.hd a ha
    refine ⟨⟨u, by rw [upd_ne (ne_of_none hu h)]; exact hu, pl⟩, fun z => ?_⟩
    rcases List.mem_append.mp (show a ∈ ρ.lb ++ [p] from z) with z | z
    · exact n z
    · rw [List.mem_singleton.mp z, h] at hu; cases hu
theorem Ext.write {a : Addr} {o u0 : HO} (h : a ∈ ρ.lb) (h0 : H a = some u0) (nf : ∀ od u, u0 ≠ .frz od u := by intro _ _ z; cases z) (po : ∀ ps, o ≠ .tbl ps := by intro _ z; cases z) : Ext ρ H ρ (upd H a o) := by
  refine ⟨⟨[], by simp⟩, rfl, fun b u e _ n => ?_, fun b e => ?_, fun b od u e => by rw [upd_ne (fun z => by rw [z, h0] at e; cases e; exact nf _ _ rfl)]; exact e⟩
  · rw [upd_ne (fun z => n (by rw [z]; exact h))]; exact e
  · by_cases x : b = a
    · rw [x] at e; exact (e.no upd_same po).elim
    · exact fun u z => e u (by rw [upd_ne x]; exact z)
theorem Out.nel {p a : Addr} (hp : p ∈ ρ.lb) (h : ρ.Out a) : a ≠ p := fun e => h.1 (by rw [e]; exact hp)
mutual
/-- what is of the store may change -/
theorem Rep.lw {p : Addr} {o : HO} (hp : p ∈ ρ.lb) : ∀ (x : PV) (v : V), Rep K ρ H x v → Rep K ρ (upd H p o) x v
  | .non, _, h => by unfold Rep at h ⊢; exact h
  | .bl _, _, h => by unfold Rep at h ⊢; exact h
  | .int _, _, h => by unfold Rep at h ⊢; exact h
  | .str _, _, h => by unfold Rep at h ⊢; exact h
  | .tup xs, v, h => by
    unfold Rep at h ⊢
    obtain ⟨a, vs, rfl, h1, h3⟩ := h
    refine ⟨a, vs, rfl, ?_, Reps.lw hp xs vs h3⟩
    rcases h1 with ⟨h1, h2⟩ | h1
    · refine .inl ⟨?_, h2⟩
      unfold Rd
      rw [upd_ne (Out.nel hp h2)]
      exact h1
    · exact .inr h1
  | .ls xs, v, h => by
    unfold Rep at h ⊢
    obtain ⟨a, vs, rfl, ⟨h1, h2⟩, h3⟩ := h
    exact ⟨a, vs, rfl, ⟨by rw [upd_ne (Out.nel hp h2)]; exact h1, h2⟩, Reps.lw hp xs vs h3⟩
  | .fz xs, v, h => by
    unfold Rep at h ⊢
    obtain ⟨a, vs, rfl, h1, h3⟩ := h
    refine ⟨a, vs, rfl, ?_, Reps.lw hp xs vs h3⟩
    rcases h1 with ⟨h1, h2⟩ | h1
    · refine .inl ⟨?_, h2⟩
      unfold Rd
      rw [upd_ne (Out.nel hp h2)]
      exact h1
    · exact .inr h1
  | .dc ks xs, v, h => by
    unfold Rep at h ⊢
    obtain ⟨a, vs, rfl, ⟨h1, h2⟩, hl, hn, h3⟩ := h
    refine ⟨a, vs, rfl, ⟨?_, h2⟩, hl, hn, Reps.lw hp xs vs h3⟩
    unfold Rd
    rw [upd_ne (Out.nel hp h2)]
    exact h1
  | .loc l, v, h => by unfold Rep at h ⊢; exact h
theorem Reps.lw {p : Addr} {o : HO} (hp : p ∈ ρ.lb) : ∀ (xs : List PV) (vs : List V), Reps K ρ H xs vs → Reps K ρ (upd H p o) xs vs
  | [], _, h => by unfold Reps at h ⊢; exact h
  | x :: r, vs, h => by
    unfold Reps at h ⊢
    obtain ⟨v, s, rfl, h1, h2⟩ := h
    exact ⟨v, s, rfl, Rep.lw hp x v h1, Reps.lw hp r s h2⟩
end
theorem Flds.lw {p : Addr} {o : HO} (hp : p ∈ ρ.lb) : ∀ {fs : List (Str × PV)} {gs : List (Str × V)}, Flds K ρ H fs gs → Flds K ρ (upd H p o) fs gs
  | [], _, h => h
  | (f, x) :: r, _, h => by
    obtain ⟨v, s, rfl, h1, h2⟩ := h
    exact ⟨v, s, rfl, Rep.lw hp x v h1, Flds.lw hp h2⟩
theorem CellAt.lw {p a : Addr} {o : HO} {c : Cell} (hp : p ∈ ρ.lb) (na : a ≠ p) (c1 : CellAt w K ρ H c a) : CellAt w K ρ (upd H p o) c a := by
  cases c with
  | lst xs => obtain ⟨vs, h1, h2⟩ := c1; exact ⟨vs, by rw [upd_ne na]; exact h1, Reps.lw hp _ _ h2⟩
  | dks ks xs => obtain ⟨vs, h1, h2, h3, h4⟩ := c1; exact ⟨vs, by rw [upd_ne na]; exact h1, h2, h3, Reps.lw hp _ _ h4⟩
  | dki ks xs => obtain ⟨vs, h1, h2, h3, h4⟩ := c1; exact ⟨vs, by rw [upd_ne na]; exact h1, h2, h3, Reps.lw hp _ _ h4⟩
  | fki ks xs => obtain ⟨od, vs, h1, h2, h3, h4⟩ := c1; exact ⟨od, vs, by rw [upd_ne na]; exact h1, h2, h3, Reps.lw hp _ _ h4⟩
  | dkn ks xs => obtain ⟨kvs, h1, h2⟩ := c1; exact ⟨kvs, by rw [upd_ne na]; exact h1, h2.imp (fun x v _ _ => Rep.lw hp x v) fun x v _ => Rep.lw hp x v⟩
  | fkn ks xs => obtain ⟨od, kvs, h1, h2⟩ := c1; exact ⟨od, kvs, by rw [upd_ne na]; exact h1, h2.imp (fun x v _ _ => Rep.lw hp x v) fun x v _ => Rep.lw hp x v⟩
  | ins C fs => obtain ⟨dx, gs, h1, h2, h3, h4⟩ := c1; exact ⟨dx, gs, by rw [upd_ne na]; exact h1, by rw [upd_ne (Out.nel hp h3)]; exact h2, h3, Flds.lw hp h4⟩
/-- a cell of the store changes -/
theorem Rel.write {l : Nat} {a : Addr} {o : HO} {c : Cell} (q : Rel w K ρ S H) (h : ρ.lb[l]? = some a) (hc : CellAt w K ρ (upd H a o) c a) : Rel w K ρ (S.set l c) (upd H a o) := by
  have ha : a ∈ ρ.lb := List.mem_of_getElem? h
  refine ⟨by simp [q.len], q.nd, fun j d b h1 h2 => ?_, fun b hb => ?_, let ⟨c0, _, at0⟩ := q.cell h; let ⟨_, e0, pl0⟩ := at0.thereP; tabs_upd q.tabs e0 pl0⟩
  · by_cases e : l = j
    · subst e
      rw [h] at h2; cases h2
      have hl : l < S.length := by rw [← q.len]; exact (List.getElem?_eq_some_iff.mp h).1
      rw [List.getElem?_set_self hl] at h1
      cases h1
      exact hc
    · rw [List.getElem?_set_ne e] at h1
      have c1 := q.at_ j d b h1 h2
      refine c1.lw ha fun z => e ?_
      subst z
      obtain ⟨h3, e3⟩ := List.getElem?_eq_some_iff.mp h
      obtain ⟨h4, e4⟩ := List.getElem?_eq_some_iff.mp h2
      exact (List.getElem_inj q.nd).mp (e3.trans e4.symm)
  · obtain ⟨⟨u, hu, pl⟩, n⟩ := q.hd b hb
    exact ⟨⟨u, by rw [upd_ne (fun z => n (by rw [z]; exact ha))]; exact hu, pl⟩, n⟩
/-! hiding -/
def Rho.hide (ρ : Rho) (p : Addr) : Rho := ⟨ρ.lb, p :: ρ.hid⟩
theorem Out.hide {p a : Addr} {o : HO} (h : ρ.Out a) (ha : H a = some o) (hp : H p = none) : (ρ.hide p).Out a := ⟨h.1, fun z => by
  rcases List.mem_cons.mp z with z | z
  · rw [z, hp] at ha; cases ha
  · exact h.2 z⟩
theorem Out.show' {p a : Addr} (h : (ρ.hide p).Out a) : ρ.Out a := ⟨h.1, fun z => h.2 (List.mem_cons_of_mem _ z)⟩
mutual
theorem Rep.hide {p : Addr} {o : HO} (hp : H p = none) : ∀ (x : PV) (v : V), Rep K ρ H x v → Rep K (ρ.hide p) (upd H p o) x v
  | .non, _, h => by unfold Rep at h ⊢; exact h
  | .bl _, _, h => by unfold Rep at h ⊢; exact h
  | .int _, _, h => by unfold Rep at h ⊢; exact h
  | .str _, _, h => by unfold Rep at h ⊢; exact h
  | .tup xs, v, h => by
    unfold Rep at h ⊢
    obtain ⟨a, vs, rfl, h1, h3⟩ := h
    refine ⟨a, vs, rfl, ?_, Reps.hide hp xs vs h3⟩
    rcases h1 with ⟨h1, h2⟩ | h1
    · obtain ⟨u, hu⟩ := Rd.some h1
      exact .inl ⟨Rd.ext (Ext.new (ρ := ρ) hp) h1 .tup h2.1, Out.hide h2 hu hp⟩
    · exact .inr h1
  | .ls xs, v, h => by
    unfold Rep at h ⊢
    obtain ⟨a, vs, rfl, ⟨h1, h2⟩, h3⟩ := h
    exact ⟨a, vs, rfl, ⟨(Ext.new (ρ := ρ) hp).keep a _ h1 Plain.lst.1 h2.1, Out.hide h2 h1 hp⟩, Reps.hide hp xs vs h3⟩
  | .fz xs, v, h => by
    unfold Rep at h ⊢
    obtain ⟨a, vs, rfl, h1, h3⟩ := h
    refine ⟨a, vs, rfl, ?_, Reps.hide hp xs vs h3⟩
    rcases h1 with ⟨h1, h2⟩ | h1
    · obtain ⟨u, hu⟩ := Rd.some h1
      exact .inl ⟨Rd.ext (Ext.new (ρ := ρ) hp) h1 .lst h2.1, Out.hide h2 hu hp⟩
    · exact .inr h1
  | .dc ks xs, v, h => by
    unfold Rep at h ⊢
    obtain ⟨a, vs, rfl, ⟨h1, h2⟩, hl, hn, h3⟩ := h
    obtain ⟨u, hu⟩ := Rd.some h1
    exact ⟨a, vs, rfl, ⟨Rd.ext (Ext.new (ρ := ρ) hp) h1 .dK h2.1, Out.hide h2 hu hp⟩, hl, hn, Reps.hide hp xs vs h3⟩
  | .loc l, v, h => by unfold Rep at h ⊢; exact h
theorem Reps.hide {p : Addr} {o : HO} (hp : H p = none) : ∀ (xs : List PV) (vs : List V), Reps K ρ H xs vs → Reps K (ρ.hide p) (upd H p o) xs vs
  | [], _, h => by unfold Reps at h ⊢; exact h
  | x :: r, vs, h => by
    unfold Reps at h ⊢
    obtain ⟨v, s, rfl, h1, h2⟩ := h
    exact ⟨v, s, rfl, Rep.hide hp x v h1, Reps.hide hp r s h2⟩
end
theorem Out.ne {p a : Addr} (hp : p ∈ ρ.hid) (h : ρ.Out a) : a ≠ p := fun e => h.2 (by rw [e]; exact hp)
mutual
/-- what is hidden may change -/
theorem Rep.hw {p : Addr} {o : HO} (hp : p ∈ ρ.hid) : ∀ (x : PV) (v : V), Rep K ρ H x v → Rep K ρ (upd H p o) x v
  | .non, _, h => by unfold Rep at h ⊢; exact h
  | .bl _, _, h => by unfold Rep at h ⊢; exact h
  | .int _, _, h => by unfold Rep at h ⊢; exact h
  | .str _, _, h => by unfold Rep at h ⊢; exact h
  | .tup xs, v, h => by
    unfold Rep at h ⊢
    obtain ⟨a, vs, rfl, h1, h3⟩ := h
    refine ⟨a, vs, rfl, ?_, Reps.hw hp xs vs h3⟩
    rcases h1 with ⟨h1, h2⟩ | h1
    · refine .inl ⟨?_, h2⟩
      unfold Rd
      rw [upd_ne (Out.ne hp h2)]
      exact h1
    · exact .inr h1
  | .ls xs, v, h => by
    unfold Rep at h ⊢
    obtain ⟨a, vs, rfl, ⟨h1, h2⟩, h3⟩ := h
    exact ⟨a, vs, rfl, ⟨by rw [upd_ne (Out.ne hp h2)]; exact h1, h2⟩, Reps.hw hp xs vs h3⟩
  | .fz xs, v, h => by
    unfold Rep at h ⊢
    obtain ⟨a, vs, rfl, h1, h3⟩ := h
    refine ⟨a, vs, rfl, ?_, Reps.hw hp xs vs h3⟩
    rcases h1 with ⟨h1, h2⟩ | h1
    · refine .inl ⟨?_, h2⟩
      unfold Rd
      rw [upd_ne (Out.ne hp h2)]
      exact h1
    · exact .inr h1
  | .dc ks xs, v, h => by
    unfold Rep at h ⊢
    obtain ⟨a, vs, rfl, ⟨h1, h2⟩, hl, hn, h3⟩ := h
    refine ⟨a, vs, rfl, ⟨?_, h2⟩, hl, hn, Reps.hw hp xs vs h3⟩
    unfold Rd
    rw [upd_ne (Out.ne hp h2)]
    exact h1
  | .loc l, v, h => by unfold Rep at h ⊢; exact h
theorem Reps.hw {p : Addr} {o : HO} (hp : p ∈ ρ.hid) : ∀ (xs : List PV) (vs : List V), Reps K ρ H xs vs → Reps K ρ (upd H p o) xs vs
  | [], _, h => by unfold Reps at h ⊢; exact h
  | x :: r, vs, h => by
    unfold Reps at h ⊢
    obtain ⟨v, s, rfl, h1, h2⟩ := h
    exact ⟨v, s, rfl, Rep.hw hp x v h1, Reps.hw hp r s h2⟩
end
theorem Flds.hide {p : Addr} {o : HO} (hp : H p = none) : ∀ {fs : List (Str × PV)} {gs : List (Str × V)}, Flds K ρ H fs gs → Flds K (ρ.hide p) (upd H p o) fs gs
  | [], _, h => h
  | (f, x) :: r, _, h => by
    obtain ⟨v, s, rfl, h1, h2⟩ := h
    exact ⟨v, s, rfl, Rep.hide hp x v h1, Flds.hide hp h2⟩
theorem Flds.hw {p : Addr} {o : HO} (hp : p ∈ ρ.hid) : ∀ {fs : List (Str × PV)} {gs : List (Str × V)}, Flds K ρ H fs gs → Flds K ρ (upd H p o) fs gs
  | [], _, h => h
  | (f, x) :: r, _, h => by
    obtain ⟨v, s, rfl, h1, h2⟩ := h
    exact ⟨v, s, rfl, Rep.hw hp x v h1, Flds.hw hp h2⟩
theorem Rel.hide {p : Addr} {o : HO} (q : Rel w K ρ S H) (hp : H p = none) (po : Plain o := by constructor <;> (intro _ z; cases z)) : Rel w K (ρ.hide p) S (upd H p o) := by
  refine ⟨q.len, q.nd, fun l c a h1 h2 => ?_, fun a ha => ?_, tabs_new q.tabs hp⟩
  · have c1 := q.at_ l c a h1 h2
    obtain ⟨u, hu⟩ := c1.there
    have na : a ≠ p := ne_of_none hu hp
    cases c with
    | lst xs => obtain ⟨vs, h1, h2⟩ := c1; exact ⟨vs, by rw [upd_ne na]; exact h1, Reps.hide hp _ _ h2⟩
    | dks ks xs => obtain ⟨vs, h1, h2, h3, h4⟩ := c1; exact ⟨vs, by rw [upd_ne na]; exact h1, h2, h3, Reps.hide hp _ _ h4⟩
    | dki ks xs => obtain ⟨vs, h1, h2, h3, h4⟩ := c1; exact ⟨vs, by rw [upd_ne na]; exact h1, h2, h3, Reps.hide hp _ _ h4⟩
    | fki ks xs => obtain ⟨od, vs, h1, h2, h3, h4⟩ := c1; exact ⟨od, vs, by rw [upd_ne na]; exact h1, h2, h3, Reps.hide hp _ _ h4⟩
    | dkn ks xs => obtain ⟨kvs, h1, h2⟩ := c1; exact ⟨kvs, by rw [upd_ne na]; exact h1, h2.imp (fun x v _ _ => Rep.hide hp x v) fun x v _ => Rep.hide hp x v⟩
    | fkn ks xs => obtain ⟨od, kvs, h1, h2⟩ := c1; exact ⟨od, kvs, by rw [upd_ne na]; exact h1, h2.imp (fun x v _ _ => Rep.hide hp x v) fun x v _ => Rep.hide hp x v⟩
    | ins C fs => obtain ⟨dx, gs, h1, h2, h3, h4⟩ := c1; exact ⟨dx, gs, by rw [upd_ne na]; exact h1, by rw [upd_ne (ne_of_none h2 hp)]; exact h2, Out.hide h3 h2 hp, Flds.hide hp h4⟩
  · rcases List.mem_cons.mp (show a ∈ p :: ρ.hid from ha) with z | z
    · rw [z]; exact ⟨⟨_, upd_same, po⟩, q.out1 hp⟩
    · obtain ⟨⟨u, hu, pl⟩, n⟩ := q.hd a z
      exact ⟨⟨u, by rw [upd_ne (ne_of_none hu hp)]; exact hu, pl⟩, n⟩
theorem Rel.hw {p : Addr} {o : HO} (q : Rel w K ρ S H) (hp : p ∈ ρ.hid) (po : Plain o := by constructor <;> (intro _ z; cases z)) : Rel w K ρ S (upd H p o) := by
  refine ⟨q.len, q.nd, fun l c a h1 h2 => ?_, fun a ha => ?_, let ⟨⟨_, e0, pl0⟩, _⟩ := q.hd p hp; tabs_upd q.tabs e0 pl0⟩
  · have c1 := q.at_ l c a h1 h2
    have na : a ≠ p := fun e => (q.hd p hp).2 (by rw [← e]; exact List.mem_of_getElem? h2)
    cases c with
    | lst xs => obtain ⟨vs, h1, h2⟩ := c1; exact ⟨vs, by rw [upd_ne na]; exact h1, Reps.hw hp _ _ h2⟩
    | dks ks xs => obtain ⟨vs, h1, h2, h3, h4⟩ := c1; exact ⟨vs, by rw [upd_ne na]; exact h1, h2, h3, Reps.hw hp _ _ h4⟩
    | dki ks xs => obtain ⟨vs, h1, h2, h3, h4⟩ := c1; exact ⟨vs, by rw [upd_ne na]; exact h1, h2, h3, Reps.hw hp _ _ h4⟩
    | fki ks xs => obtain ⟨od, vs, h1, h2, h3, h4⟩ := c1; exact ⟨od, vs, by rw [upd_ne na]; exact h1, h2, h3, Reps.hw hp _ _ h4⟩
    | dkn ks xs => obtain ⟨kvs, h1, h2⟩ := c1; exact ⟨kvs, by rw [upd_ne na]; exact h1, h2.imp (fun x v _ _ => Rep.hw hp x v) fun x v _ => Rep.hw hp x v⟩
    | fkn ks xs => obtain ⟨od, kvs, h1, h2⟩ := c1; exact ⟨od, kvs, by rw [upd_ne na]; exact h1, h2.imp (fun x v _ _ => Rep.hw hp x v) fun x v _ => Rep.hw hp x v⟩
    | ins C fs => obtain ⟨dx, gs, h1, h2, h3, h4⟩ := c1; exact ⟨dx, gs, by rw [upd_ne na]; exact h1, by rw [upd_ne (Out.ne hp h3)]; exact h2, h3, Flds.hw hp h4⟩
  · obtain ⟨⟨u, hu, pl⟩, n⟩ := q.hd a ha
    refine ⟨?_, n⟩
    by_cases e : a = p
    · rw [e]; exact ⟨_, upd_same, po⟩
    · exact ⟨u, by rw [upd_ne e]; exact hu, pl⟩
mutual
theorem Rep.unhide {p : Addr} : ∀ (x : PV) (v : V), Rep K (ρ.hide p) H x v → Rep K ρ H x v
  | .non, _, h => by unfold Rep at h ⊢; exact h
  | .bl _, _, h => by unfold Rep at h ⊢; exact h
  | .int _, _, h => by unfold Rep at h ⊢; exact h
  | .str _, _, h => by unfold Rep at h ⊢; exact h
  | .tup xs, v, h => by
    unfold Rep at h ⊢
    obtain ⟨a, vs, rfl, h1, h3⟩ := h
    refine ⟨a, vs, rfl, ?_, Reps.unhide xs vs h3⟩
    rcases h1 with ⟨h1, h2⟩ | h1
    · exact .inl ⟨h1, Out.show' h2⟩
    · exact .inr h1
  | .ls xs, v, h => by
    unfold Rep at h ⊢
    obtain ⟨a, vs, rfl, ⟨h1, h2⟩, h3⟩ := h
    exact ⟨a, vs, rfl, ⟨h1, Out.show' h2⟩, Reps.unhide xs vs h3⟩
  | .fz xs, v, h => by
    unfold Rep at h ⊢
    obtain ⟨a, vs, rfl, h1, h3⟩ := h
    refine ⟨a, vs, rfl, ?_, Reps.unhide xs vs h3⟩
    rcases h1 with ⟨h1, h2⟩ | h1
    · exact .inl ⟨h1, Out.show' h2⟩
    · exact .inr h1
  | .dc ks xs, v, h => by
    unfold Rep at h ⊢
    obtain ⟨a, vs, rfl, ⟨h1, h2⟩, hl, hn, h3⟩ := h
    exact ⟨a, vs, rfl, ⟨h1, Out.show' h2⟩, hl, hn, Reps.unhide xs vs h3⟩
  | .loc l, v, h => by unfold Rep at h ⊢; exact h
theorem Reps.unhide {p : Addr} : ∀ (xs : List PV) (vs : List V), Reps K (ρ.hide p) H xs vs → Reps K ρ H xs vs
  | [], _, h => by unfold Reps at h ⊢; exact h
  | x :: r, vs, h => by
    unfold Reps at h ⊢
    obtain ⟨v, s, rfl, h1, h2⟩ := h
    exact ⟨v, s, rfl, Rep.unhide x v h1, Reps.unhide r s h2⟩
end
theorem Flds.unhide {p : Addr} : ∀ {fs : List (Str × PV)} {gs : List (Str × V)}, Flds K (ρ.hide p) H fs gs → Flds K ρ H fs gs
  | [], _, h => h
  | (f, x) :: r, _, h => by
    obtain ⟨v, s, rfl, h1, h2⟩ := h
    exact ⟨v, s, rfl, Rep.unhide x v h1, Flds.unhide h2⟩
theorem Rel.unhide {p : Addr} (q : Rel w K (ρ.hide p) S H) : Rel w K ρ S H := by
  refine ⟨q.len, q.nd, fun l c a h1 h2 => ?_, fun a ha => q.hd a (List.mem_cons_of_mem _ ha), q.tabs⟩
  have c1 := q.at_ l c a h1 h2
  cases c with
  | lst xs => obtain ⟨vs, h1, h2⟩ := c1; exact ⟨vs, h1, Reps.unhide _ _ h2⟩
  | dks ks xs => obtain ⟨vs, h1, h2, h3, h4⟩ := c1; exact ⟨vs, h1, h2, h3, Reps.unhide _ _ h4⟩
  | dki ks xs => obtain ⟨vs, h1, h2, h3, h4⟩ := c1; exact ⟨vs, h1, h2, h3, Reps.unhide _ _ h4⟩
  | fki ks xs => obtain ⟨od, vs, h1, h2, h3, h4⟩ := c1; exact ⟨od, vs, h1, h2, h3, Reps.unhide _ _ h4⟩
  | dkn ks xs => obtain ⟨kvs, h1, h2⟩ := c1; exact ⟨kvs, h1, h2.imp (fun x v _ _ => Rep.unhide x v) fun x v _ => Rep.unhide x v⟩
  | fkn ks xs => obtain ⟨od, kvs, h1, h2⟩ := c1; exact ⟨od, kvs, h1, h2.imp (fun x v _ _ => Rep.unhide x v) fun x v _ => Rep.unhide x v⟩
  | ins C fs => obtain ⟨dx, gs, h1, h2, h3, h4⟩ := c1; exact ⟨dx, gs, h1, h2, Out.show' h3, Flds.unhide h4⟩
theorem lim_line : lim ≤ sizeLine := by rw [sizeLine_eq]; decide
theorem lim_lt {n : Nat} (h : n < lim) : n < sizeLine := Nat.lt_of_lt_of_le h lim_line
theorem lim_le {n : Nat} (h : n ≤ lim) : n ≤ sizeLine := Nat.le_trans h lim_line
/-- the items of a sequence in the heap -/
theorem seq_of (q : Rel w K ρ S H) {x : PV} {v : V} {xs : List PV} (r : Rep K ρ H x v) (h : seqOf S x = some xs) : ∃ a vs, v = .ref a ∧ (SqL K H a vs ∨ SqT K H a vs) ∧ Reps K ρ H xs vs := by
  cases x with
  | tup ys =>
    unfold Rep at r
    obtain ⟨a, vs, rfl, h1, h2⟩ := r
    cases h
    exact ⟨a, vs, rfl, .inr h1.sq, h2⟩
  | ls ys =>
    unfold Rep at r
    obtain ⟨a, vs, rfl, ⟨h1, _⟩, h2⟩ := r
    cases h
    exact ⟨a, vs, rfl, .inl (.of h1), h2⟩
  | fz ys =>
    unfold Rep at r
    obtain ⟨a, vs, rfl, h1, h2⟩ := r
    cases h
    exact ⟨a, vs, rfl, .inl h1.sq, h2⟩
  | loc l =>
    unfold Rep at r
    obtain ⟨a, h1, rfl⟩ := r
    obtain ⟨c, hc, ca⟩ := q.cell h1
    simp only [seqOf, hc] at h
    cases c with
    | lst ys =>
      cases h
      obtain ⟨vs, h1, h2⟩ := ca
      exact ⟨a, vs, rfl, .inl (.of h1), h2⟩
    | _ => cases h
  | _ => cases h
theorem lst_of (q : Rel w K ρ S H) {x : PV} {v : V} {xs : List PV} (r : Rep K ρ H x v) (h : lstOf S x = some xs) : ∃ a vs, v = .ref a ∧ H a = some (.lst vs) ∧ Reps K ρ H xs vs := by
  cases x with
  | ls ys =>
    unfold Rep at r
    obtain ⟨a, vs, rfl, ⟨h1, _⟩, h2⟩ := r
    cases h
    exact ⟨a, vs, rfl, h1, h2⟩
  | loc l =>
    unfold Rep at r
    obtain ⟨a, h1, rfl⟩ := r
    obtain ⟨c, hc, ca⟩ := q.cell h1
    simp only [lstOf, hc] at h
    cases c with
    | lst ys =>
      cases h
      obtain ⟨vs, h1, h2⟩ := ca
      exact ⟨a, vs, rfl, h1, h2⟩
    | _ => cases h
  | _ => cases h
end
section
variable {G : Gx} {E : XK} {ρ : Rho} {H : Hp} {S : Store} {Q : VK}
/-- a new list that nobody changes, a new tuple, a new list of the store -/
theorem put_ls {xs : List PV} {vs : List V} (q : Rel G.w G.K ρ S H) (r : Reps G.K ρ H xs vs) (h : Aft G E ρ H (.ok (.ls xs) S) (kV G Q)) : ∀ p, H p = none → Q (.ref p) (upd H p (.lst vs)) := fun p hp => by
  refine h ρ _ (Ext.new hp) (q.new hp) _ ?_
  unfold Rep
  exact ⟨p, vs, rfl, ⟨upd_same, q.out hp⟩, Reps.ext (Ext.new hp) _ _ r⟩
theorem put_tup {xs : List PV} {vs : List V} (q : Rel G.w G.K ρ S H) (r : Reps G.K ρ H xs vs) (h : Aft G E ρ H (.ok (.tup xs) S) (kV G Q)) : ∀ p, H p = none → Q (.ref p) (upd H p (.tup vs)) := fun p hp => by
  refine h ρ _ (Ext.new hp) (q.new hp) _ ?_
  unfold Rep
  exact ⟨p, vs, rfl, .inl ⟨.inl upd_same, q.out hp⟩, Reps.ext (Ext.new hp) _ _ r⟩
theorem put_new {xs : List PV} {vs : List V} (q : Rel G.w G.K ρ S H) (r : Reps G.K ρ H xs vs) (h : Aft G E ρ H (.ok (.loc S.length) (S ++ [.lst xs])) (kV G Q)) : ∀ p, H p = none → Q (.ref p) (upd H p (.lst vs)) := fun p hp => by
  refine h (ρ.add p) _ (Ext.grow hp) (q.grow hp ⟨vs, upd_same, Reps.ext (Ext.grow hp) _ _ r⟩) _ ?_
  unfold Rep
  exact ⟨p, by rw [← q.len]; show (ρ.lb ++ [p])[ρ.lb.length]? = some p; simp, rfl⟩
/-! ### arithmetic -/
def rAddU (K : PySem.W.Frag) : R2 := fun x y H Q => rI0 (fun i j => .int (i + j)) x y H Q ∨ (rCatA K x y H Q ∨ rCat x y H Q)
theorem op_addU {X : Cx} : OpR X (binaryOp .Add) (rAddU X.K) := OpR.or op_add (OpR.or op_catA op_cat)
theorem sd_add : Sd2 G E (rAddU G.K) oAdd := fun ρ S H x y v u Q q rx ry h => by
  unfold oAdd at h
  split at h
  · rw [rx.int_of, ry.int_of]
    exact .inl ⟨_, _, rfl, rfl, h.ok q _ Rep.int⟩
  · split at h
    · rename_i a b hl
      have rx' := rx
      have ry' := ry
      unfold Rep at rx ry
      obtain ⟨p, vs, rfl, t1, r1⟩ := rx
      obtain ⟨p2, us, rfl, t2, r2⟩ := ry
      refine .inr (.inl ⟨p, p2, vs, us, rfl, rfl, t1.sq, t2.sq, ?_, fun e => ?_, fun _ e => ?_, fun _ _ => ?_⟩)
      · rw [← r1.length, ← r2.length]; exact lim_le hl
      · subst e
        have : a = [] := List.eq_nil_of_length_eq_zero (by rw [r1.length]; rfl)
        subst this
        exact h.ok q _ ry'
      · subst e
        have : b = [] := List.eq_nil_of_length_eq_zero (by rw [r2.length]; rfl)
        subst this
        rw [List.append_nil] at h
        exact h.ok q _ rx'
      · exact put_tup q (r1.append r2) h
    · exact h.elim
  · split at h
    · rename_i a b h1 h2
      split at h
      · rename_i hl
        obtain ⟨p, vs, rfl, t1, r1⟩ := lst_of q rx h1
        obtain ⟨p2, us, rfl, t2, r2⟩ := lst_of q ry h2
        refine .inr (.inr ⟨p, p2, vs, us, rfl, rfl, t1, t2, ?_, put_ls q (r1.append r2) h⟩)
        rw [← r1.length, ← r2.length]; exact lim_le hl
      · exact h.elim
    · exact h.elim
theorem sd_sub : Sd2 G E (rI0 fun i j => .int (i - j)) oSub := fun ρ S H x y v u Q q rx ry h => by
  unfold oSub at h
  split at h
  · rw [rx.int_of, ry.int_of]
    exact ⟨_, _, rfl, rfl, h.ok q _ Rep.int⟩
  · exact h.elim
def rMulU (K : PySem.W.Frag) : R2 := fun x y H Q => rI CMul (fun i j => .int (i * j)) x y H Q ∨ (rOnce K x y H Q ∨ (rRepT K x y H Q ∨ rRep x y H Q))
theorem op_mulU {X : Cx} : OpR X (binaryOp .Mult) (rMulU X.K) := OpR.or op_mul (OpR.or op_once (OpR.or op_repT op_rep))
theorem mulOk_C {i j : Int} (h : mulOk i j = true) : CMul i j := by
  unfold mulOk at h
  simp only [Bool.or_eq_true, Bool.and_eq_true, decide_eq_true_eq] at h
  exact h
theorem sd_mul : Sd2 G E (rMulU G.K) oMul := fun ρ S H x y v u Q q rx ry h => by
  unfold oMul at h
  split at h
  · split at h
    · rename_i hm
      rw [rx.int_of, ry.int_of]
      exact .inl ⟨_, _, rfl, rfl, mulOk_C hm, h.ok q _ Rep.int⟩
    · exact h.elim
  · split at h
    · rename_i a j e
      subst e
      rw [ry.int_of]
      have rx' := rx
      unfold Rep at rx
      obtain ⟨p, vs, rfl, t1, r1⟩ := rx
      exact .inr (.inl ⟨p, vs, rfl, rfl, t1.sq, h.ok q _ rx'⟩)
    · split at h
      · rename_i a j hne hl
        rw [ry.int_of]
        unfold Rep at rx
        obtain ⟨p, vs, rfl, t1, r1⟩ := rx
        refine .inr (.inr (.inl ⟨p, j, vs, rfl, rfl, t1.sq, fun e => ?_, hl.1, hl.2.1, by rw [← r1.length]; exact hl.2.2.1, put_tup q (r1.rep _) h⟩))
        subst e
        exact hl.2.2.2 (List.eq_nil_of_length_eq_zero (by rw [r1.length]; rfl))
      · exact h.elim
  · split at h
    · rename_i j _ _ _ a h1
      split at h
      · rename_i hl
        rw [ry.int_of]
        obtain ⟨p, vs, rfl, t1, r1⟩ := lst_of q rx h1
        refine .inr (.inr (.inr ⟨p, j, vs, rfl, rfl, t1, by omega, by omega, ?_, put_ls q (r1.rep _) h⟩))
        rw [← r1.length]
        have h3 : j.toNat ≤ 1000 := by omega
        exact lim_le (Nat.le_trans (Nat.mul_le_mul hl.2.2 h3) (by decide))
      · exact h.elim
    · exact h.elim
  · exact h.elim
theorem sd_div : Sd2 G E (rI CDiv fun i j => .int (i / j)) oDiv := fun ρ S H x y v u Q q rx ry h => by
  unfold oDiv at h
  split at h
  · split at h
    · rename_i hc
      rw [rx.int_of, ry.int_of]
      exact ⟨_, _, rfl, rfl, hc, h.ok q _ Rep.int⟩
    · exact h.elim
  · exact h.elim
theorem sd_mod : Sd2 G E (rI (fun _ j => 0 < j) fun i j => .int (i % j)) oMod := fun ρ S H x y v u Q q rx ry h => by
  unfold oMod at h
  split at h
  · split at h
    · rename_i hc
      rw [rx.int_of, ry.int_of]
      exact ⟨_, _, rfl, rfl, hc, h.ok q _ Rep.int⟩
    · exact h.elim
  · exact h.elim
theorem sd_pow : Sd2 G E (rI CPow fun i j => .int (i ^ j.toNat)) oPow := fun ρ S H x y v u Q q rx ry h => by
  unfold oPow at h
  split at h
  · split at h
    · rename_i hc
      rw [rx.int_of, ry.int_of]
      exact ⟨_, _, rfl, rfl, ⟨hc.1, Int.le_trans hc.2.1 (by decide), hc.2.2⟩, h.ok q _ Rep.int⟩
    · exact h.elim
  · exact h.elim
theorem sd_neg : Sd1 G E (rU fun i => .int (-i)) oNeg := fun ρ S H x v Q q rx h => by
  unfold oNeg at h
  split at h
  · rw [rx.int_of]
    exact ⟨_, rfl, h.ok q _ Rep.int⟩
  · exact h.elim
theorem sd_lt : Sd2 G E (rI0 fun i j => .bl (decide (i < j))) oLt := fun ρ S H x y v u Q q rx ry h => by
  unfold oLt at h
  split at h
  · rw [rx.int_of, ry.int_of]
    exact ⟨_, _, rfl, rfl, h.ok q _ Rep.bl⟩
  · exact h.elim
theorem sd_le : Sd2 G E (rI0 fun i j => .bl (decide (i ≤ j))) oLe := fun ρ S H x y v u Q q rx ry h => by
  unfold oLe at h
  split at h
  · rw [rx.int_of, ry.int_of]
    exact ⟨_, _, rfl, rfl, h.ok q _ Rep.bl⟩
  · exact h.elim
theorem sd_gt : Sd2 G E (rI0 fun i j => .bl (decide (j < i))) oGt := fun ρ S H x y v u Q q rx ry h => by
  unfold oGt at h
  split at h
  · rw [rx.int_of, ry.int_of]
    exact ⟨_, _, rfl, rfl, h.ok q _ Rep.bl⟩
  · exact h.elim
theorem sd_ge : Sd2 G E (rI0 fun i j => .bl (decide (j ≤ i))) oGe := fun ρ S H x y v u Q q rx ry h => by
  unfold oGe at h
  split at h
  · rw [rx.int_of, ry.int_of]
    exact ⟨_, _, rfl, rfl, h.ok q _ Rep.bl⟩
  · exact h.elim
def rIsNU : R2 := fun x y H Q => y = .non ∧ Q (.bl (decide (x = .non))) H
theorem op_isNU {X : Cx} : OpR X (compareOp .Is) rIsNU := op_isN
theorem Rep.isNon {K : PySem.W.Frag} {ρ : Rho} {H : Hp} {x : PV} {v : V} (r : Rep K ρ H x v) : decide (v = .non) = x.isNon := by
  cases x with
  | non => rw [r.non_of]; rfl
  | bl k => rw [r.bl_of]; rfl
  | int k => rw [r.int_of]; rfl
  | str k => rw [r.str_of]; rfl
  | tup xs => unfold Rep at r; obtain ⟨a, vs, rfl, _⟩ := r; rfl
  | ls xs => unfold Rep at r; obtain ⟨a, vs, rfl, _⟩ := r; rfl
  | fz xs => unfold Rep at r; obtain ⟨a, vs, rfl, _⟩ := r; rfl
  | dc ks xs => unfold Rep at r; obtain ⟨a, vs, rfl, _⟩ := r; rfl
  | loc l => unfold Rep at r; obtain ⟨a, _, rfl⟩ := r; rfl
theorem sd_isN : Sd2 G E rIsNU oIsN := fun ρ S H x y v u Q q rx ry h => by
  unfold oIsN at h
  split at h
  · refine ⟨ry.non_of, ?_⟩
    rw [rx.isNon]
    exact h.ok q _ Rep.bl
  · exact h.elim
end
/-! ### == at any depth -/
section
variable {w : World} {K : PySem.W.Frag} {ρ : Rho} {H : Hp}
mutual
theorem dat_dp : ∀ (n : Nat) (x : PV) (v : V), plain n x = true → Rep K ρ H x v → Dp K H v (datOf x)
  | _, .non, v, _, r => by rw [r.non_of]; unfold datOf; exact .non
  | _, .bl b, v, _, r => by rw [r.bl_of]; unfold datOf; exact .bl b
  | _, .int b, v, _, r => by rw [r.int_of]; unfold datOf; exact .int b
  | _, .str b, v, _, r => by rw [r.str_of]; unfold datOf; exact .str b
  | n + 1, .tup xs, v, p, r => by
    unfold Rep at r
    obtain ⟨a, vs, rfl, h1, h2⟩ := r
    unfold datOf
    exact .tup h1.sq (dats_dp n xs vs (by simpa [plain] using p) h2)
  | n + 1, .ls xs, v, p, r => by
    unfold Rep at r
    obtain ⟨a, vs, rfl, ⟨h1, _⟩, h2⟩ := r
    unfold datOf
    exact .lst (.of h1) (dats_dp n xs vs (by simpa [plain] using p) h2)
  | 0, .tup xs, v, p, r => by simp [plain] at p
  | 0, .ls xs, v, p, r => by simp [plain] at p
  | _, .fz xs, v, p, r => by simp [plain] at p
  | _, .dc ks xs, v, p, r => by simp [plain] at p
  | _, .loc l, v, p, r => by simp [plain] at p
theorem dats_dp : ∀ (n : Nat) (xs : List PV) (vs : List V), (∀ x ∈ xs, plain n x = true) → Reps K ρ H xs vs → DpAll K H vs (datsOf xs)
  | _, [], vs, _, r => by unfold Reps at r; rw [r]; unfold datsOf; exact .nil
  | n, x :: xs, vs, p, r => by
    obtain ⟨v, s, rfl, h1, h2⟩ := r.uncons
    unfold datsOf
    exact .cons (dat_dp n x v (p x (by simp)) h1) (dats_dp n xs s (fun y hy => p y (by simp [hy])) h2)
end
end
mutual
theorem dat_eqv : ∀ (n m : Nat) (x y : PV), plain n x = true → plain m y = true → PyData.eqv (datOf x) (datOf y) = eqv x y
  | n, m, .non, y, _, q => by cases y <;> simp_all [datOf, eqv, PyData.eqv, plain]
  | n, m, .bl a, y, _, q => by cases y <;> simp_all [datOf, eqv, PyData.eqv, plain]
  | n, m, .int a, y, _, q => by cases y <;> simp_all [datOf, eqv, PyData.eqv, plain]
  | n, m, .str a, y, _, q => by
    cases y <;> simp_all [datOf, eqv, PyData.eqv, plain]
    exact Bool.beq_eq_decide_eq _ _
  | n + 1, m, .tup a, y, p, q => by
    cases y with
    | tup b =>
      cases m with
      | zero => simp [plain] at q
      | succ m =>
        simp only [datOf, eqv, PyData.eqv]
        exact dats_eqv n m a b (by simpa [plain] using p) (by simpa [plain] using q)
    | _ => simp_all [datOf, eqv, PyData.eqv, plain]
  | n + 1, m, .ls a, y, p, q => by
    cases y with
    | ls b =>
      cases m with
      | zero => simp [plain] at q
      | succ m =>
        simp only [datOf, eqv, PyData.eqv]
        exact dats_eqv n m a b (by simpa [plain] using p) (by simpa [plain] using q)
    | _ => simp_all [datOf, eqv, PyData.eqv, plain]
  | 0, _, .tup a, y, p, _ => by simp [plain] at p
  | 0, _, .ls a, y, p, _ => by simp [plain] at p
  | _, _, .fz a, y, p, _ => by simp [plain] at p
  | _, _, .dc k a, y, p, _ => by simp [plain] at p
  | _, _, .loc a, y, p, _ => by simp [plain] at p
theorem dats_eqv : ∀ (n m : Nat) (xs ys : List PV), (∀ x ∈ xs, plain n x = true) → (∀ y ∈ ys, plain m y = true) → PyData.eqvAll (datsOf xs) (datsOf ys) = eqvs xs ys
  | n, m, [], ys, _, _ => by cases ys <;> simp [datsOf, eqvs, PyData.eqvAll]
  | n, m, x :: xs, ys, p, q => by
    cases ys with
    | nil => simp [datsOf, eqvs, PyData.eqvAll]
    | cons y ys =>
      simp only [datsOf, eqvs, PyData.eqvAll]
      rw [dat_eqv n m x y (p x (by simp)) (q y (by simp)), dats_eqv n m xs ys (fun z hz => p z (by simp [hz])) (fun z hz => q z (by simp [hz]))]
end
mutual
theorem dat_lay : ∀ (n : Nat) (x : PV), plain n x = true → (datOf x).canLay0 = true ∧ (datOf x).depth ≤ n
  | _, .non, _ => by simp [datOf, PyData.canLay0, PyData.depth]
  | _, .bl b, _ => by simp [datOf, PyData.canLay0, PyData.depth]
  | _, .int b, _ => by simp [datOf, PyData.canLay0, PyData.depth]
  | _, .str b, p => by simp [datOf, PyData.canLay0, PyData.depth]; simpa [plain] using p
  | n + 1, .tup xs, p => by
    have h := dats_lay n xs (by simpa [plain] using p)
    simp only [datOf, PyData.canLay0, PyData.depth]
    exact ⟨h.1, by omega⟩
  | n + 1, .ls xs, p => by
    have h := dats_lay n xs (by simpa [plain] using p)
    simp only [datOf, PyData.canLay0, PyData.depth]
    exact ⟨h.1, by omega⟩
  | 0, .tup xs, p => by simp [plain] at p
  | 0, .ls xs, p => by simp [plain] at p
  | _, .fz xs, p => by simp [plain] at p
  | _, .dc ks xs, p => by simp [plain] at p
  | _, .loc l, p => by simp [plain] at p
theorem dats_lay : ∀ (n : Nat) (xs : List PV), (∀ x ∈ xs, plain n x = true) → PyData.canLayAll0 (datsOf xs) = true ∧ PyData.depthAll (datsOf xs) ≤ n
  | n, [], _ => by simp [datsOf, PyData.canLayAll0, PyData.depthAll]
  | n, x :: xs, p => by
    have h1 := dat_lay n x (p x (by simp))
    have h2 := dats_lay n xs (fun y hy => p y (by simp [hy]))
    simp only [datsOf, PyData.canLayAll0, PyData.depthAll]
    exact ⟨by rw [h1.1, h2.1]; rfl, by omega⟩
end
theorem dat_shaped {x : PV} (p : plain 20 x = true) : SeqAt.shaped (datOf x) = true := by
  have h := dat_lay 20 x p
  unfold SeqAt.shaped
  rw [h.1, decide_eq_true (by omega)]
  rfl
section
variable {G : Gx} {E : XK} {ρ : Rho} {H : Hp} {S : Store} {Q : VK}
theorem res_dp (q : Rel G.w G.K ρ S H) : ∀ (n m : Nat) {x : PV} {v : V}, plain m (res n S x) = true → Rep G.K ρ H x v → Dp G.K H v (datOf (res n S x))
  | 0, m, x, v, p, r => by
    unfold res at p ⊢
    exact dat_dp m _ _ p r
  | n + 1, m, x, v, p, r => by
    have all : ∀ (k : Nat) (ys : List PV) (vs : List V), (∀ x ∈ ys.map (res n S), plain k x = true) → Reps G.K ρ H ys vs → DpAll G.K H vs (datsOf (ys.map (res n S))) := by
      intro k ys
      induction ys with
      | nil =>
        intro vs _ r
        unfold Reps at r
        rw [r]
        exact .nil
      | cons y ys ih =>
        intro vs p r
        obtain ⟨v, s, rfl, h1, h2⟩ := r.uncons
        rw [List.map_cons]
        unfold datsOf
        exact .cons (res_dp q n k (p _ (by simp)) h1) (ih s (fun z hz => p z (by rw [List.map_cons]; exact List.mem_cons_of_mem _ hz)) h2)
    cases x with
    | loc l =>
      unfold Rep at r
      obtain ⟨a, h1, rfl⟩ := r
      obtain ⟨c, hc, ca⟩ := q.cell h1
      simp only [res, hc] at p ⊢
      cases c with
      | lst ys =>
        obtain ⟨vs, h1, h2⟩ := ca
        cases m with
        | zero => simp [plain] at p
        | succ m =>
          simp only [datOf]
          exact .lst (.of h1) (all m ys vs (by simpa only [plain, List.all_eq_true] using p) h2)
      | _ => cases m <;> simp [plain] at p
    | tup ys =>
      unfold Rep at r
      obtain ⟨a, vs, rfl, h1, h2⟩ := r
      simp only [res] at p ⊢
      cases m with
      | zero => simp [plain] at p
      | succ m =>
        simp only [datOf]
        exact .tup h1.sq (all m ys vs (by simpa only [plain, List.all_eq_true] using p) h2)
    | ls ys =>
      unfold Rep at r
      obtain ⟨a, vs, rfl, ⟨h1, _⟩, h2⟩ := r
      simp only [res] at p ⊢
      cases m with
      | zero => simp [plain] at p
      | succ m =>
        simp only [datOf]
        exact .lst (.of h1) (all m ys vs (by simpa only [plain, List.all_eq_true] using p) h2)
    | fz ys =>
      unfold Rep at r
      obtain ⟨a, vs, rfl, h1, h2⟩ := r
      simp only [res] at p ⊢
      cases m with
      | zero => simp [plain] at p
      | succ m =>
        simp only [datOf]
        exact .lst h1.sq (all m ys vs (by simpa only [plain, List.all_eq_true] using p) h2)
    | non => simp only [res] at p ⊢; exact dat_dp m _ _ p r
    | bl _ => simp only [res] at p ⊢; exact dat_dp m _ _ p r
    | int _ => simp only [res] at p ⊢; exact dat_dp m _ _ p r
    | str _ => simp only [res] at p ⊢; exact dat_dp m _ _ p r
    | dc _ _ => simp only [res] at p ⊢; exact dat_dp m _ _ p r
theorem sd_eq : Sd2 G E (rEqD G.K) oEq := fun ρ S H x y v u Q q rx ry h => by
  unfold oEq at h
  split at h
  · rename_i p
    refine ⟨datOf (res 20 S x), datOf (res 20 S y), res_dp q 20 20 p.1 rx, res_dp q 20 20 p.2 ry, dat_shaped p.1, dat_shaped p.2, ?_⟩
    rw [dat_eqv 20 20 _ _ p.1 p.2]
    exact h.ok q _ Rep.bl
  · exact h.elim
theorem sd_ne : Sd2 G E (rNeD G.K) oNe := fun ρ S H x y v u Q q rx ry h => by
  unfold oNe at h
  split at h
  · rename_i p
    refine ⟨datOf (res 20 S x), datOf (res 20 S y), res_dp q 20 20 p.1 rx, res_dp q 20 20 p.2 ry, dat_shaped p.1, dat_shaped p.2, ?_⟩
    rw [dat_eqv 20 20 _ _ p.1 p.2]
    exact h.ok q _ Rep.bl
  · exact h.elim
/-! ### in -/
theorem Rep.flatV {K : PySem.W.Frag} {x : PV} {v : V} (r : Rep K ρ H x v) (f : flat x = true) : L2.flatV v = true := by
  cases x with
  | non => rw [r.non_of]; rfl
  | bl k => rw [r.bl_of]; rfl
  | int k => rw [r.int_of]; rfl
  | str k => rw [r.str_of]; rfl
  | _ => cases f
theorem Rep.eqV {K : PySem.W.Frag} {x y : PV} {v u : V} (r : Rep K ρ H x v) (r' : Rep K ρ H y u) (f : flat x = true) (f' : flat y = true) : L2.eqV v u = eqv x y := by
  cases x with
  | non =>
    rw [r.non_of]
    cases y with
    | non => rw [r'.non_of]; rfl
    | bl k => rw [r'.bl_of]; rfl
    | int k => rw [r'.int_of]; rfl
    | str k => rw [r'.str_of]; rfl
    | _ => cases f'
  | bl k =>
    rw [r.bl_of]
    cases y with
    | non => rw [r'.non_of]; rfl
    | bl k => rw [r'.bl_of]; rfl
    | int k => rw [r'.int_of]; rfl
    | str k => rw [r'.str_of]; rfl
    | _ => cases f'
  | int k =>
    rw [r.int_of]
    cases y with
    | non => rw [r'.non_of]; rfl
    | bl k => rw [r'.bl_of]; rfl
    | int k => rw [r'.int_of]; rfl
    | str k => rw [r'.str_of]; rfl
    | _ => cases f'
  | str k =>
    rw [r.str_of]
    cases y with
    | non => rw [r'.non_of]; rfl
    | bl k => rw [r'.bl_of]; rfl
    | int k => rw [r'.int_of]; rfl
    | str j => rw [r'.str_of]; exact Bool.beq_eq_decide_eq _ _
    | _ => cases f'
  | _ => cases f
theorem Reps.flats {K : PySem.W.Frag} : ∀ {xs : List PV} {vs : List V}, Reps K ρ H xs vs → xs.all flat = true → vs.all L2.flatV = true
  | [], _, r, _ => by unfold Reps at r; rw [r]; rfl
  | x :: xs, _, r, f => by
    obtain ⟨v, s, rfl, h1, h2⟩ := r.uncons
    simp only [List.all_cons, Bool.and_eq_true] at f ⊢
    exact ⟨h1.flatV f.1, Reps.flats h2 f.2⟩
theorem Reps.inV {K : PySem.W.Frag} {x : PV} {v : V} (r : Rep K ρ H x v) (f : flat x = true) : ∀ {xs : List PV} {vs : List V}, Reps K ρ H xs vs → xs.all flat = true → L2.inV v vs = inSeq x xs
  | [], _, r', _ => by unfold Reps at r'; rw [r']; rfl
  | y :: xs, _, r', f' => by
    obtain ⟨u, s, rfl, h1, h2⟩ := r'.uncons
    simp only [List.all_cons, Bool.and_eq_true] at f'
    unfold L2.inV inSeq
    rw [List.any_cons, List.any_cons, Rep.eqV h1 r f'.1 f]
    have := Reps.inV r f h2 f'.2
    unfold L2.inV inSeq at this
    rw [this]
theorem sd_in : Sd2 G E (rIn G.K false) oIn := fun ρ S H x y v u Q q rx ry h => by
  unfold oIn at h
  split at h
  · rename_i xs hx
    split at h
    · rename_i f
      obtain ⟨a, vs, rfl, h1, h2⟩ := seq_of q ry hx
      refine ⟨a, vs, rfl, h1, rx.flatV f.1, h2.flats f.2, ?_⟩
      rw [if_neg Bool.false_ne_true, Reps.inV rx f.1 h2 f.2]
      exact h.ok q _ Rep.bl
    · exact h.elim
  · exact h.elim
theorem sd_notIn : Sd2 G E (rIn G.K true) oNotIn := fun ρ S H x y v u Q q rx ry h => by
  unfold oNotIn at h
  split at h
  · rename_i xs hx
    split at h
    · rename_i f
      obtain ⟨a, vs, rfl, h1, h2⟩ := seq_of q ry hx
      refine ⟨a, vs, rfl, h1, rx.flatV f.1, h2.flats f.2, ?_⟩
      rw [if_pos rfl, Reps.inV rx f.1 h2 f.2]
      exact h.ok q _ Rep.bl
    · exact h.elim
  · exact h.elim
end
end

/-! MiniW -/
/-! MiniW: walks over a list or a tuple, whichever it is: seq, enumerate, zip. -/
section
open PySem PySem.Spec L2
open PyProof.Rows
/-- a list (false) or a tuple (true) -/
def SqU (K : PySem.W.Frag) (b : Bool) (H : Hp) (a : Addr) (xs : List V) : Prop := match b with
  | true => SqT K H a xs
  | false => SqL K H a xs
def LowU (b : Bool) (h : Heap) (a : Addr) (its : Array Value) : Prop := match b with
  | true => h.IsTuple a its
  | false => h.IsList a its
def IterU (b : Bool) (h : Heap) (it a : Addr) (i : Nat) : Prop := match b with
  | true => h.IsTupleIter it a i
  | false => h.IsListIter it a i
def objU (b : Bool) (a : Addr) : Obj := match b with
  | true => { cls := .type "tuple_iterator", data := .fields #[.ref a, .int 0 0] }
  | false => { cls := .type "list_iterator", data := .fields #[.ref a, .int 0 0] }
section
variable {w : World} {K : PySem.W.Frag} {X : Cx} {pins : List (Addr × Obj)} {σ : L2.St} {H : Hp} {s : Shared} {a it : Addr} {xs ys : List V} {b : Bool} {i : Nat} {h h' : Heap}
theorem readU (I : Inv X pins σ H s) (q : SqU X.K b H a xs) : ∃ its : List Value, Vals xs its ∧ LowU b s.heap a its.toArray := by
  cases b with
  | true => obtain ⟨its, r, p, _⟩ := I.tuple q; exact ⟨its, r, p⟩
  | false => obtain ⟨its, r, p, _⟩ := I.list q; exact ⟨its, r, p.isList⟩
theorem injU (I : Inv X pins σ H s) (q : SqU X.K b H a xs) (q' : SqU X.K b H a ys) : xs = ys := by
  cases b with
  | true => exact I.tuple_inj q q'
  | false => exact I.list_inj q q'
theorem drawsU {prog : Program} {w : World} {A : Around} (hh : A.handled = none) (hne : a ≠ it) (items : Array Value) :
    Draws prog w A it [it, a] items.size (fun i v => items[i]? = some v) (fun i h => IterU b h it a i ∧ LowU b h a items) := by
  cases b with
  | true => exact Draws.tuple hh it a hne items
  | false => exact Draws.list hh it a hne items
theorem beginsU (items : Array Value) : Begins (.ref a) (objU b a) (fun h => LowU b h a items) := by
  cases b with
  | true => exact begins_tuple a items
  | false => exact begins_list a items
theorem iterU0 (e : h.get? it = some (objU b a)) : IterU b h it a 0 := by
  cases b with
  | true => exact ⟨_, e, rfl, rfl⟩
  | false => exact ⟨_, e, rfl, rfl⟩
theorem iterU_at (st : IterU b h it a i) (k : ∀ o, h.get? it = some o → h'.get? it = some o) : IterU b h' it a i := by
  cases b with
  | true => exact Heap.IsTupleIter.at st k
  | false => exact Heap.IsListIter.at st k
/-- an object that is no cell -/
def NoCell (h : Heap) (b : Addr) : Prop := ∃ o, h.get? b = some o ∧ ∀ v, o.data ≠ .cell v
theorem iterU_obj (st : IterU b h it a i) : NoCell h it := by
  cases b with
  | true =>
    obtain ⟨o, e, c, d⟩ := (show h.IsTupleIter it a i from st)
    refine ⟨o, e, fun v z => ?_⟩
    rw [d] at z
    cases z
  | false =>
    obtain ⟨o, e, c, d⟩ := (show h.IsListIter it a i from st)
    refine ⟨o, e, fun v z => ?_⟩
    rw [d] at z
    cases z
theorem lowU_lt {its : Array Value} (q : LowU b h a its) : a < h.objs.size := by
  cases b with
  | true => obtain ⟨o, e, _⟩ := (show h.IsTuple a its from q); exact Heap.lt_size e
  | false => obtain ⟨o, e, _⟩ := (show h.IsList a its from q); exact Heap.lt_size e
theorem apartU {its : Array Value} (h1 : IterU b h it a i) (p : LowU b h a its) : a ≠ it := by
  rintro rfl
  cases b with
  | true =>
    obtain ⟨o2, e2, c2, _⟩ := (show h.IsTuple a its from p)
    obtain ⟨o3, e3, c3, _⟩ := (show h.IsTupleIter a a i from h1)
    cases e2.symm.trans e3
    exact absurd (c2.symm.trans c3) (by decide)
  | false =>
    obtain ⟨o2, e2, c2, _⟩ := (show h.IsList a its from p)
    obtain ⟨o3, e3, c3, _⟩ := (show h.IsListIter a a i from h1)
    cases e2.symm.trans e3
    exact absurd (c2.symm.trans c3) (by decide)
theorem SqU.or (h : SqL K H a xs ∨ SqT K H a xs) : ∃ b, SqU K b H a xs := by
  rcases h with h | h
  · exact ⟨false, h⟩
  · exact ⟨true, h⟩
end
/-! ### for x in a list or a tuple -/
def ItU (K : PySem.W.Frag) (b : Bool) (a : Addr) : L2.It := match b with
  | true => Itt K a
  | false => Itl K a
theorem _root_.L2.PI.or {X : Cx} {tg e : Expr} {t u : TI} (h : PI X tg e t) (h' : PI X tg e u) : PI X tg e (fun σ H R => t σ H R ∨ u σ H R) := ⟨fun pins s σ H R I q => q.elim (h.run pins s σ H R I) (h'.run pins s σ H R I)⟩
/-! ### iterators that hand out new pairs, told anew at each turn -/
/-- what next does at a turn -/
def PairTurn (X : Cx) (tg : Expr) (e : Addr) (own : List Addr) (stand : Nat → Heap → Prop) (J : L2.It) (H : Hp) (i : Nat) (h : Heap) : Prop :=
  ∃ (fp wr : List Addr) (n : Nat) (Y : Nat → Heap → Value → Heap → Prop) (St : Nat → Heap → Prop), GoesN X.prog X.w X.A tg e fp wr n Y St ∧ i < n ∧ St i h ∧ (∀ b ∈ wr, b ∈ own) ∧
    ∀ v h', Y i h v h' → St (i + 1) h' → stand (i + 1) h' ∧ ∃ (T : Addr) (x y : V) (p q : Value), v = .ref T ∧ h.objs.size ≤ T ∧ RelV x p ∧ RelV y q ∧ h'.IsTuple T #[p, q] ∧ (H T = none → J.yld i H (.ref T) (upd H T (.tup [x, y])))
def PairStop (X : Cx) (tg : Expr) (e : Addr) (own : List Addr) (i : Nat) (h : Heap) : Prop :=
  ∃ (fp wr : List Addr) (n : Nat) (Y : Nat → Heap → Value → Heap → Prop) (St : Nat → Heap → Prop), GoesN X.prog X.w X.A tg e fp wr n Y St ∧ i = n ∧ St i h ∧ ∀ b ∈ wr, b ∈ own
theorem turn_pairs {P : Program} {w : World} {K : PySem.W.Frag} {tg : Expr} {J : L2.It} {own : List Addr} {e : Addr} {stand : Nat → Heap → Prop} (mine : e ∈ own)
    (objs : ∀ i h, stand i h → ∀ b ∈ own, NoCell h b)
    (stays : ∀ i h h', stand i h → (∀ b ∈ own, ∀ o, h.get? b = some o → h'.get? b = some o) → stand i h')
    (again : ∀ (A : Around) (i : Nat) (s : Shared) (Q E : Value → Shared → Prop), stand i s.heap → Q (.ref e) s → wpAny (model P w) A (pyIter (.ref e)) Q E s)
    (goes : ∀ (X : Cx) pins s σ H i, X.prog = P → X.w = w → X.K = K → X.calm = true → Inv X pins σ H s → stand i s.heap → J.go i H → PairTurn X tg e own stand J H i s.heap)
    (stops : ∀ (X : Cx) pins s σ H i, X.prog = P → X.w = w → X.K = K → X.calm = true → Inv X pins σ H s → stand i s.heap → J.stop i H → PairStop X tg e own i s.heap) :
    Turn P w K tg J own e stand := by
  refine ⟨mine, objs, stays, ?_, ?_, again⟩
  · intro X eP ew eK calm i pins s σ H E inv free here go
    obtain ⟨fp, wr, n, Y, St, W, lt, at0, sub, told⟩ := goes X pins s σ H i eP ew eK calm inv here go
    subst eP ew
    refine W.goes i s _ E lt at0 fun v h' tk made at1 kept _ => ?_
    obtain ⟨here', T, x, y, p, q, rfl, isnew, rp, rq, tup, gives⟩ := told v h' made at1
    have none0 : H T = none := inv.hok.fresh isnew
    have kept' : ∀ b o, b ∉ own → s.heap.get? b = some o → h'.get? b = some o := fun b o out found => kept b o (fun z => out (sub b z)) found
    have okT : ObjOk X.prog X.w (upd H T (.tup [x, y])) h' T (.tup [x, y]) := ⟨(by decide : 2 ≤ sizeLine), [p, q], .cons rp (.cons rq .nil), tup⟩
    refine ⟨.ref T, upd H T (.tup [x, y]), inv.turnedNew kept' free isnew okT, rfl, gives none0, here', fun b hb => ?_⟩
    obtain ⟨o, found, _⟩ := objs i _ here b hb
    have apart : b ≠ T := Nat.ne_of_lt (Nat.lt_of_lt_of_le (Heap.lt_size found) isnew)
    rw [upd_ne apart]
    exact (free b hb).1
  · intro X eP ew eK calm i pins s σ H E inv free here stop
    obtain ⟨fp, wr, n, Y, St, W, at_end, at0, sub⟩ := stops X pins s σ H i eP ew eK calm inv here stop
    subst eP ew at_end
    exact W.stops s _ E at0 fun h' tk kept _ => inv.turnedL (fun b o out found => kept b o (fun z => out (sub b z)) found) free
/-! ### enumerate -/
def IteU (K : PySem.W.Frag) (b : Bool) (a : Addr) : L2.It :=
  ⟨fun i H => ∃ (xs : List V) (x : V), SqU K b H a xs ∧ xs[i]? = some x, fun i H v H' => ∃ T x, v = .ref T ∧ H T = none ∧ H' = upd H T (.tup [.int (i : Nat), x]) ∧ ∀ xs, SqU K b H a xs → xs[i]? = some x, fun i H => ∃ xs : List V, SqU K b H a xs ∧ xs.length = i⟩
/-- where an enumerate stands -/
def EnumAt (b : Bool) (e it a : Addr) (i : Nat) (h : Heap) : Prop := (∃ old, IsEnum h e it (0 + (i : Int)) old) ∧ IterU b h it a i
theorem got {xs : List V} {its : List Value} (rv : Vals xs its) {i : Nat} {u : Value} (hu : its.toArray[i]? = some u) {x : V} (hx : xs[i]? = some x) : RelV x u := by
  obtain ⟨u', e', r⟩ := rv.get hx
  have e2 : its[i]? = some u := by rw [← List.getElem?_toArray]; exact hu
  cases e'.symm.trans e2
  exact r
theorem turn_enumU {P : Program} {w : World} {K : PySem.W.Frag} {elts : List Expr} {kk : Nat} {tpos : Pos} {b : Bool} (a e it : Addr) (hea : e ≠ a) (hei : e ≠ it) :
    Turn P w K (.Tuple elts kk tpos) (IteU K b a) [e, it] e (EnumAt b e it a) := by
  have apart : e ∉ [it, a] := by
    intro z
    rcases List.mem_cons.mp z with z | z
    · exact hei z
    · exact hea (List.mem_singleton.mp z)
  refine turn_pairs (by simp) ?_ ?_ ?_ ?_ ?_
  · rintro i h ⟨⟨old, he⟩, hi⟩ d hd
    rcases List.mem_cons.mp hd with rfl | hd
    · exact ⟨_, he, fun v => nofun⟩
    · rw [List.mem_singleton.mp hd]
      exact iterU_obj hi
  · rintro i h h' ⟨⟨old, he⟩, hi⟩ k
    exact ⟨⟨old, k e (by simp) _ he⟩, iterU_at hi (k it (by simp))⟩
  · rintro A i s Q E ⟨⟨old, he⟩, _⟩ q
    exact wpAny_pyIter_enum he q
  · rintro X pins s σ H i rfl rfl rfl calm inv ⟨⟨old, he⟩, hi⟩ ⟨xs, x, hq, hx⟩
    obtain ⟨its, rv, low⟩ := readU inv hq
    have D := drawsU (prog := X.prog) (w := X.w) (A := X.A.in1) (b := b) (inv.ok.hd calm) (apartU hi low) its.toArray
    have lt : i < its.toArray.size := by
      rw [List.size_toArray, ← rv.length]
      exact (List.getElem?_eq_some_iff.mp hx).1
    refine ⟨_, _, _, _, _, GoesN.enumFrom 0 D e hei apart (by simp), lt, ⟨⟨old, he⟩, hi, low⟩, by simp, ?_⟩
    rintro v h' ⟨T, t, u, rfl, isnew, hu, tup⟩ ⟨he', hi', _⟩
    refine ⟨⟨he', hi'⟩, T, .int (i : Nat), x, _, u, rfl, isnew, ⟨t, ?_⟩, got rv hu hx, tup, fun none0 => ⟨T, x, rfl, none0, rfl, fun ys hy => ?_⟩⟩
    · rw [Int.zero_add]
    · rw [injU inv hy hq]
      exact hx
  · rintro X pins s σ H i rfl rfl rfl calm inv ⟨⟨old, he⟩, hi⟩ ⟨xs, hq, hx⟩
    obtain ⟨its, rv, low⟩ := readU inv hq
    have D := drawsU (prog := X.prog) (w := X.w) (A := X.A.in1) (b := b) (inv.ok.hd calm) (apartU hi low) its.toArray
    refine ⟨_, _, _, _, _, GoesN.enumFrom 0 D e hei apart (by simp), ?_, ⟨⟨old, he⟩, hi, low⟩, by simp⟩
    rw [List.size_toArray, ← rv.length]
    exact hx.symm
section
variable {prog : Program} {w : World} {A : Around} {E : Value → Shared → Prop} {s : Shared}
/-- the object enumerate(v) makes -/
def enumO (it : Addr) : Obj := { cls := .type "enumerate", data := .fields #[.none, .bool false, .ref it, rawInt 0, .none, .none] }
set_option maxHeartbeats 1500000 in
theorem makes_enum {v : Value} {o : Obj} {H : Heap → Prop} (B : Begins v o H) :
    Meets (Builtin.«enumerate.__new__» ⟨[.type "enumerate", v], []⟩) (fun _ R s => H s.heap ∧ R (.ok (.ret (.ref (s.heap.push o).objs.size))) { s with heap := (s.heap.push o).push (enumO s.heap.objs.size) }) := by
  refine .of_wp fun prog w A R s pre => ?_
  obtain ⟨hp, g, d, tk, os⟩ := s
  have given : H hp := pre.1
  have goal := pre.2
  have hsub := sub_enumerate
  have first : ∀ {A' : Around} {E Q : Value → Shared → Prop}, Q (.ref hp.objs.size) ⟨hp.push o, g, d, tk, os⟩ → wpAny (model prog w) A' (pyIter v) Q E ⟨hp, g, d, tk, os⟩ := fun q => B.iter prog w _ _ _ _ given q
  wp_walk using first
  apply wpAny_stack_any
  intro st
  apply wpAny_pure
  split
  · rename_i c _ _ _ _ _
    cases (c == Value.type "enumerate") <;> wp_walk using first <;> exact ⟨_, rfl, goal⟩
  · wp_walk using first
    exact ⟨_, rfl, goal⟩
/-- enumerate(v): what it is behind its making -/
theorem enum_made {v : Value} {o : Obj} {H : Heap → Prop} {Q : Value → Shared → Prop} (B : Begins v o H) (h1 : H s.heap)
    (told : ∀ h', IsEnum h' (s.heap.objs.size + 1) s.heap.objs.size 0 .none → h'.get? s.heap.objs.size = some o → (∀ b x, s.heap.get? b = some x → h'.get? b = some x) → Q (.ref (s.heap.objs.size + 1)) { s with heap := h' }) :
    wpAny (model prog w) A (call (.type "enumerate") [v]) Q E s := by
  have one : (s.heap.push o).objs.size = s.heap.objs.size + 1 := Heap.size_push ..
  have made : IsEnum ((s.heap.push o).push (enumO s.heap.objs.size)) (s.heap.objs.size + 1) s.heap.objs.size 0 .none := by
    have q := Heap.get?_push_size (s.heap.push o) (o := enumO s.heap.objs.size) rfl
    rw [one] at q
    exact q
  have old : ∀ b x, s.heap.get? b = some x → ((s.heap.push o).push (enumO s.heap.objs.size)).get? b = some x := fun b x q => Heap.get?_push_of_some _ (Heap.get?_push_of_some _ q)
  have inner : ((s.heap.push o).push (enumO s.heap.objs.size)).get? s.heap.objs.size = some o := Heap.get?_push_of_some _ (Heap.get?_push_size _ B.free)
  have done := told _ made inner old
  refine callType_new F.called_enumerate (by decide) (F.typeCall_enumerate_1 v) (F.newCall_enumerate_1 v) (F.args_object_init_2 · v) F.entry_enumerate_new (makes_enum B) ⟨h1, ?_⟩
  rw [one]
  exact ⟨⟨_, made, rfl⟩, done⟩
end
def iEnumU (K : PySem.W.Frag) (ta : TA) : TI := fun σ H R => ta σ H fun vs H1 => ∃ a b xs, vs = [.ref a] ∧ SqU K b H1 a xs ∧ R (IteU K b a) H1
theorem pi_enumU {X : Cx} {e : Expr} {ta : TA} {p pos tpos : Pos} {elts : List Expr} {kk : Nat} (hg : Gl X "enumerate") (hm : X.mg "enumerate" = none) (ha : PA X [e] ta) (hs : starEach [e] X.env = [(false, eval e X.env)] := by rfl) :
    PI X (.Tuple elts kk tpos) (.Call (.Name "enumerate" p) [e] [] pos) (iEnumU X.K ta) := by
  constructor
  intro pins s σ H R inv q
  have args := ha.run pos pins s σ H _ inv q
  refine Call_ (ld_blt inv hg hm boot_enumerate ?_)
  refine callWith_type1 (thn args ?_) hs rfl
  rintro us s1 ⟨vs, H1, inv1, rv, a, b, xs, rfl, hq, told⟩
  match us, rv with
  | [u], .cons r .nil =>
    cases r
    obtain ⟨its, _, low⟩ := readU inv1 hq
    have lt := lowU_lt low
    refine enum_made (beginsU its.toArray) low fun h' made inner old => wpAny_pyIter_enum made ?_
    have free : ∀ c ∈ [s1.heap.objs.size + 1, s1.heap.objs.size], FpOk X pins H1 c := fun c hc => by
      have le : s1.heap.objs.size ≤ c := by
        rcases List.mem_cons.mp hc with rfl | hc
        · exact Nat.le_add_right _ _
        · rw [List.mem_singleton.mp hc]
          exact Nat.le_refl _
      exact inv1.fpOk le (inv1.hok.fresh le)
    have ne1 : s1.heap.objs.size + 1 ≠ a := Nat.ne_of_gt (Nat.lt_succ_of_lt lt)
    have ne2 : s1.heap.objs.size + 1 ≠ s1.heap.objs.size := Nat.succ_ne_self _
    exact ⟨_, _, _, _, H1, rfl, inv1.kept (t' := s1.toks) old, turn_enumU a _ _ ne1 ne2, ⟨⟨.none, made⟩, iterU0 inner⟩, free, told⟩
/-! ### zip of two -/
def ItzU (K : PySem.W.Frag) (b c : Bool) (a1 a2 : Addr) : L2.It :=
  ⟨fun i H => ∃ (xs ys : List V) (x y : V), SqU K b H a1 xs ∧ SqU K c H a2 ys ∧ xs[i]? = some x ∧ ys[i]? = some y,
    fun i H v H' => ∃ T x y, v = .ref T ∧ H T = none ∧ H' = upd H T (.tup [x, y]) ∧ (∀ xs, SqU K b H a1 xs → xs[i]? = some x) ∧ ∀ ys, SqU K c H a2 ys → ys[i]? = some y,
    fun i H => ∃ xs ys : List V, SqU K b H a1 xs ∧ SqU K c H a2 ys ∧ i ≤ xs.length ∧ i ≤ ys.length ∧ (i = xs.length ∨ i = ys.length)⟩
/-- where a zip stands -/
def ZipAt (b c : Bool) (z TI TO i1 a1 i2 a2 : Addr) (i : Nat) (h : Heap) : Prop := IsZip h z TI TO .none ∧ IsTupOf2 h TI (.ref i1) (.ref i2) ∧ (∃ x y, IsTupOf2 h TO x y) ∧ IterU b h i1 a1 i ∧ IterU c h i2 a2 i
theorem turn_zipU {P : Program} {w : World} {K : PySem.W.Frag} {elts : List Expr} {kk : Nat} {tpos : Pos} {b c : Bool} {a1 a2 z TI TO i1 i2 : Addr} (S : ZipSep2 z TI TO i1 i2 [i1, a1] [i2, a2]) :
    Turn P w K (.Tuple elts kk tpos) (ItzU K b c a1 a2) [z, TI, TO, i1, i2] z (ZipAt b c z TI TO i1 a1 i2 a2) := by
  refine turn_pairs (by simp) ?_ ?_ ?_ ?_ ?_
  · rintro i h ⟨hz, hTI, ⟨x, y, hTO⟩, h1, h2⟩ d hd
    simp only [List.mem_cons, List.not_mem_nil, or_false] at hd
    rcases hd with rfl | rfl | rfl | rfl | rfl
    · exact ⟨_, hz, fun v => nofun⟩
    · exact ⟨_, hTI, fun v => nofun⟩
    · exact ⟨_, hTO, fun v => nofun⟩
    · exact iterU_obj h1
    · exact iterU_obj h2
  · rintro i h h' ⟨hz, hTI, ⟨x, y, hTO⟩, h1, h2⟩ k
    exact ⟨k z (by simp) _ hz, k TI (by simp) _ hTI, ⟨x, y, k TO (by simp) _ hTO⟩, iterU_at h1 (k i1 (by simp)), iterU_at h2 (k i2 (by simp))⟩
  · rintro A i s Q E ⟨hz, _⟩ q
    exact wpAny_pyIter_zip hz q
  · rintro X pins s σ H i rfl rfl rfl calm inv ⟨hz, hTI, hTO, h1, h2⟩ ⟨xs, ys, x, y, hqx, hqy, hx, hy⟩
    obtain ⟨its, rv, low⟩ := readU inv hqx
    obtain ⟨its2, rv2, low2⟩ := readU inv hqy
    have D1 := drawsU (prog := X.prog) (w := X.w) (A := X.A.in1) (b := b) (inv.ok.hd calm) (apartU h1 low) its.toArray
    have D2 := drawsU (prog := X.prog) (w := X.w) (A := X.A.in1) (b := c) (inv.ok.hd calm) (apartU h2 low2) its2.toArray
    have lt : i < min its.toArray.size its2.toArray.size := by
      rw [List.size_toArray, List.size_toArray, ← rv.length, ← rv2.length]
      have q1 := (List.getElem?_eq_some_iff.mp hx).1
      have q2 := (List.getElem?_eq_some_iff.mp hy).1
      omega
    refine ⟨_, _, _, _, _, GoesN.zip2 S D1 D2, lt, ⟨hz, hTI, hTO, ⟨h1, low⟩, h2, low2⟩, by simp, ?_⟩
    rintro v h' ⟨T, u, u2, rfl, isnew, hu, hu2, tup⟩ ⟨hz', hTI', hTO', ⟨h1', _⟩, h2', _⟩
    refine ⟨⟨hz', hTI', hTO', h1', h2'⟩, T, x, y, u, u2, rfl, isnew, got rv hu hx, got rv2 hu2 hy, tup, fun none0 => ⟨T, x, y, rfl, none0, rfl, fun l hl => ?_, fun l hl => ?_⟩⟩
    · rw [injU inv hl hqx]
      exact hx
    · rw [injU inv hl hqy]
      exact hy
  · rintro X pins s σ H i rfl rfl rfl calm inv ⟨hz, hTI, hTO, h1, h2⟩ ⟨xs, ys, hqx, hqy, l1, l2, fin⟩
    obtain ⟨its, rv, low⟩ := readU inv hqx
    obtain ⟨its2, rv2, low2⟩ := readU inv hqy
    have D1 := drawsU (prog := X.prog) (w := X.w) (A := X.A.in1) (b := b) (inv.ok.hd calm) (apartU h1 low) its.toArray
    have D2 := drawsU (prog := X.prog) (w := X.w) (A := X.A.in1) (b := c) (inv.ok.hd calm) (apartU h2 low2) its2.toArray
    refine ⟨_, _, _, _, _, GoesN.zip2 S D1 D2, ?_, ⟨hz, hTI, hTO, ⟨h1, low⟩, h2, low2⟩, by simp⟩
    rw [List.size_toArray, List.size_toArray, ← rv.length, ← rv2.length]
    omega
def iZipU (K : PySem.W.Frag) (ta : TA) : TI := fun σ H R => ta σ H fun vs H1 => ∃ a1 a2 b c xs ys, vs = [.ref a1, .ref a2] ∧ SqU K b H1 a1 xs ∧ SqU K c H1 a2 ys ∧ R (ItzU K b c a1 a2) H1
theorem pi_zipU {X : Cx} {e e2 : Expr} {ta : TA} {p pos tpos : Pos} {elts : List Expr} {kk : Nat} (hg : Gl X "zip") (hm : X.mg "zip" = none) (ha : PA X [e, e2] ta)
    (hs : starEach [e, e2] X.env = (false, eval e X.env) :: starEach [e2] X.env := by rfl)
    (hpl : (backTo pos (starEach [e2] X.env)).any (·.1) = false := by rfl) :
    PI X (.Tuple elts kk tpos) (.Call (.Name "zip" p) [e, e2] [] pos) (iZipU X.K ta) := by
  constructor
  intro pins s σ H R inv q
  have args := ha.run pos pins s σ H _ inv q
  refine Call_ (ld_blt inv hg hm boot_zip ?_)
  refine callWith_type1 (thn args ?_) hs hpl
  rintro us s1 ⟨vs, H1, inv1, rv, a1, a2, b, c, xs, ys, rfl, hqx, hqy, told⟩
  match us, rv with
  | [u, u2], .cons r (.cons r2 .nil) =>
    cases r
    cases r2
    obtain ⟨its, _, low⟩ := readU inv1 hqx
    obtain ⟨its2, _, low2⟩ := readU inv1 hqy
    have l1 := lowU_lt low
    have l2 := lowU_lt low2
    refine zip_begins2 (beginsU its.toArray) (beginsU its2.toArray) low low2 fun h' hz hTI hTO h1 h2 _ old => wpAny_pyIter_zip hz ?_
    have free : ∀ d ∈ [s1.heap.objs.size + 4, s1.heap.objs.size + 2, s1.heap.objs.size + 3, s1.heap.objs.size, s1.heap.objs.size + 1], FpOk X pins H1 d := fun d hd => by
      have le : s1.heap.objs.size ≤ d := by
        simp only [List.mem_cons, List.not_mem_nil, or_false] at hd
        omega
      exact inv1.fpOk le (inv1.hok.fresh le)
    have sep := zip_sep2 (N := s1.heap.objs.size) (fp1 := [a1]) (fp2 := [a2]) (fun d hd => by rw [List.mem_singleton.mp hd]; exact l1) (fun d hd => by rw [List.mem_singleton.mp hd]; exact l2)
    exact ⟨_, _, _, _, H1, rfl, inv1.kept (t' := s1.toks) old, turn_zipU sep, ⟨hz, hTI, ⟨_, _, hTO⟩, iterU0 h1, iterU0 h2⟩, free, told⟩
end

/-! Mini4 -/
/-! Mini4: targets, statements, loops, comprehensions. -/
section
open PySem L2
section
variable {G : Gx} {E : XK} {X : Cx}
/-! ### targets -/
/-- the slots at is may have changed -/
def Wp (is : List Nat) (σ σ' : L2.St) : Prop := ∀ vs : List Nat, (∀ i ∈ is, i ∈ vs) → L2.wipe σ' vs = L2.wipe σ vs
def tIG (G : Gx) (E : XK) (is : List Nat) (g : XG) : TG := fun v σ H Q => ∃ ρ S env x, Rel G.w G.K ρ S H ∧ EnvR G.K ρ H env σ ∧ Rep G.K ρ H x v ∧
  Aft G E ρ H (g x env S) (fun ρ' S' H' env' => ∀ σ', EnvR G.K ρ' H' env' σ' → Wp is σ σ' → Q σ' H')
theorem _root_.L2.PG.imp {X : Cx} {e : Expr} {t u : TG} (h : PG X e t) (m : ∀ v σ H Q, u v σ H Q → t v σ H Q) : PG X e u := ⟨fun pins s σ H v w Q I r q => h.run pins s σ H v w Q I r (m v σ H Q q)⟩
theorem wipe_get (σ : L2.St) : ∀ (vs : List Nat) (j : Nat), (L2.wipe σ vs)[j]? = if j ∈ vs then (if j < σ.length then some none else none) else σ[j]?
  | [], j => by simp [L2.wipe]
  | v :: vs, j => by
    show ((L2.wipe σ vs).set v none)[j]? = _
    by_cases e : v = j
    · subst e
      rw [if_pos (by simp)]
      by_cases hv : v < σ.length
      · rw [if_pos hv, List.getElem?_set_self (by rw [wipe_length]; exact hv)]
      · rw [if_neg hv, List.getElem?_eq_none (by rw [List.length_set, wipe_length]; omega)]
    · rw [List.getElem?_set_ne e, wipe_get σ vs j]
      have : (j ∈ v :: vs) ↔ j ∈ vs := by simp [Ne.symm e]
      simp only [this]
theorem wipe_set (σ : L2.St) (i : Nat) (x : Option V) (vs : List Nat) (h : i ∈ vs) : L2.wipe (σ.set i x) vs = L2.wipe σ vs := by
  apply List.ext_getElem?
  intro j
  rw [wipe_get, wipe_get, List.length_set]
  by_cases hj : j ∈ vs
  · rw [if_pos hj, if_pos hj]
  · rw [if_neg hj, if_neg hj, List.getElem?_set_ne (fun e => hj (by rw [← e]; exact h))]
theorem wipe_wipe (σ : L2.St) (vs : List Nat) : L2.wipe (L2.wipe σ vs) vs = L2.wipe σ vs := by
  apply List.ext_getElem?
  intro j
  rw [wipe_get, wipe_length, wipe_get]
  by_cases hj : j ∈ vs
  · rw [if_pos hj, if_pos hj]
  · rw [if_neg hj, if_neg hj]
theorem g_name {i : Nat} {x : Str} {pos : Pos} (hN : X.N.Nodup) (hi : X.N[i]? = some x) (hx : Loc X.env.scope x) (hf : X.fn x = true ∨ X.env.scope.names.lookup x = some .local := by first | exact .inl rfl | exact .inr rfl | assumption) :
    PG X (.Name x pos) (tIG G E [i] (gNm i)) :=
  (pg_name hN hi hx hf).imp fun v σ H Q h => by
    obtain ⟨ρ, S, env, x, hR, hE, hx, h⟩ := h
    exact h.ok hR _ (hE.set i hx) fun vs hv => wipe_set σ i _ vs (hv i (by simp))
/-- several targets -/
def tIGs (G : Gx) (E : XK) (is : List Nat) (gs : List XG) : TGs := fun vs σ H Q => ∃ ρ S env xs, Rel G.w G.K ρ S H ∧ EnvR G.K ρ H env σ ∧ Reps G.K ρ H xs vs ∧ xs.length = gs.length ∧
  Aft G E ρ H (gTp.go gs xs env S) (fun ρ' S' H' env' => ∀ σ', EnvR G.K ρ' H' env' σ' → Wp is σ σ' → Q σ' H')
theorem _root_.L2.PGs.imp {X : Cx} {e : List Expr} {t u : TGs} (h : PGs X e t) (m : ∀ v σ H Q, u v σ H Q → t v σ H Q) : PGs X e u := ⟨fun pins s σ H v w Q I r q => h.run pins s σ H v w Q I r (m v σ H Q q)⟩
theorem gs_nil : PGs X [] (tIGs G E [] []) := pgs_nil.imp fun vs σ H Q h => by
  obtain ⟨ρ, S, env, xs, hR, hE, hx, hl, h⟩ := h
  have : xs = [] := List.eq_nil_of_length_eq_zero hl
  subst this
  unfold Reps at hx
  exact ⟨hx, h.ok hR σ hE fun _ _ => rfl⟩
theorem gs_cons {e : Expr} {es : List Expr} {is js : List Nat} {g : XG} {gs : List XG} (h1 : PG X e (tIG G E is g)) (h2 : PGs X es (tIGs G E js gs))
    (hs : (assignEach (e :: es) X.env).map (·.2) = assign e X.env :: (assignEach es X.env).map (·.2) := by rfl) : PGs X (e :: es) (tIGs G E (is ++ js) (g :: gs)) :=
  (pgs_cons h1 h2 hs).imp fun vs σ H Q h => by
    obtain ⟨ρ, S, env, xs, hR, hE, hx, hl, h⟩ := h
    cases xs with
    | nil => cases hl
    | cons x xs =>
      obtain ⟨v, s, rfl, r1, r2⟩ := hx.uncons
      refine ⟨v, s, rfl, ρ, S, env, x, hR, hE, r1, ?_⟩
      have h : Aft G E ρ H ((g x env S).bind fun env S => gTp.go gs xs env S) (fun ρ' S' H' env' => ∀ σ', EnvR G.K ρ' H' env' σ' → Wp (is ++ js) σ σ' → Q σ' H') := h
      refine h.step fun ρ1 S1 H1 env1 e1 hR1 h1 σ1 hE1 w1 => ?_
      refine ⟨ρ1, S1, env1, xs, hR1, hE1, Reps.ext e1 xs s r2, by simpa using hl, h1.mono fun ρ2 S2 H2 env2 e2 hR2 k σ2 hE2 w2 => k σ2 hE2 fun vs hv => ?_⟩
      rw [w2 vs fun i hi => hv i (List.mem_append_right _ hi), w1 vs fun i hi => hv i (List.mem_append_left _ hi)]
theorem _root_.L2.PG.or {X : Cx} {e : Expr} {t u : TG} (h : PG X e t) (h' : PG X e u) : PG X e (fun v σ H Q => t v σ H Q ∨ u v σ H Q) := ⟨fun pins s σ H v w Q I r q => q.elim (h.run pins s σ H v w Q I r) (h'.run pins s σ H v w Q I r)⟩
theorem g_tup {es : List Expr} {k : Nat} {is : List Nat} {gs : List XG} {pos : Pos} (hc : X.calm = true) (h : PGs X es (tIGs G E is gs)) (hK : X.K = G.K := by rfl) (hl : gs.length = es.length := by rfl)
    (hn : (assignEach es X.env).length = es.length := by rfl) (hst : (assignEach es X.env).findIdx? (·.1) = none := by rfl) : PG X (.Tuple es k pos) (tIG G E is (gTp gs)) :=
  ((pg_tup hc h hn hst).or (pg_unl hc h hn hst)).imp fun v σ H Q h => by
    obtain ⟨ρ, S, env, x, hR, hE, hx, h⟩ := h
    unfold gTp at h
    split at h
    · rename_i xs hxs
      obtain ⟨a, vs, rfl, hs, r1⟩ := seq_of hR hx hxs
      split at h
      · rename_i hlen
        have go : vs.length = es.length := by rw [← r1.length, hlen, hl]
        rcases hs with hs | hs
        · exact .inr ⟨a, vs, rfl, by rw [hK]; exact hs, go, ρ, S, env, xs, hR, hE, r1, hlen, h⟩
        · exact .inl ⟨a, vs, rfl, by rw [hK]; exact hs, go, ρ, S, env, xs, hR, hE, r1, hlen, h⟩
      · exact h.elim
    · exact h.elim
/-! ### statements -/
variable {st : Stmt} {rest : List Stmt} {m n : XS} {e : Expr} {me : XE} {pos : Pos}
theorem s_nil : PSs X [] (tIS G E sNil) := pss_nil.imp fun D σ H h => by
  obtain ⟨ρ, S, env, hR, hE, h⟩ := h
  exact h.ok hR σ hE
theorem s_seq (h1 : PS X st (tIS G E m)) (h2 : PSs X rest (tIS G E n)) : PSs X (st :: rest) (tIS G E (sSeq m n)) :=
  (pss_cons h1 h2).imp fun D σ H h => by
    obtain ⟨ρ, S, env, hR, hE, h⟩ := h
    refine ⟨ρ, S, env, hR, hE, h.step fun ρ1 S1 H1 p e1 hR1 h1 => ?_⟩
    obtain ⟨f, env1⟩ := p
    cases f with
    | nx => exact fun σ1 hE1 => ⟨ρ1, S1, env1, hR1, hE1, h1⟩
    | rt v => exact h1.ok hR1
    | bk => exact h1.ok hR1
    | ct => exact h1.ok hR1
theorem s_one (h1 : PS X st (tIS G E m)) : PSs X [st] (tIS G E m) := pss_one h1
theorem s_asg {tg : Expr} {is : List Nat} {g : XG} (he : PE X e (tI G E me)) (hg : PG X tg (tIG G E is g)) (hs : swapsWithSole [tg] e pos.line X.env = pure false := by rfl) (hw : swappedStores [tg] e X.env = pure none := by rfl)
    (h1 : (assignEach [tg] X.env).map (·.2) = [assign tg X.env] := by rfl) : PS X (.Assign [tg] e pos) (tIS G E (sAsg me g)) :=
  (ps_asg he hg hs hw h1).imp fun D σ H h => by
    obtain ⟨ρ, S, env, hR, hE, h⟩ := h
    refine ⟨ρ, S, env, hR, hE, h.step fun ρ1 S1 H1 x e1 hR1 h1 v rv => ?_⟩
    exact ⟨ρ1, S1, env, x, hR1, hE.ext e1, rv, h1.step fun ρ2 S2 H2 env2 e2 hR2 h2 σ2 hE2 _ => h2.ok hR2 σ2 hE2⟩
theorem s_set {i : Nat} {x : Str} {pos' : Pos} (hN : X.N.Nodup) (hi : X.N[i]? = some x) (hx : Loc X.env.scope x) (he : PE X e (tI G E me)) (hs : swapsWith e (some (.Name x pos')) pos.line X.env = pure false := by rfl) (hf : X.fn x = true ∨ X.env.scope.names.lookup x = some .local := by first | exact .inl rfl | exact .inr rfl | assumption) :
    PS X (.Assign [.Name x pos'] e pos) (tIS G E (sAsg me (gNm i))) :=
  (ps_set hN hi hx he hs hf).imp fun D σ H h => by
    obtain ⟨ρ, S, env, hR, hE, h⟩ := h
    refine ⟨ρ, S, env, hR, hE, h.step fun ρ1 S1 H1 x e1 hR1 h1 v rv => ?_⟩
    exact h1.ok hR1 _ ((hE.ext e1).set i rv)
theorem s_drop (he : PE X e (tI G E me)) (hs : swapsWith e none pos.line X.env = pure false := by rfl) : PS X (.Expr e pos) (tIS G E (sDrop me)) :=
  (ps_expr he hs).imp fun D σ H h => by
    obtain ⟨ρ, S, env, hR, hE, h⟩ := h
    refine ⟨ρ, S, env, hR, hE, h.step fun ρ1 S1 H1 x e1 hR1 h1 v rv => ?_⟩
    exact h1.ok hR1 _ (hE.ext e1)
theorem s_ret (he : PE X e (tI G E me)) : PS X (.Return (some e) pos) (tIS G E (sRet me)) :=
  (ps_ret he).imp fun D σ H h => by
    obtain ⟨ρ, S, env, hR, hE, h⟩ := h
    refine ⟨ρ, S, env, hR, hE, h.step fun ρ1 S1 H1 x e1 hR1 h1 v rv => ?_⟩
    exact h1.ok hR1 _ rv
theorem s_retN : PS X (.Return none pos) (tIS G E sRetN) := ps_retN.imp fun D σ H h => by
  obtain ⟨ρ, S, env, hR, hE, h⟩ := h
  exact h.ok hR _ Rep.non
theorem s_if {c : Expr} {a b : List Stmt} {t : XB} (hc : PT X c (tIB G E t)) (ha : PSs X a (tIS G E m)) (hb : PSs X b (tIS G E n)) : PS X (.If c a b pos) (tIS G E (sIf t m n)) :=
  (ps_if hc ha hb).imp fun D σ H h => by
    obtain ⟨ρ, S, env, hR, hE, h⟩ := h
    refine ⟨ρ, S, env, hR, hE, h.step fun ρ1 S1 H1 k e1 hR1 h1 => ?_⟩
    cases k with
    | true => exact ⟨ρ1, S1, env, hR1, hE.ext e1, h1⟩
    | false => exact ⟨ρ1, S1, env, hR1, hE.ext e1, h1⟩
/-! ### what is walked -/
/-- hidden or not: something that was not there at first -/
def Hd (H0 : Hp) (ρ ρh : Rho) : Prop := ρh = ρ ∨ ∃ D, H0 D = none ∧ ρh = ρ.hide D
structure Src (G : Gx) (J : L2.It) (it : It) (ρ0 : Rho) (H0 : Hp) : Prop where
  go : ∀ ρ ρh S H all i, Ext ρ0 H0 ρ H → Hd H0 ρ ρh → Rel G.w G.K ρh S H → it.items S = some all → i < all.length → J.go i H
  stop : ∀ ρ ρh S H all, Ext ρ0 H0 ρ H → Hd H0 ρ ρh → Rel G.w G.K ρh S H → it.items S = some all → J.stop all.length H
  yld : ∀ ρ ρh S H all i x H', Ext ρ0 H0 ρ H → Hd H0 ρ ρh → Rel G.w G.K ρh S H → it.items S = some all → i < all.length → J.yld i H x H' → Ext ρh H ρh H' ∧ Rel G.w G.K ρh S H' ∧ ∃ y, all[i]? = some y ∧ Rep G.K ρh H' y x
section
variable {w : World} {K : PySem.W.Frag} {ρ0 ρ : Rho} {H0 H : Hp}
theorem outHide {D a : Addr} {o : HO} (e : Ext ρ0 H0 ρ H) (hD : H0 D = none) (h : H0 a = some o) (nt : ∀ ps, o ≠ .tbl ps) (n : ρ0.Out a) : (ρ.hide D).Out a := by
  have q := e.out h nt n
  refine ⟨q.1, fun z => ?_⟩
  rcases List.mem_cons.mp z with z | z
  · rw [z, hD] at h; cases h
  · exact q.2 z
mutual
theorem Rep.extD {D : Addr} (e : Ext ρ0 H0 ρ H) (hD : H0 D = none) : ∀ (x : PV) (v : V), Rep K ρ0 H0 x v → Rep K (ρ.hide D) H x v
  | .non, _, h => by unfold Rep at h ⊢; exact h
  | .bl _, _, h => by unfold Rep at h ⊢; exact h
  | .int _, _, h => by unfold Rep at h ⊢; exact h
  | .str _, _, h => by unfold Rep at h ⊢; exact h
  | .tup xs, v, h => by
    unfold Rep at h ⊢
    obtain ⟨a, vs, rfl, h1, h3⟩ := h
    refine ⟨a, vs, rfl, ?_, Reps.extD e hD xs vs h3⟩
    rcases h1 with ⟨h1, h2⟩ | h1
    · obtain ⟨o, ho, hn0⟩ := Rd.someP h1 .tup
      exact .inl ⟨Rd.ext e h1 .tup h2.1, outHide e hD ho hn0 h2⟩
    · exact .inr h1
  | .ls xs, v, h => by
    unfold Rep at h ⊢
    obtain ⟨a, vs, rfl, ⟨h1, h2⟩, h3⟩ := h
    exact ⟨a, vs, rfl, ⟨e.keep a _ h1 Plain.lst.1 h2.1, outHide e hD h1 Plain.lst.1 h2⟩, Reps.extD e hD xs vs h3⟩
  | .fz xs, v, h => by
    unfold Rep at h ⊢
    obtain ⟨a, vs, rfl, h1, h3⟩ := h
    refine ⟨a, vs, rfl, ?_, Reps.extD e hD xs vs h3⟩
    rcases h1 with ⟨h1, h2⟩ | h1
    · obtain ⟨o, ho, hn0⟩ := Rd.someP h1 .lst
      exact .inl ⟨Rd.ext e h1 .lst h2.1, outHide e hD ho hn0 h2⟩
    · exact .inr h1
  | .dc ks xs, v, h => by
    unfold Rep at h ⊢
    obtain ⟨a, vs, rfl, ⟨h1, h2⟩, hl, hn, h3⟩ := h
    obtain ⟨o, ho, hn0⟩ := Rd.someP h1 .dK
    exact ⟨a, vs, rfl, ⟨Rd.ext e h1 .dK h2.1, outHide e hD ho hn0 h2⟩, hl, hn, Reps.extD e hD xs vs h3⟩
  | .loc l, v, h => by
    have q := Rep.ext e _ _ h
    unfold Rep at q ⊢
    exact q
theorem Reps.extD {D : Addr} (e : Ext ρ0 H0 ρ H) (hD : H0 D = none) : ∀ (xs : List PV) (vs : List V), Reps K ρ0 H0 xs vs → Reps K (ρ.hide D) H xs vs
  | [], _, h => by unfold Reps at h ⊢; exact h
  | x :: r, vs, h => by
    unfold Reps at h ⊢
    obtain ⟨v, s, rfl, h1, h2⟩ := h
    exact ⟨v, s, rfl, Rep.extD e hD x v h1, Reps.extD e hD r s h2⟩
end
theorem Rep.extH {ρh : Rho} (e : Ext ρ0 H0 ρ H) (d : Hd H0 ρ ρh) {x : PV} {v : V} (r : Rep K ρ0 H0 x v) : Rep K ρh H x v := by
  rcases d with rfl | ⟨D, hD, rfl⟩
  · exact Rep.ext e x v r
  · exact Rep.extD e hD x v r
end
def tII (G : Gx) (E : XK) (mi : XI) : TI := fun σ H R => ∃ ρ S env, Rel G.w G.K ρ S H ∧ EnvR G.K ρ H env σ ∧ Aft G E ρ H (mi env S) (fun ρ' S' H' it => (∃ all, it.items S' = some all) ∧ ∀ J, Src G J it ρ' H' → R J H')
theorem _root_.L2.PI.imp {X : Cx} {tg e : Expr} {t u : TI} (h : PI X tg e t) (m : ∀ σ H Q, u σ H Q → t σ H Q) : PI X tg e u := ⟨fun pins s σ H R I q => h.run pins s σ H R I (m σ H R q)⟩
def PV.isTup : PV → Bool
  | .tup _ => true
  | _ => false
def Stay (G : Gx) (x : PV) (a : Addr) (b : Bool) (ρ0 : Rho) (H0 : Hp) : Prop := ∀ ρ ρh S H ys, Ext ρ0 H0 ρ H → Hd H0 ρ ρh → Rel G.w G.K ρh S H → seqOf S x = some ys → ∃ vs, SqU G.K b H a vs ∧ Reps G.K ρh H ys vs
/-- where a value that is a sequence stands, for the time of a walk -/
theorem sqU_stay {ρ0 : Rho} {S0 : Store} {H0 : Hp} (q0 : Rel G.w G.K ρ0 S0 H0) {x : PV} {v : V} {xs : List PV} (r0 : Rep G.K ρ0 H0 x v) (h0 : seqOf S0 x = some xs) :
    ∃ a, v = .ref a ∧ (∃ vs, SqU G.K x.isTup H0 a vs) ∧ Stay G x a x.isTup ρ0 H0 := by
  cases x with
  | tup ys =>
    have r1 := r0
    unfold Rep at r0
    obtain ⟨a, vs, rfl, h1, h2⟩ := r0
    refine ⟨a, rfl, ⟨vs, h1.sq⟩, fun ρ ρh S H zs e hd q h => ?_⟩
    have r2 := Rep.extH e hd r1
    unfold Rep at r2
    obtain ⟨a', vs', e', h1', h2'⟩ := r2
    cases e'
    cases h
    exact ⟨vs', h1'.sq, h2'⟩
  | ls ys =>
    have r1 := r0
    unfold Rep at r0
    obtain ⟨a, vs, rfl, ⟨h1, _⟩, h2⟩ := r0
    refine ⟨a, rfl, ⟨vs, SqL.of h1⟩, fun ρ ρh S H zs e hd q h => ?_⟩
    have r2 := Rep.extH e hd r1
    unfold Rep at r2
    obtain ⟨a', vs', e', ⟨h1', _⟩, h2'⟩ := r2
    cases e'
    cases h
    exact ⟨vs', SqL.of h1', h2'⟩
  | fz ys =>
    have r1 := r0
    unfold Rep at r0
    obtain ⟨a, vs, rfl, h1, h2⟩ := r0
    refine ⟨a, rfl, ⟨vs, h1.sq⟩, fun ρ ρh S H zs e hd q h => ?_⟩
    have r2 := Rep.extH e hd r1
    unfold Rep at r2
    obtain ⟨a', vs', e', h1', h2'⟩ := r2
    cases e'
    cases h
    exact ⟨vs', h1'.sq, h2'⟩
  | loc l =>
    have r1 := r0
    unfold Rep at r0
    obtain ⟨a, h1, rfl⟩ := r0
    obtain ⟨c, hc, ca⟩ := q0.cell h1
    simp only [seqOf, hc] at h0
    cases c with
    | lst zs =>
      obtain ⟨vs, h2, h3⟩ := ca
      refine ⟨a, rfl, ⟨vs, SqL.of h2⟩, fun ρ ρh S H ws e hd q h => ?_⟩
      have r2 := Rep.extH e hd r1
      unfold Rep at r2
      obtain ⟨a', h1', e'⟩ := r2
      cases e'
      obtain ⟨c', hc', ca'⟩ := q.cell h1'
      simp only [seqOf, hc'] at h
      cases c' with
      | lst us =>
        obtain ⟨vs', h2', h3'⟩ := ca'
        cases h
        exact ⟨vs', SqL.of h2', h3'⟩
      | _ => cases h
    | _ => cases h0
  | _ => cases h0
theorem src_seq {ρ0 : Rho} {H0 : Hp} {x : PV} {a : Addr} {b : Bool} (w : Stay G x a b ρ0 H0) : Src G (ItU G.K b a) (.seq x) ρ0 H0 where
  go := fun ρ ρh S H all i e hd q h hi => by
    obtain ⟨vs, h1, h2⟩ := w ρ ρh S H all e hd q h
    have hi' : i < vs.length := by rw [← h2.length]; exact hi
    cases b with
    | true => exact ⟨vs, vs[i], h1, List.getElem?_eq_getElem hi'⟩
    | false => exact ⟨vs, vs[i], h1, List.getElem?_eq_getElem hi'⟩
  stop := fun ρ ρh S H all e hd q h => by
    obtain ⟨vs, h1, h2⟩ := w ρ ρh S H all e hd q h
    cases b with
    | true => exact ⟨vs, h1, Nat.le_of_eq h2.length.symm⟩
    | false => exact ⟨vs, h1, Nat.le_of_eq h2.length.symm⟩
  yld := fun ρ ρh S H all i x H' e hd q h hi y => by
    obtain ⟨vs, h1, h2⟩ := w ρ ρh S H all e hd q h
    cases b with
    | true =>
      obtain ⟨e', y⟩ := y
      subst e'
      obtain ⟨z, h3, h4⟩ := h2.getV (y vs h1)
      exact ⟨Ext.refl _ _, q, z, h3, h4⟩
    | false =>
      obtain ⟨e', y⟩ := y
      subst e'
      obtain ⟨z, h3, h4⟩ := h2.getV (y vs h1)
      exact ⟨Ext.refl _ _, q, z, h3, h4⟩
theorem i_seq {tg l : Expr} {ml : XE} (hl : PE X l (tI G E ml)) (hK : X.K = G.K := by rfl) : PI X tg l (tII G E (iSeq ml)) :=
  ((pi_list hl).or (pi_tup hl)).imp fun σ H R h => by
    obtain ⟨ρ, S, env, hR, hE, h⟩ := h
    unfold iSeq at h
    cases hv : ml env S with
    | bad =>
      rw [hv] at h
      exact h.elim
    | exc e S' =>
      rw [hv] at h
      exact .inl ⟨ρ, S, env, hR, hE, by rw [hv]; exact h⟩
    | ok x S1 =>
      rw [hv] at h
      cases ht : x.isTup with
      | true =>
        refine .inr ⟨ρ, S, env, hR, hE, ?_⟩
        rw [hv]
        intro ρ1 H1 e1 hR1 v rv
        obtain ⟨⟨all, ha⟩, k⟩ := h ρ1 H1 e1 hR1
        obtain ⟨a, rfl, hvs, w⟩ := sqU_stay hR1 rv ha
        rw [ht] at hvs w
        rw [hK]
        exact ⟨a, rfl, hvs, k _ (src_seq w)⟩
      | false =>
        refine .inl ⟨ρ, S, env, hR, hE, ?_⟩
        rw [hv]
        intro ρ1 H1 e1 hR1 v rv
        obtain ⟨⟨all, ha⟩, k⟩ := h ρ1 H1 e1 hR1
        obtain ⟨a, rfl, hvs, w⟩ := sqU_stay hR1 rv ha
        rw [ht] at hvs w
        rw [hK]
        exact ⟨a, rfl, hvs, k _ (src_seq w)⟩
theorem pairs_get {xs ys : List PV} {i : Nat} {x y : PV} (h1 : xs[i]? = some x) (h2 : ys[i]? = some y) : (pairs xs ys)[i]? = some (.tup [x, y]) := by
  unfold pairs
  rw [List.getElem?_map, show (xs.zip ys)[i]? = some (x, y) from List.getElem?_zip_eq_some.mpr ⟨h1, h2⟩]
  rfl
theorem pairs_length {xs ys : List PV} : (pairs xs ys).length = min xs.length ys.length := by
  unfold pairs
  rw [List.length_map, List.length_zip]
theorem upto_get {lo : Int} {n i : Nat} (h : i < n) : (upto lo n)[i]? = some (.int (lo + i)) := by
  unfold upto
  rw [List.getElem?_map, List.getElem?_range h]
  rfl
theorem upto_length {lo : Int} {n : Nat} : (upto lo n).length = n := by
  unfold upto
  rw [List.length_map, List.length_range]
/-- a new pair -/
theorem new_pair {ρ : Rho} {S : Store} {H : Hp} (q : Rel G.w G.K ρ S H) {T : Addr} {x y : PV} {v u : V} (hT : H T = none) (r : Rep G.K ρ H x v) (r' : Rep G.K ρ H y u) :
    Ext ρ H ρ (upd H T (.tup [v, u])) ∧ Rel G.w G.K ρ S (upd H T (.tup [v, u])) ∧ Rep G.K ρ (upd H T (.tup [v, u])) (.tup [x, y]) (.ref T) := by
  refine ⟨Ext.new hT, q.new hT, ?_⟩
  unfold Rep
  exact ⟨T, [v, u], rfl, .inl ⟨.inl upd_same, q.out hT⟩, .cons (Rep.ext (Ext.new hT) x v r) (.cons (Rep.ext (Ext.new hT) y u r') .nil)⟩
theorem src_enum {ρ0 : Rho} {H0 : Hp} {x : PV} {a : Addr} {b : Bool} (w : Stay G x a b ρ0 H0) : Src G (IteU G.K b a) (.enum x) ρ0 H0 := by
  have inv : ∀ {S : Store} {all : List PV}, (It.enum x).items S = some all → ∃ xs, seqOf S x = some xs ∧ all = pairs (upto 0 xs.length) xs ∧ all.length = xs.length := fun {S all} h => by
    unfold It.items at h
    cases e : seqOf S x with
    | none => simp [e] at h
    | some xs =>
      simp [e] at h
      exact ⟨xs, rfl, h.symm, by rw [← h, pairs_length, upto_length, Nat.min_self]⟩
  refine ⟨fun ρ ρh S H all i e hd q h hi => ?_, fun ρ ρh S H all e hd q h => ?_, fun ρ ρh S H all i y H' e hd q h hi yd => ?_⟩
  · obtain ⟨xs, hx, rfl, hl⟩ := inv h
    obtain ⟨vs, h1, h2⟩ := w ρ ρh S H xs e hd q hx
    have hi' : i < vs.length := by rw [← h2.length]; omega
    exact ⟨vs, vs[i], h1, List.getElem?_eq_getElem hi'⟩
  · obtain ⟨xs, hx, rfl, hl⟩ := inv h
    obtain ⟨vs, h1, h2⟩ := w ρ ρh S H xs e hd q hx
    exact ⟨vs, h1, by rw [hl, h2.length]⟩
  · obtain ⟨xs, hx, rfl, hl⟩ := inv h
    obtain ⟨vs, h1, h2⟩ := w ρ ρh S H xs e hd q hx
    obtain ⟨T, v, rfl, hT, rfl, hv⟩ := yd
    obtain ⟨z, h3, h4⟩ := h2.getV (hv vs h1)
    obtain ⟨p1, p2, p3⟩ := new_pair q (x := .int (i : Nat)) (y := z) (v := .int (i : Nat)) (u := v) hT Rep.int h4
    refine ⟨p1, p2, _, ?_, p3⟩
    exact pairs_get (by rw [upto_get (by omega)]; simp) h3
theorem i_enum {e : Expr} {ml : XE} {p pos tpos : Pos} {elts : List Expr} {kk : Nat} (hg : Gl X "enumerate") (hm : X.mg "enumerate" = none) (hl : PE X e (tI G E ml)) (hK : X.K = G.K := by rfl) (hs : starEach [e] X.env = [(false, eval e X.env)] := by rfl) :
    PI X (.Tuple elts kk tpos) (.Call (.Name "enumerate" p) [e] [] pos) (tII G E (iEnum ml)) :=
  (pi_enumU hg hm (pa_cons hl pa_nil hs) hs).imp fun σ H R h => by
    obtain ⟨ρ, S, env, hR, hE, h⟩ := h
    refine ⟨ρ, S, env, hR, hE, h.step fun ρ1 S1 H1 x e1 hR1 h1 v rv => ?_⟩
    obtain ⟨⟨all, ha⟩, k⟩ := h1.ok hR1
    unfold It.items at ha
    cases hx : seqOf S1 x with
    | none => simp [hx] at ha
    | some xs =>
      obtain ⟨a, rfl, ⟨vs, hvs⟩, w⟩ := sqU_stay hR1 rv hx
      rw [hK]
      exact ⟨a, _, vs, rfl, hvs, k _ (src_enum w)⟩
theorem src_zip {ρ0 : Rho} {H0 : Hp} {x y : PV} {a1 a2 : Addr} {b c : Bool} (w : Stay G x a1 b ρ0 H0) (w2 : Stay G y a2 c ρ0 H0) : Src G (ItzU G.K b c a1 a2) (.zip x y) ρ0 H0 := by
  have inv : ∀ {S : Store} {all : List PV}, (It.zip x y).items S = some all → ∃ xs ys, seqOf S x = some xs ∧ seqOf S y = some ys ∧ all = pairs xs ys := fun {S all} h => by
    simp only [It.items] at h
    split at h
    · rename_i xs ys h1 h2
      cases h
      exact ⟨xs, ys, h1, h2, rfl⟩
    · cases h
  refine ⟨fun ρ ρh S H all i e hd q h hi => ?_, fun ρ ρh S H all e hd q h => ?_, fun ρ ρh S H all i z H' e hd q h hi yd => ?_⟩
  · obtain ⟨xs, ys, hx, hy, rfl⟩ := inv h
    obtain ⟨vs, h1, h2⟩ := w ρ ρh S H xs e hd q hx
    obtain ⟨us, h3, h4⟩ := w2 ρ ρh S H ys e hd q hy
    rw [pairs_length] at hi
    have hi1 : i < vs.length := by rw [← h2.length]; omega
    have hi2 : i < us.length := by rw [← h4.length]; omega
    exact ⟨vs, us, vs[i], us[i], h1, h3, List.getElem?_eq_getElem hi1, List.getElem?_eq_getElem hi2⟩
  · obtain ⟨xs, ys, hx, hy, rfl⟩ := inv h
    obtain ⟨vs, h1, h2⟩ := w ρ ρh S H xs e hd q hx
    obtain ⟨us, h3, h4⟩ := w2 ρ ρh S H ys e hd q hy
    rw [pairs_length]
    have l1 := h2.length
    have l2 := h4.length
    exact ⟨vs, us, h1, h3, by omega, by omega, by omega⟩
  · obtain ⟨xs, ys, hx, hy, rfl⟩ := inv h
    obtain ⟨vs, h1, h2⟩ := w ρ ρh S H xs e hd q hx
    obtain ⟨us, h3, h4⟩ := w2 ρ ρh S H ys e hd q hy
    obtain ⟨T, v, u, rfl, hT, rfl, hv, hu⟩ := yd
    obtain ⟨z1, h5, h6⟩ := h2.getV (hv vs h1)
    obtain ⟨z2, h7, h8⟩ := h4.getV (hu us h3)
    obtain ⟨p1, p2, p3⟩ := new_pair q hT h6 h8
    exact ⟨p1, p2, _, pairs_get h5 h7, p3⟩
theorem i_zip {e e2 : Expr} {ml ml2 : XE} {p pos tpos : Pos} {elts : List Expr} {kk : Nat} (hg : Gl X "zip") (hm : X.mg "zip" = none) (hl : PE X e (tI G E ml)) (hl2 : PE X e2 (tI G E ml2)) (hK : X.K = G.K := by rfl)
    (hs : starEach [e, e2] X.env = (false, eval e X.env) :: starEach [e2] X.env := by rfl) (hpl : (backTo pos (starEach [e2] X.env)).any (·.1) = false := by rfl) (hs2 : starEach [e2] X.env = (false, eval e2 X.env) :: starEach [] X.env := by rfl) :
    PI X (.Tuple elts kk tpos) (.Call (.Name "zip" p) [e, e2] [] pos) (tII G E (iZip ml ml2)) :=
  (pi_zipU hg hm (pa_cons hl (pa_cons hl2 pa_nil hs2) hs) hs hpl).imp fun σ H R h => by
    obtain ⟨ρ, S, env, hR, hE, h⟩ := h
    refine ⟨ρ, S, env, hR, hE, h.step fun ρ1 S1 H1 x e1 hR1 h1 v rv => ?_⟩
    refine ⟨ρ1, S1, env, hR1, hE.ext e1, h1.step fun ρ2 S2 H2 y e2 hR2 h2 u ru => ?_⟩
    obtain ⟨⟨all, ha⟩, k⟩ := h2.ok hR2
    simp only [It.items] at ha
    split at ha
    · rename_i xs ys hx hy
      obtain ⟨a, rfl, ⟨vs, hvs⟩, w⟩ := sqU_stay hR2 (Rep.ext e2 x v rv) hx
      obtain ⟨a2, rfl, ⟨us, hus⟩, w2⟩ := sqU_stay hR2 ru hy
      rw [hK]
      exact ⟨a, a2, _, _, vs, us, rfl, hvs, hus, k _ (src_zip w w2)⟩
    · cases ha
theorem src_rng {ρ0 : Rho} {H0 : Hp} {lo : Int} {n : Nat} : Src G (Itr lo n) (.rng lo n) ρ0 H0 := by
  refine ⟨fun ρ ρh S H all i e hd q h hi => ?_, fun ρ ρh S H all e hd q h => ?_, fun ρ ρh S H all i y H' e hd q h hi yd => ?_⟩
  · cases h
    rw [upto_length] at hi
    exact hi
  · cases h
    rw [upto_length]
    exact Nat.le_refl n
  · cases h
    rw [upto_length] at hi
    obtain ⟨rfl, rfl⟩ := yd
    exact ⟨Ext.refl _ _, q, _, upto_get hi, Rep.int⟩
theorem i_rng {a : Expr} {ma : XE} {tg : Expr} {p pos : Pos} (hg : Gl X "range") (hm : X.mg "range" = none) (ha : PE X a (tI G E ma)) (hs : starEach [a] X.env = [(false, eval a X.env)] := by rfl) : PI X tg (.Call (.Name "range" p) [a] [] pos) (tII G E (iRng ma)) :=
  (pi_range1 hg hm (pa_cons ha pa_nil hs) hs).imp fun σ H R h => by
    obtain ⟨ρ, S, env, hR, hE, h⟩ := h
    refine ⟨ρ, S, env, hR, hE, h.step fun ρ1 S1 H1 x e1 hR1 h1 v rv => ?_⟩
    cases x with
    | int j =>
      rw [rv.int_of]
      simp only at h1
      split at h1
      · rename_i hl
        obtain ⟨_, k⟩ := h1.ok hR1
        have : (lim : Int) < 2 ^ 62 := by decide
        exact ⟨j, rfl, by omega, by omega, k _ src_rng⟩
      · exact h1.elim
    | _ => exact h1.elim
theorem src_rev {ρ0 : Rho} {H0 : Hp} {x : PV} {a : Addr} {n : Nat} (w : ∀ ρ ρh S H ys, Ext ρ0 H0 ρ H → Hd H0 ρ ρh → Rel G.w G.K ρh S H → lsOf x = some ys → ys.length = n ∧ ∃ vs, SqL G.K H a vs ∧ Reps G.K ρh H ys vs) : Src G (Itv G.K a n) (.rev x) ρ0 H0 := by
  have inv : ∀ {S : Store} {all : List PV}, (It.rev x).items S = some all → ∃ xs, lsOf x = some xs ∧ all = xs.reverse := fun {S all} h => by
    simp only [It.items] at h
    cases e : lsOf x with
    | none => simp [e] at h
    | some xs =>
      simp [e] at h
      exact ⟨xs, rfl, h.symm⟩
  refine ⟨fun ρ ρh S H all i e hd q h hi => ?_, fun ρ ρh S H all e hd q h => ?_, fun ρ ρh S H all i y H' e hd q h hi yd => ?_⟩
  · obtain ⟨xs, hx, rfl⟩ := inv h
    obtain ⟨hn, vs, h1, h2⟩ := w ρ ρh S H xs e hd q hx
    rw [List.length_reverse] at hi
    have hl := h2.length
    exact ⟨by omega, vs, vs[n - 1 - i], h1, List.getElem?_eq_getElem (by omega)⟩
  · obtain ⟨xs, hx, rfl⟩ := inv h
    obtain ⟨hn, vs, h1, h2⟩ := w ρ ρh S H xs e hd q hx
    rw [List.length_reverse]
    exact Nat.le_of_eq hn.symm
  · obtain ⟨xs, hx, rfl⟩ := inv h
    obtain ⟨hn, vs, h1, h2⟩ := w ρ ρh S H xs e hd q hx
    rw [List.length_reverse] at hi
    obtain ⟨rfl, yd⟩ := yd
    obtain ⟨z, h3, h4⟩ := h2.getV (yd vs h1)
    refine ⟨Ext.refl _ _, q, z, ?_, h4⟩
    rw [List.getElem?_reverse hi, hn]
    exact h3
/-! ### for, while -/
variable {iter tg : Expr} {mi : XI} {is : List Nat} {g : XG} {body : List Stmt} {mb : XS} {c : Expr} {mc : XB}
theorem s_for (hp : PassesOwn (model X.prog X.w) X.A X.env X.xe) (hc : X.calm = true) (hi : PI X tg iter (tII G E mi)) (hg : PG X tg (tIG G E is g)) (hb : PSs X body (tIS G E mb))
    (hs : ∀ x, foldedSetIterable iter X.env x = pure x := by intro _; rfl) : PS X (.For tg iter body [] pos) (tIS G E (sFor mi g mb)) :=
  (ps_for hp hc hi hg hb hs).imp fun D σ H h => by
    obtain ⟨ρ, S, env, hR, hE, h⟩ := h
    refine ⟨ρ, S, env, hR, hE, h.step fun ρ1 S1 H1 it e1 hR1 h1 => ?_⟩
    cases ha : it.items S1 with
    | none => simp only [ha] at h1; exact h1.elim
    | some all =>
      simp only [ha] at h1
      refine ⟨⟨all, rfl⟩, fun J src => ?_⟩
      refine ⟨fun i m σ H => ∃ ρ S env, Ext ρ1 H1 ρ H ∧ Rel G.w G.K ρ S H ∧ EnvR G.K ρ H env σ ∧ m = all.length - i ∧ i ≤ all.length ∧ Aft G E ρ H (forGo it all g mb (all.drop i) env S) (kS G D),
        ⟨all.length, ρ1, S1, env, Ext.refl _ _, hR1, hE.ext e1, by simp, Nat.zero_le _, h1⟩, ?_⟩
      rintro i m σ2 H2 ⟨ρ2, S2, env2, e2, hR2, hE2, rfl, hi2, h2⟩
      by_cases hlt : i < all.length
      · have hd : all.drop i = all[i] :: all.drop (i + 1) := List.drop_eq_getElem_cons hlt
        rw [hd] at h2
        unfold forGo at h2
        split at h2
        · rename_i hit
          refine .inr ⟨src.go ρ2 ρ2 S2 H2 all i e2 (.inl rfl) hR2 hit hlt, fun σ' H' => ∃ ρ S env, Ext ρ1 H1 ρ H' ∧ Rel G.w G.K ρ S H' ∧ EnvR G.K ρ H' env σ' ∧ Aft G E ρ H' (forGo it all g mb (all.drop (i + 1)) env S) (kS G D), ?_, ?_⟩
          · rintro σ' H' ⟨ρ3, S3, env3, e3, hR3, hE3, h3⟩
            exact ⟨all.length - (i + 1), by omega, ρ3, S3, env3, e3, hR3, hE3, rfl, hlt, h3⟩
          · intro x H' yd
            obtain ⟨e3, hR3, y, hy, ry⟩ := src.yld ρ2 ρ2 S2 H2 all i x H' e2 (.inl rfl) hR2 hit hlt yd
            rw [List.getElem?_eq_getElem hlt] at hy
            cases hy
            refine ⟨ρ2, S2, env2, all[i], hR3, hE2.ext e3, ry, (h2.shift e3).step fun ρ4 S4 H4 env4 e4 hR4 h4 σ4 hE4 _ => ?_⟩
            refine ⟨ρ4, S4, env4, hR4, hE4, h4.step fun ρ5 S5 H5 p e5 hR5 h5 => ?_⟩
            have e15 : Ext ρ1 H1 ρ5 H5 := ((e2.trans e3).trans e4).trans e5
            obtain ⟨f, env5⟩ := p
            cases f with
            | nx => exact fun σ5 hE5 => ⟨ρ5, S5, env5, e15, hR5, hE5, h5⟩
            | ct => exact fun σ5 hE5 => ⟨ρ5, S5, env5, e15, hR5, hE5, h5⟩
            | bk => exact fun σ5 hE5 => h5.ok hR5 σ5 hE5
            | rt v => exact fun u ru => h5.ok hR5 u ru
        · exact h2.elim
      · have e : i = all.length := by omega
        subst e
        rw [List.drop_length] at h2
        unfold forGo at h2
        split at h2
        · rename_i hit
          exact .inl ⟨src.stop ρ2 ρ2 S2 H2 all e2 (.inl rfl) hR2 hit, h2.ok hR2 σ2 hE2⟩
        · exact h2.elim
/-! ### comprehensions -/
def E0 : XK := fun _ _ _ => False
theorem Ext.ofHide {ρ ρ' : Rho} {H H' : Hp} {D : Addr} (e : Ext (ρ.hide D) H ρ' H') : ∃ ρ2 : Rho, ρ' = ρ2.hide D ∧ Ext ρ H ρ2 H' := by
  obtain ⟨lb, hid⟩ := ρ'
  have h : hid = D :: ρ.hid := e.hid
  exact ⟨⟨lb, ρ.hid⟩, by rw [h]; rfl, e.more, rfl, e.keep, e.dom, e.fz⟩
/-- what is new since H1 may change -/
theorem Ext.wr {ρ ρ' : Rho} {H H' : Hp} {D : Addr} {o : HO} (e : Ext ρ H ρ' H') (h : H D = none) : Ext ρ H ρ' (upd H' D o) := ⟨e.more, e.hid, fun a u ha nt n => by
  rw [upd_ne (ne_of_none ha h)]
  exact e.keep a u ha nt n, fun a ha => by
  by_cases x : a = D
  · rw [x]; exact .of h
  · exact e.dom a fun o q => ha o (by rw [upd_ne x]; exact q), fun a od u ha => by rw [upd_ne (ne_of_none ha h)]; exact e.fz a od u ha⟩
/-- what is made of a comprehension's items -/
def Fin (G : Gx) (E : XK) (fin : List PV → Store → R PV) (Q : VK) : Prop := ∀ ρ1 H1 ρ S1 S H D acc vs, H1 D = none → Rel G.w G.K ρ1 S1 H1 → Ext ρ1 H1 ρ H → Rel G.w G.K (ρ.hide D) S H → H D = some (.lst vs) → D ∉ ρ.lb → Reps G.K (ρ.hide D) H acc vs →
  Aft G E ρ1 H1 (fin acc S) (kV G Q) → Q (.ref D) H
theorem fin_ls {Q : VK} : Fin G E (fun xs S => R.ok (PV.ls xs) S) Q := by
  intro ρ1 H1 ρ2 S1 S2 H2 D acc vs hD hR1 e2 hR2 hD2 nD ra h2
  refine h2 ρ2 H2 e2 hR2.unhide _ ?_
  unfold Rep
  refine ⟨D, vs, rfl, ⟨hD2, nD, fun z => ?_⟩, Reps.unhide _ _ ra⟩
  rw [e2.hid] at z
  obtain ⟨⟨o, ho, _⟩, _⟩ := hR1.hd D z
  rw [hD] at ho; cases ho
theorem lc_readF {wi : TI} {tt : TT} {te : TE} {tg' : TG} {own : List Nat} {mt : XB} {me : XE} {fin : List PV → Store → R PV} {σ : L2.St} {H : Hp} {Q : VK} (hfin : Fin G E fin Q) (hw : ∀ σ H R, tII G E mi σ H R → wi σ H R) (hg : ∀ v σ H Q, tIG G E0 is g v σ H Q → tg' v σ H Q) (ht : ∀ σ H Q, tIB G E0 mt σ H Q → tt σ H Q) (he : ∀ σ H Q, tI G E0 me σ H Q → te σ H Q) (hown : ∀ i ∈ is, i ∈ own)
    (h : tI G E (fun env S => (xLc mi g mt me own env S).bind fin) σ H Q) : tLc wi tg' tt te own σ H Q := by
  obtain ⟨ρ, S, env, hR, hE, h⟩ := h
  have h : Aft G E ρ H ((mi env S).bind fun it S1 => ((match it.items S1 with | some all => lcGo it all g mt me (wipeE env own) all [] S1 | none => R.bad).bind fin)) (kV G Q) := by
    have e : ((xLc mi g mt me own env S).bind fin) = ((mi env S).bind fun it S1 => ((match it.items S1 with | some all => lcGo it all g mt me (wipeE env own) all [] S1 | none => R.bad).bind fin)) := by
      unfold xLc
      cases mi env S <;> rfl
    rw [← e]
    exact h
  refine hw _ _ _ ⟨ρ, S, env, hR, hE, h.step fun ρ1 S1 H1 it e1 hR1 h1 => ?_⟩
  cases ha : it.items S1 with
  | none => simp only [ha] at h1; exact h1.elim
  | some all =>
    simp only [ha] at h1
    refine ⟨⟨all, rfl⟩, fun J src => ?_⟩
    intro D hD
    refine ⟨fun i m H => ∃ ρ S acc vs, Ext ρ1 H1 ρ H ∧ Rel G.w G.K (ρ.hide D) S H ∧ H D = some (.lst vs) ∧ Reps G.K (ρ.hide D) H acc vs ∧ EnvR G.K (ρ.hide D) H (wipeE env own) (L2.wipe σ own) ∧ m = all.length - i ∧ i ≤ all.length ∧
      Aft G E ρ1 H1 ((lcGo it all g mt me (wipeE env own) (all.drop i) acc S).bind fin) (kV G Q), ?_, ?_⟩
    · refine ⟨all.length, ρ1, S1, [], [], Ext.new hD, hR1.hide hD, upd_same, Reps.nil, ?_, by simp, Nat.zero_le _, h1⟩
      have q := (hE.ext e1).wipe own
      exact ⟨q.len, fun i x hx => by
        obtain ⟨v, h2, h3⟩ := q.at_ i x hx
        exact ⟨v, h2, Rep.hide hD x v h3⟩⟩
    · rintro i m H2 ⟨ρ2, S2, acc, vs, e2, hR2, hD2, ra, hE2, rfl, hi2, h2⟩
      have hl := ra.length
      by_cases hlt : i < all.length
      · have hd : all.drop i = all[i] :: all.drop (i + 1) := List.drop_eq_getElem_cons hlt
        rw [hd] at h2
        unfold lcGo at h2
        split at h2
        · rename_i hit
          refine .inr ⟨src.go ρ2 (ρ2.hide D) S2 H2 all i e2 (.inr ⟨D, hD, rfl⟩) hR2 hit hlt, fun H' => ∃ ρ S acc vs, Ext ρ1 H1 ρ H' ∧ Rel G.w G.K (ρ.hide D) S H' ∧ H' D = some (.lst vs) ∧ Reps G.K (ρ.hide D) H' acc vs ∧ EnvR G.K (ρ.hide D) H' (wipeE env own) (L2.wipe σ own) ∧
            Aft G E ρ1 H1 ((lcGo it all g mt me (wipeE env own) (all.drop (i + 1)) acc S).bind fin) (kV G Q), ?_, ?_⟩
          · rintro H' ⟨ρ3, S3, acc3, vs3, e3, hR3, hD3, ra3, hE3, h3⟩
            exact ⟨all.length - (i + 1), by omega, ρ3, S3, acc3, vs3, e3, hR3, hD3, ra3, hE3, rfl, hlt, h3⟩
          · intro x H' yd
            obtain ⟨e3, hR3, y, hy, ry⟩ := src.yld ρ2 (ρ2.hide D) S2 H2 all i x H' e2 (.inr ⟨D, hD, rfl⟩) hR2 hit hlt yd
            rw [List.getElem?_eq_getElem hlt] at hy
            cases hy
            cases hg1 : g all[i] (wipeE env own) S2 with
            | exc _ _ => simp only [hg1] at h2; exact h2.elim
            | bad => simp only [hg1] at h2; exact h2.elim
            | ok env4 S4 =>
              simp only [hg1, R.nox_ok, R.bind_ok] at h2
              refine hg _ _ _ _ ⟨ρ2.hide D, S2, wipeE env own, all[i], hR3, hE2.ext e3, ry, ?_⟩
              rw [hg1]
              intro ρ4' H4 e4 hR4 σ4 hE4 w4
              obtain ⟨ρ4, rfl, f4⟩ := e4.ofHide
              refine ⟨(w4 own hown).trans (wipe_wipe σ own), ht _ _ _ ⟨ρ4.hide D, S4, env4, hR4, hE4, ?_⟩⟩
              cases ht1 : mt env4 S4 with
              | exc _ _ => simp only [ht1] at h2; exact h2.elim
              | bad => simp only [ht1] at h2; exact h2.elim
              | ok k S5 =>
                simp only [ht1, R.nox_ok, R.bind_ok] at h2
                intro ρ5' H5 e5 hR5
                obtain ⟨ρ5, rfl, f5⟩ := e5.ofHide
                have e35 : Ext (ρ2.hide D) H2 (ρ5.hide D) H5 := (e3.trans e4).trans e5
                obtain ⟨_, q5, f35⟩ := e35.ofHide
                cases k with
                | true =>
                  show te σ4 H5 _
                  simp only [if_true] at h2
                  cases he1 : me env4 S5 with
                  | exc _ _ => simp only [he1] at h2; exact h2.elim
                  | bad => simp only [he1] at h2; exact h2.elim
                  | ok z S6 =>
                    simp only [he1, R.nox_ok, R.bind_ok] at h2
                    refine he _ _ _ ⟨ρ5.hide D, S5, env4, hR5, hE4.ext e5, ?_⟩
                    rw [he1]
                    intro ρ6' H6 e6 hR6 u ru
                    obtain ⟨ρ6, rfl, f6⟩ := e6.ofHide
                    have e26 : Ext (ρ2.hide D) H2 (ρ6.hide D) H6 := e35.trans e6
                    have nD : D ∉ ρ2.lb := (hR2.hd D (List.mem_cons_self ..)).2
                    have hD6 : H6 D = some (.lst vs) := e26.keep D _ hD2 Plain.lst.1 nD
                    by_cases hlim : acc.length < lim
                    · rw [if_pos hlim] at h2
                      have mD : D ∈ (ρ6.hide D).hid := List.mem_cons_self ..
                      have e16 : Ext ρ1 H1 ρ6 H6 := by
                        refine ⟨?_, ?_, fun a o ha nt n => ?_, fun a ha => e2.dom a (e26.dom a ha), fun a od u ha => e26.fz a od u (e2.fz a od u ha)⟩
                        · exact (e2.trans (⟨e26.more, by have := e26.hid; simpa [Rho.hide] using this, e26.keep, e26.dom, e26.fz⟩ : Ext ρ2 H2 ρ6 H6)).more
                        · exact (e2.trans (⟨e26.more, by have := e26.hid; simpa [Rho.hide] using this, e26.keep, e26.dom, e26.fz⟩ : Ext ρ2 H2 ρ6 H6)).hid
                        · exact (e2.trans (⟨e26.more, by have := e26.hid; simpa [Rho.hide] using this, e26.keep, e26.dom, e26.fz⟩ : Ext ρ2 H2 ρ6 H6)).keep a o ha nt n
                      refine ⟨vs, hD6, by rw [← hl]; exact lim_lt hlim, ρ6, S6, acc ++ [z], vs ++ [u], e16.wr hD, hR6.hw mD, upd_same, ?_, ?_, h2⟩
                      · exact Reps.hw mD _ _ ((Reps.ext e26 _ _ ra).append (.cons ru .nil))
                      · have q := hE2.ext e26
                        exact ⟨q.len, fun i x hx => by
                          obtain ⟨v, h3, h4⟩ := q.at_ i x hx
                          exact ⟨v, h3, Rep.hw mD x v h4⟩⟩
                    · rw [if_neg hlim] at h2
                      exact h2.elim
                | false =>
                  simp only [Bool.false_eq_true, if_false] at h2
                  have nD : D ∉ ρ2.lb := (hR2.hd D (List.mem_cons_self ..)).2
                  exact ⟨ρ5, S5, acc, vs, e2.trans (⟨e35.more, by have := e35.hid; simpa [Rho.hide] using this, e35.keep, e35.dom, e35.fz⟩ : Ext ρ2 H2 ρ5 H5), hR5, e35.keep D _ hD2 Plain.lst.1 nD, Reps.ext e35 _ _ ra, hE2.ext e35, h2⟩
        · exact h2.elim
      · have e : i = all.length := by omega
        subst e
        rw [List.drop_length] at h2
        unfold lcGo at h2
        split at h2
        · rename_i hit
          have nD : D ∉ ρ2.lb := (hR2.hd D (List.mem_cons_self ..)).2
          refine .inl ⟨src.stop ρ2 (ρ2.hide D) S2 H2 all e2 (.inr ⟨D, hD, rfl⟩) hR2 hit, ?_⟩
          exact hfin ρ1 H1 ρ2 S1 S2 H2 D acc vs hD hR1 e2 hR2 hD2 nD ra h2
        · exact h2.elim
theorem lc_read {wi : TI} {tt : TT} {te : TE} {tg' : TG} {own : List Nat} {mt : XB} {me : XE} {σ : L2.St} {H : Hp} {Q : VK} (hw : ∀ σ H R, tII G E mi σ H R → wi σ H R) (hg : ∀ v σ H Q, tIG G E0 is g v σ H Q → tg' v σ H Q) (ht : ∀ σ H Q, tIB G E0 mt σ H Q → tt σ H Q) (he : ∀ σ H Q, tI G E0 me σ H Q → te σ H Q) (hown : ∀ i ∈ is, i ∈ own)
    (h : tI G E (eLc mi g mt me own) σ H Q) : tLc wi tg' tt te own σ H Q := lc_readF fin_ls hw hg ht he hown h
theorem _root_.L2.PTs.imp {X : Cx} {e : List Expr} {t u : TT} (h : PTs X e t) (m : ∀ σ H Q, u σ H Q → t σ H Q) : PTs X e u := ⟨fun pins s σ H Q I q => h.run pins s σ H Q I (m σ H Q q)⟩
theorem ts_nil : PTs X [] (tIB G E bYes) := pts_nil.imp fun σ H Q h => by
  obtain ⟨ρ, S, env, hR, hE, h⟩ := h
  exact h.ok hR
theorem ts_one {c : Expr} {t : XB} (h : PT X c (tIB G E t)) : PTs X [c] (tIB G E t) := pts_one h
theorem i_lc {elt tg iter : Expr} {ifs : List Expr} {scope : Scope} {own : List (Str × Nat)} {pos : Pos} {mt : XB} {me : XE} (hc : X.calm = true) (hN : X.N.Nodup) (hi : PI X tg iter (tII G E mi)) (ok : BlkOk X.N X.env.scope scope own)
    (hg : ∀ (s : Shared) (H : Hp) (C : Addr) (cl : List (Str × Addr)) (fp : List Addr), PG (X.blk s H scope (compEnvC scope cl C X.env) fp) tg (tIG G E0 is g)) (ht : ∀ (s : Shared) (H : Hp) (C : Addr) (cl : List (Str × Addr)) (fp : List Addr), PTs (X.blk s H scope (compEnvC scope cl C X.env) fp) ifs (tIB G E0 mt))
    (he : ∀ (s : Shared) (H : Hp) (C : Addr) (cl : List (Str × Addr)) (fp : List Addr), PE (X.blk s H scope (compEnvC scope cl C X.env) fp) elt (tI G E0 me)) (hown : ∀ i ∈ is, i ∈ own.map (·.2) := by decide) (hs : ∀ x, foldedSetIterable iter X.env x = pure x := by intro _; rfl) :
    PE X (.ListComp elt [⟨tg, iter, ifs, 0⟩] scope pos) (tI G E (eLc mi g mt me (own.map (·.2)))) :=
  (pe_lc hc hN hi ok hg ht he hs).imp fun σ H Q h => lc_read (fun _ _ _ q => q) (fun _ _ _ _ q => q) (fun _ _ _ q => q) (fun _ _ _ q => q) hown h
/-- name = [..] on one line, the name a local -/
theorem s_setLc {i : Nat} {y : Str} {py : Pos} {elt tg iter : Expr} {ifs : List Expr} {scope : Scope} {own : List (Str × Nat)} {pos spos : Pos} {mt : XB} {me : XE} (hc : X.calm = true) (hN : X.N.Nodup) (hy : X.N[i]? = some y) (hyl : X.env.scope.names.lookup y = some .local)
    (hsw : swapsWith (.ListComp elt [⟨tg, iter, ifs, 0⟩] scope pos) (some (.Name y py)) spos.line X.env = pure true) (hi : PI X tg iter (tII G E mi)) (ok : BlkOk X.N X.env.scope scope own)
    (hg : ∀ (s : Shared) (H : Hp) (C : Addr) (cl : List (Str × Addr)) (fp : List Addr), PG (X.blk s H scope (compEnvC scope cl C X.env) fp) tg (tIG G E0 is g)) (ht : ∀ (s : Shared) (H : Hp) (C : Addr) (cl : List (Str × Addr)) (fp : List Addr), PTs (X.blk s H scope (compEnvC scope cl C X.env) fp) ifs (tIB G E0 mt))
    (he : ∀ (s : Shared) (H : Hp) (C : Addr) (cl : List (Str × Addr)) (fp : List Addr), PE (X.blk s H scope (compEnvC scope cl C X.env) fp) elt (tI G E0 me)) (hown : ∀ i ∈ is, i ∈ own.map (·.2) := by decide) (hs : ∀ x, foldedSetIterable iter X.env x = pure x := by intro _; rfl) :
    PS X (.Assign [.Name y py] (.ListComp elt [⟨tg, iter, ifs, 0⟩] scope pos) spos) (tIS G E (sAsg (eLc mi g mt me (own.map (·.2))) (gNm i))) :=
  (ps_setLc hc hN hy hyl hsw hi ok hg ht he hs).imp fun D σ H h => by
    obtain ⟨ρ, S, env, hR, hE, h⟩ := h
    refine lc_read (Q := fun x H1 => gName i x σ H1 D.nx) (fun _ _ _ q => q) (fun _ _ _ _ q => q) (fun _ _ _ q => q) (fun _ _ _ q => q) hown ⟨ρ, S, env, hR, hE, h.step fun ρ1 S1 H1 x e1 hR1 h1 v rv => ?_⟩
    exact h1.ok hR1 _ ((hE.ext e1).set i rv)
end
end

/-! Mini5 -/
/-! Mini5: subscripts, displays, what is built in, stores, attributes. -/
section
open PySem L2
section
variable {w : World} {K : PySem.W.Frag} {ρ : Rho} {H : Hp}
theorem Reps.atI {xs : List PV} {vs : List V} (r : Reps K ρ H xs vs) {i : Int} {x : PV} (h : L2.atI xs i = some x) : ∃ v, L2.atI vs i = some v ∧ Rep K ρ H x v := by
  unfold L2.atI at h ⊢
  rw [← r.length]
  cases e : ixN xs.length i with
  | none => rw [e] at h; cases h
  | some j =>
    rw [e] at h
    exact r.get h
theorem keysV_look : ∀ {ks : List Str} {xs : List PV} {vs : List V}, Reps K ρ H xs vs → ks.length = xs.length → ∀ k, match lookS ks xs k with
    | some x => ∃ v, valV (keysV ks vs) (.inr k) = some v ∧ Rep K ρ H x v
    | none => valV (keysV ks vs) (.inr k) = none
  | [], [], _, r, _, k => by unfold Reps at r; subst r; rfl
  | k0 :: ks, x0 :: xs, _, r, hl, k => by
    obtain ⟨v, s, rfl, h1, h2⟩ := r.uncons
    have ih := keysV_look h2 (by simpa using hl) k
    have e : keysV (k0 :: ks) (v :: s) = (.inr k0, v) :: keysV ks s := rfl
    unfold lookS
    by_cases hk : k0 = k
    · subst hk
      rw [if_pos rfl, e]
      exact ⟨v, valV_pos rfl, h1⟩
    · rw [if_neg hk, e, valV_neg (fun z => hk (Sum.inr.inj z))]
      exact ih
  | [], _ :: _, _, _, hl, _ => by simp at hl
  | _ :: _, [], _, _, hl, _ => by simp at hl
theorem dks_of {S : Store} (q : Rel w K ρ S H) {x : PV} {v : V} {ks : List Str} {xs : List PV} (r : Rep K ρ H x v) (h : dksOf S x = some (ks, xs)) : ∃ a vs, v = .ref a ∧ Rd H a (.dK (keysV ks vs)) ∧ ks.length = xs.length ∧ Reps K ρ H xs vs := by
  cases x with
  | dc ks' ys =>
    unfold Rep at r
    obtain ⟨a, vs, rfl, ⟨h1, _⟩, hl, _, h2⟩ := r
    cases h
    exact ⟨a, vs, rfl, h1, hl, h2⟩
  | loc l =>
    unfold Rep at r
    obtain ⟨a, h1, rfl⟩ := r
    obtain ⟨c, hc, ca⟩ := q.cell h1
    simp only [dksOf, hc] at h
    cases c with
    | dks ks' ys =>
      cases h
      obtain ⟨vs, h1, hl, _, h2⟩ := ca
      exact ⟨a, vs, rfl, .inl h1, hl, h2⟩
    | _ => cases h
  | _ => cases h
end
section
variable {G : Gx} {E : XK} {X : Cx} {a b c e o i : Expr} {ma mb mc me mo mi : XE} {pos : Pos}
/-! ### o[i] -/
def rIxD1 : R2 := fun x y H Q => ∃ a v, x = .ref a ∧ DGet H a y (some v) ∧ Q v H
theorem ix_dict1 (hu : X.A.units + 1 < cLine) : IxR X rIxD1 := by
  rintro value slice pins s σ H x y _ u Q I rx ry ⟨a, r, rfl, g, q⟩ hs
  cases rx
  exact PyProof.Rows.tail_any (dict_typeIs I g) PySem.F.slot_dict_getitem.lookup (d_getItem hu I g ry fun w' s3 I3 rw' => ⟨r, H, I3, rw', q⟩) hs
def rIxU (K : PySem.W.Frag) : R2 := fun x y H Q => rIxL K x y H Q ∨ (rIxT K x y H Q ∨ rIxD1 x y H Q)
theorem sd_ix : Sd2 G E (rIxU G.K) oIx := fun ρ S H x y v u Q q rx ry h => by
  unfold oIx at h
  split at h
  · split at h
    · rename_i xs hx
      split at h
      · rename_i z hz
        obtain ⟨a, vs, rfl, h1, h2⟩ := seq_of q rx hx
        obtain ⟨w, hw, rw'⟩ := h2.atI hz
        rw [ry.int_of]
        rcases h1 with h1 | h1
        · exact .inl ⟨a, vs, _, w, rfl, rfl, h1, hw, h.ok q _ rw'⟩
        · exact .inr (.inl ⟨a, vs, _, w, rfl, rfl, h1, hw, h.ok q _ rw'⟩)
      · exact h.elim
    · exact h.elim
  · split at h
    · rename_i k _ ks vs hk
      split at h
      · rename_i z hz
        obtain ⟨p, us, rfl, hp, hl, hr⟩ := dks_of q rx hk
        have q1 := keysV_look hr hl k
        rw [hz] at q1
        obtain ⟨w, hw, rw'⟩ := q1
        rw [ry.str_of]
        exact .inr (.inr ⟨p, w, rfl, .inl ⟨_, .inr k, hp, rfl, hw.symm⟩, h.ok q _ rw'⟩)
      · exact h.elim
    · exact h.elim
  · exact h.elim
theorem i_ix (hu : X.A.units + 1 < cLine) (ha : PE X a (tI G E ma)) (hb : PE X b (tI G E mb)) (hs : PlainIx b := by intro _ _; rfl) (hK : X.K = G.K := by rfl) : PE X (.Subscript a b pos) (tI G E (eOp oIx ma mb)) :=
  (pe_ix (IxR.or ix_list (IxR.or ix_tup (ix_dict1 hu))) ha hb hs).imp fun σ H Q h => by
    obtain ⟨ρ, S, env, hR, hE, h⟩ := h
    rw [hK]
    exact two hR hE h fun ρ' S' H' x y v u e' hR' rv ru h' => sd_ix ρ' S' H' x y v u Q hR' rv ru h'
/-! ### slices -/
theorem Reps.cut {K : PySem.W.Frag} {ρ : Rho} {H : Hp} {xs : List PV} {vs : List V} (r : Reps K ρ H xs vs) (lo hi : Option Int) : Reps K ρ H (cut xs lo hi) (cutV vs lo hi) := by
  unfold LW.cut cutV
  rw [r.length]
  exact (r.drop _).take _
def rSlU (K : PySem.W.Frag) : V → Option Int → Option Int → Hp → VK → Prop := fun x lo hi H Q => rSlA K x lo hi H Q ∨ rSlL K x lo hi H Q
theorem sd_cut {ρ : Rho} {S : Store} {H : Hp} {x : PV} {v : V} {lo hi : Option Int} {Q : VK} (q : Rel G.w G.K ρ S H) (rx : Rep G.K ρ H x v) (h : Aft G E ρ H (oCut x lo hi S) (kV G Q)) : rSlU G.K v lo hi H Q := by
  cases x with
  | tup xs =>
    have rx' := rx
    unfold Rep at rx
    obtain ⟨a, vs, rfl, t1, r1⟩ := rx
    refine .inl ⟨a, vs, rfl, t1.sq, fun hw => ?_, fun _ => put_tup q (r1.cut lo hi) h⟩
    have e : cut xs lo hi = xs := by
      unfold cut
      rw [← r1.length] at hw
      rw [hw.1, hw.2, List.drop_zero, Nat.sub_zero, List.take_length]
    have h : Aft G E ρ H (.ok (.tup (cut xs lo hi)) S) (kV G Q) := h
    rw [e] at h
    exact h.ok q _ rx'
  | ls xs =>
    unfold Rep at rx
    obtain ⟨a, vs, rfl, ⟨h1, _⟩, h2⟩ := rx
    exact .inr ⟨a, vs, rfl, SqL.of h1, put_ls q (h2.cut lo hi) h⟩
  | loc l =>
    unfold Rep at rx
    obtain ⟨a, h1, rfl⟩ := rx
    obtain ⟨c, hc, ca⟩ := q.cell h1
    simp only [oCut, lstOf, hc] at h
    cases c with
    | lst ys =>
      obtain ⟨vs, h1, h2⟩ := ca
      exact .inr ⟨a, vs, rfl, SqL.of h1, put_ls q (h2.cut lo hi) h⟩
    | _ => exact h.elim
  | _ => exact h.elim
theorem _root_.L2.PO.imp {X : Cx} {e : Option Expr} {t u : TO} (h : PO X e t) (m : ∀ σ H Q, u σ H Q → t σ H Q) : PO X e u := ⟨fun pins s σ H Q I q => h.run pins s σ H Q I (m σ H Q q)⟩
def tIO (G : Gx) (E : XK) (m : Option XE) : TO := fun σ H Q => ∃ ρ S env, Rel G.w G.K ρ S H ∧ EnvR G.K ρ H env σ ∧ Aft G E ρ H (ePart m env S) (fun _ _ H' o => Q o H')
theorem o_none : PO X none (tIO G E none) := po_none.imp fun σ H Q h => by
  obtain ⟨ρ, S, env, hR, hE, h⟩ := h
  exact h.ok hR
theorem o_some (h : PE X e (tI G E me)) : PO X (some e) (tIO G E (some me)) := (po_some h).imp fun σ H Q h => by
  obtain ⟨ρ, S, env, hR, hE, h⟩ := h
  refine ⟨ρ, S, env, hR, hE, h.step fun ρ1 S1 H1 x e1 hR1 h1 v rv => ?_⟩
  split at h1
  · rw [rv.int_of]
    exact ⟨_, rfl, h1.ok hR1⟩
  · exact h1.elim
theorem i_cut {lo hi : Option Expr} {ml mh : Option XE} {p2 : Pos} (he : PE X e (tI G E me)) (hl : PO X lo (tIO G E ml)) (hh : PO X hi (tIO G E mh)) (hK : X.K = G.K := by rfl) : PE X (.Subscript e (.Slice lo hi none p2) pos) (tI G E (eCut me ml mh)) :=
  (pe_slice (SlR.or sl_tupA sl_list) he hl hh).imp fun σ H Q h => by
    obtain ⟨ρ, S, env, hR, hE, h⟩ := h
    rw [hK]
    refine ⟨ρ, S, env, hR, hE, h.step fun ρ1 S1 H1 x e1 hR1 h1 v rv => ?_⟩
    refine ⟨ρ1, S1, env, hR1, hE.ext e1, h1.step fun ρ2 S2 H2 i e2 hR2 h2 => ?_⟩
    refine ⟨ρ2, S2, env, hR2, (hE.ext e1).ext e2, h2.step fun ρ3 S3 H3 j e3 hR3 h3 => ?_⟩
    exact sd_cut hR3 (Rep.ext e3 _ _ (Rep.ext e2 _ _ rv)) h3
/-! ### displays -/
variable {es : List Expr} {ms : XA}
theorem i_tup {x1} (h : PA X es (tIA G E ms)) : PE X (.Tuple es x1 pos) (tI G E (eTup ms)) := (pe_tup h).imp fun σ H Q h => by
  obtain ⟨ρ, S, env, hR, hE, h⟩ := h
  refine ⟨ρ, S, env, hR, hE, h.step fun ρ1 S1 H1 xs e1 hR1 h1 vs rvs => ?_⟩
  split at h1
  · rename_i hl
    exact ⟨by rw [← rvs.length]; exact lim_le hl, put_tup hR1 rvs h1⟩
  · exact h1.elim
theorem i_ls (h : PA X es (tIA G E ms)) : PE X (.List es pos) (tI G E (eLs ms)) := (pe_lst h).imp fun σ H Q h => by
  obtain ⟨ρ, S, env, hR, hE, h⟩ := h
  refine ⟨ρ, S, env, hR, hE, h.step fun ρ1 S1 H1 xs e1 hR1 h1 vs rvs => ?_⟩
  split at h1
  · rename_i hl
    exact ⟨by rw [← rvs.length]; exact lim_le hl, put_ls hR1 rvs h1⟩
  · exact h1.elim
theorem i_new (h : PA X es (tIA G E ms)) : PE X (.List es pos) (tI G E (eNew ms)) := (pe_lst h).imp fun σ H Q h => by
  obtain ⟨ρ, S, env, hR, hE, h⟩ := h
  refine ⟨ρ, S, env, hR, hE, h.step fun ρ1 S1 H1 xs e1 hR1 h1 vs rvs => ?_⟩
  split at h1
  · rename_i hl
    exact ⟨by rw [← rvs.length]; exact lim_le hl, put_new hR1 rvs h1⟩
  · exact h1.elim
/-! ### what is built in -/
def SdB (G : Gx) (E : XK) (r : List V → Hp → VK → Prop) (f : Bf) : Prop := ∀ ρ S H xs vs Q, Rel G.w G.K ρ S H → Reps G.K ρ H xs vs → Aft G E ρ H (f xs S) (kV G Q) → r vs H Q
theorem tcb {r : List V → Hp → VK → Prop} {f : Bf} (sf : SdB G E r f) (σ : L2.St) (H : Hp) (Q : VK) (h : tI G E (eBf f ms) σ H Q) : tCB r (tIA G E ms) σ H Q := by
  obtain ⟨ρ, S, env, hR, hE, h⟩ := h
  exact ⟨ρ, S, env, hR, hE, h.step fun ρ1 S1 H1 xs e1 hR1 h1 vs rvs => sf ρ1 S1 H1 xs vs Q hR1 rvs h1⟩
theorem i_bf {x : Str} {p : Pos} {id : String} {r : List V → Hp → VK → Prop} {f : Bf} (hc : CallR X (.builtin id) r) (sf : SdB G E r f) (hg : Gl X x) (hm : X.mg x = none) (hv : bootBuiltins x = some (.builtin id)) (ha : PA X (e :: es) (tIA G E ms)) (hn : x ≠ "__name__" := by decide) (hdb : (x == ("__debug__" : Str)) = false := by decide)
    (he : starEach (e :: es) X.env = (false, eval e X.env) :: starEach es X.env := by rfl) (hpl : (backTo pos (starEach es X.env)).any (·.1) = false := by rfl) : PE X (.Call (.Name x p) (e :: es) [] pos) (tI G E (eBf f ms)) :=
  (pe_callB hc hg hm hv ha hn hdb he hpl).imp fun σ H Q h => tcb sf σ H Q h
theorem i_ty {x : Str} {p : Pos} {T : String} {r : List V → Hp → VK → Prop} {f : Bf} (hc : CallR X (.type T) r) (sf : SdB G E r f) (hg : Gl X x) (hm : X.mg x = none) (hv : bootBuiltins x = some (.type T)) (ha : PA X (e :: es) (tIA G E ms)) (hn : x ≠ "__name__" := by decide) (hdb : (x == ("__debug__" : Str)) = false := by decide)
    (he : starEach (e :: es) X.env = (false, eval e X.env) :: starEach es X.env := by rfl) (hpl : (backTo pos (starEach es X.env)).any (·.1) = false := by rfl) : PE X (.Call (.Name x p) (e :: es) [] pos) (tI G E (eBf f ms)) :=
  (pe_callTy hc hg hm hv ha hn hdb he hpl).imp fun σ H Q h => tcb sf σ H Q h
theorem one_of {K : PySem.W.Frag} {ρ : Rho} {H : Hp} {x : PV} {vs : List V} (r : Reps K ρ H [x] vs) : ∃ v, vs = [v] ∧ Rep K ρ H x v := by
  obtain ⟨v, s, rfl, h1, h2⟩ := r.uncons
  unfold Reps at h2
  exact ⟨v, by rw [h2], h1⟩
theorem two_of {K : PySem.W.Frag} {ρ : Rho} {H : Hp} {x y : PV} {vs : List V} (r : Reps K ρ H [x, y] vs) : ∃ v u, vs = [v, u] ∧ Rep K ρ H x v ∧ Rep K ρ H y u := by
  obtain ⟨v, s, rfl, h1, h2⟩ := r.uncons
  obtain ⟨u, rfl, h3⟩ := one_of h2
  exact ⟨v, u, rfl, h1, h3⟩
def rLenU (K : PySem.W.Frag) : List V → Hp → VK → Prop := fun xs H Q => ∃ p ys, xs = [.ref p] ∧ (SqL K H p ys ∨ SqT K H p ys) ∧ Q (.int ys.length) H
theorem call_lenU : CallR X (.builtin "len") (rLenU X.K) := call_len_seq
theorem sd_len : SdB G E (rLenU G.K) bLen := fun ρ S H xs vs Q q r h => by
  unfold bLen at h
  split at h
  · split at h
    · rename_i ys hy
      obtain ⟨v, rfl, r1⟩ := one_of r
      obtain ⟨a, us, rfl, h1, h2⟩ := seq_of q r1 hy
      refine ⟨a, us, rfl, h1, ?_⟩
      rw [← h2.length]
      exact h.ok q _ Rep.int
    · exact h.elim
  · exact h.elim
def rListU (K : PySem.W.Frag) : List V → Hp → VK → Prop := fun xs H Q => ∃ p ys, xs = [.ref p] ∧ (SqL K H p ys ∨ SqT K H p ys) ∧ ∀ l, H l = none → Q (.ref l) (upd H l (.lst ys))
theorem call_listU : CallR X (.type "list") (rListU X.K) := call_list_of
theorem sd_list : SdB G E (rListU G.K) bList := fun ρ S H xs vs Q q r h => by
  unfold bList at h
  split at h
  · split at h
    · rename_i ys hy
      obtain ⟨v, rfl, r1⟩ := one_of r
      obtain ⟨a, us, rfl, h1, h2⟩ := seq_of q r1 hy
      exact ⟨a, us, rfl, h1, put_ls q h2 h⟩
    · exact h.elim
  · exact h.elim
theorem sd_listN : SdB G E (rListU G.K) bListN := fun ρ S H xs vs Q q r h => by
  unfold bListN at h
  split at h
  · split at h
    · rename_i ys hy
      obtain ⟨v, rfl, r1⟩ := one_of r
      obtain ⟨a, us, rfl, h1, h2⟩ := seq_of q r1 hy
      exact ⟨a, us, rfl, h1, put_new q h2 h⟩
    · exact h.elim
  · exact h.elim
def rTupleU (K : PySem.W.Frag) : List V → Hp → VK → Prop := fun xs H Q => ∃ p ys, xs = [.ref p] ∧ ((SqL K H p ys ∧ ∀ l, H l = none → Q (.ref l) (upd H l (.tup ys))) ∨ (SqT K H p ys ∧ Q (.ref p) H))
theorem call_tupleU : CallR X (.type "tuple") (rTupleU X.K) := call_tuple_of
theorem sd_tuple : SdB G E (rTupleU G.K) bTuple := fun ρ S H xs vs Q q r h => by
  unfold bTuple at h
  split at h
  · split at h
    · rename_i x _ ys hy
      obtain ⟨v, rfl, r1⟩ := one_of r
      cases x with
      | tup zs =>
        cases hy
        have r2 := r1
        unfold Rep at r1
        obtain ⟨a, us, rfl, t1, r3⟩ := r1
        exact ⟨a, us, rfl, .inr ⟨t1.sq, h.ok q _ r2⟩⟩
      | ls zs =>
        cases hy
        unfold Rep at r1
        obtain ⟨a, us, rfl, ⟨h1, _⟩, r3⟩ := r1
        exact ⟨a, us, rfl, .inl ⟨SqL.of h1, put_tup q r3 h⟩⟩
      | fz zs =>
        cases hy
        unfold Rep at r1
        obtain ⟨a, us, rfl, h1, r3⟩ := r1
        exact ⟨a, us, rfl, .inl ⟨h1.sq, put_tup q r3 h⟩⟩
      | loc l =>
        unfold Rep at r1
        obtain ⟨a, h1, rfl⟩ := r1
        obtain ⟨c, hc, ca⟩ := q.cell h1
        simp only [seqOf, hc] at hy
        cases c with
        | lst zs =>
          cases hy
          obtain ⟨us, h2, r3⟩ := ca
          exact ⟨a, us, rfl, .inl ⟨SqL.of h2, put_tup q r3 h⟩⟩
        | _ => cases hy
      | _ => cases hy
    · exact h.elim
  · exact h.elim
def rStrU : List V → Hp → VK → Prop := fun xs H Q => ∃ i, xs = [.int i] ∧ i.natAbs.log2 < 1920 ∧ Q (.str (toString i : String)) H
theorem call_strU : CallR X (.type "str") rStrU := call_str_int
theorem sd_str : SdB G E rStrU bStr := fun ρ S H xs vs Q q r h => by
  unfold bStr at h
  split at h
  · split at h
    · rename_i i hl
      obtain ⟨v, rfl, r1⟩ := one_of r
      rw [r1.int_of]
      exact ⟨i, rfl, hl, h.ok q _ Rep.str⟩
    · exact h.elim
  · exact h.elim
def rIntU : List V → Hp → VK → Prop := fun xs H Q => (∃ i, xs = [.int i] ∧ Q (.int i) H) ∨ ∃ k, xs = [.bl k] ∧ Q (.int (if k then 1 else 0)) H
theorem call_intU : CallR X (.type "int") rIntU := call_int1
theorem sd_int : SdB G E rIntU bInt := fun ρ S H xs vs Q q r h => by
  unfold bInt at h
  split at h
  · obtain ⟨v, rfl, r1⟩ := one_of r
    rw [r1.int_of]
    exact .inl ⟨_, rfl, h.ok q _ Rep.int⟩
  · obtain ⟨v, rfl, r1⟩ := one_of r
    rw [r1.bl_of]
    exact .inr ⟨_, rfl, h.ok q _ Rep.int⟩
  · exact h.elim
def rMaxU : List V → Hp → VK → Prop := fun xs H Q => ∃ i j, xs = [.int i, .int j] ∧ Q (.int (if j > i then j else i)) H
theorem call_maxU (hc : X.calm = true) : CallR X (.builtin "max") rMaxU := call_max2 hc
theorem sd_max : SdB G E rMaxU bMax := fun ρ S H xs vs Q q r h => by
  unfold bMax at h
  split at h
  · obtain ⟨v, u, rfl, r1, r2⟩ := two_of r
    rw [r1.int_of, r2.int_of]
    exact ⟨_, _, rfl, h.ok q _ Rep.int⟩
  · exact h.elim
def rMinU : List V → Hp → VK → Prop := fun xs H Q => ∃ i j, xs = [.int i, .int j] ∧ Q (.int (if j < i then j else i)) H
theorem call_minU (hc : X.calm = true) : CallR X (.builtin "min") rMinU := call_min2 hc
theorem sd_min : SdB G E rMinU bMin := fun ρ S H xs vs Q q r h => by
  unfold bMin at h
  split at h
  · obtain ⟨v, u, rfl, r1, r2⟩ := two_of r
    rw [r1.int_of, r2.int_of]
    exact ⟨_, _, rfl, h.ok q _ Rep.int⟩
  · exact h.elim
theorem bools_of {K : PySem.W.Frag} {ρ : Rho} {H : Hp} : ∀ {xs : List PV} {vs : List V} {ks : List Bool}, Reps K ρ H xs vs → bools xs = some ks → vs = ks.map V.bl
  | [], _, _, r, h => by
    unfold Reps at r
    cases h
    exact r
  | x :: xs, _, ks, r, h => by
    obtain ⟨v, s, rfl, h1, h2⟩ := r.uncons
    cases x with
    | bl k =>
      unfold bools at h
      cases e : bools xs with
      | none => rw [e] at h; cases h
      | some js =>
        rw [e] at h
        cases h
        rw [h1.bl_of, bools_of h2 e]
        rfl
    | _ => cases h
/-- all, any: a list of truths -/
theorem sd_all : SdB G E (rAll G.K) bAll := fun ρ S H xs vs Q q r h => by
  unfold bAll at h
  split at h
  · rename_i x
    obtain ⟨v, rfl, r1⟩ := one_of r
    cases e : lstOf S x with
    | none => simp only [e, Option.bind] at h; exact h.elim
    | some ys =>
      simp only [e, Option.bind] at h
      split at h
      · rename_i ks hk
        obtain ⟨a, us, rfl, h1, h2⟩ := lst_of q r1 e
        have := bools_of h2 hk
        subst this
        exact ⟨a, ks, rfl, SqL.of h1, h.ok q _ Rep.bl⟩
      · exact h.elim
  · exact h.elim
theorem sd_any : SdB G E (rAny G.K) bAny := fun ρ S H xs vs Q q r h => by
  unfold bAny at h
  split at h
  · rename_i x
    obtain ⟨v, rfl, r1⟩ := one_of r
    cases e : lstOf S x with
    | none => simp only [e, Option.bind] at h; exact h.elim
    | some ys =>
      simp only [e, Option.bind] at h
      split at h
      · rename_i ks hk
        obtain ⟨a, us, rfl, h1, h2⟩ := lst_of q r1 e
        have := bools_of h2 hk
        subst this
        exact ⟨a, ks, rfl, SqL.of h1, h.ok q _ Rep.bl⟩
      · exact h.elim
  · exact h.elim
end
end

/-! Mini6 -/
/-! Mini6: isinstance, dicts with texts as keys, stores, attributes, methods of lists. -/
section
open PySem L2
section
variable {G : Gx} {E : XK} {X : Cx} {a b c e o i : Expr} {ma mb mc me mo mi : XE} {pos : Pos}
/-! ### isinstance -/
def Ty.name : Ty → String
  | .int => "int"
  | .bool => "bool"
  | .str => "str"
  | .tuple => "tuple"
  | .list => "list"
theorem tyx_of {ρ : Rho} {S : Store} {H : Hp} (q : Rel G.w G.K ρ S H) {x : PV} {v : V} {t0 : Ty} {k0 : Bool} (r : Rep G.K ρ H x v) (h : isTy S x t0 = some k0) : ∃ n, TyX G.K H v (.type n) ∧ ∀ t k, isTy S x t = some k → kitB n t.name = some k := by
  cases x with
  | non => rw [r.non_of]; exact ⟨_, .base .non, fun t k e => by cases e; cases t <;> decide +kernel⟩
  | bl y => rw [r.bl_of]; exact ⟨_, .base (.bl y), fun t k e => by cases e; cases t <;> decide +kernel⟩
  | int y => rw [r.int_of]; exact ⟨_, .base (.int y), fun t k e => by cases e; cases t <;> decide +kernel⟩
  | str y => rw [r.str_of]; exact ⟨_, .base (.str y), fun t k e => by cases e; cases t <;> decide +kernel⟩
  | tup xs =>
    unfold Rep at r
    obtain ⟨p, vs, rfl, h1, _⟩ := r
    rcases h1 with ⟨h1 | ⟨ob, h1⟩, _⟩ | ⟨ob, its, n, h1, h2, _⟩
    · exact ⟨_, .base (.tup h1), fun t k e => by cases e; cases t <;> decide +kernel⟩
    · exact ⟨_, .fTuple h1, fun t k e => by cases e; cases t <;> decide +kernel⟩
    · exact ⟨_, .kTuple h1 h2, fun t k e => by cases e; cases t <;> decide +kernel⟩
  | ls xs =>
    unfold Rep at r
    obtain ⟨p, vs, rfl, ⟨h1, _⟩, _⟩ := r
    exact ⟨_, .base (.lst h1), fun t k e => by cases e; cases t <;> decide +kernel⟩
  | fz xs =>
    unfold Rep at r
    obtain ⟨p, vs, rfl, h1, _⟩ := r
    rcases h1 with ⟨h1 | ⟨ob, h1⟩, _⟩ | ⟨ob, its, n, h1, h2, _⟩
    · exact ⟨_, .base (.lst h1), fun t k e => by cases e; cases t <;> decide +kernel⟩
    · exact ⟨_, .base (.frz h1), fun t k e => by cases e; cases t <;> decide +kernel⟩
    · exact ⟨_, .kList h1 h2, fun t k e => by cases e; cases t <;> decide +kernel⟩
  | dc ks xs => cases h
  | loc l =>
    unfold Rep at r
    obtain ⟨p, h1, rfl⟩ := r
    obtain ⟨c, hc, ca⟩ := q.cell h1
    simp only [isTy, hc] at h
    cases c with
    | lst ys =>
      obtain ⟨vs, h2, _⟩ := ca
      exact ⟨_, .base (.lst h2), fun t k e => by simp only [isTy, hc] at e; cases e; cases t <;> decide +kernel⟩
    | _ => cases h
theorem i_isa {t : Ty} {p p2 : Pos} {T : Str} (hg : Gl X "isinstance") (hm : X.mg "isinstance" = none) (hgT : Gl X T) (hmT : X.mg T = none) (hT : bootBuiltins T = some (.type t.name)) (ha : PE X a (tI G E ma)) (hK : X.K = G.K := by rfl)
    (hn : T ≠ "__name__" := by decide) (hd : (T == ("__debug__" : Str)) = false := by decide) (he : starEach [a, .Name T p2] X.env = (false, eval a X.env) :: starEach [.Name T p2] X.env := by rfl) (hs : starEach [.Name T p2] X.env = (false, eval (.Name T p2) X.env) :: starEach [] X.env := by rfl)
    (hpl : (backTo pos (starEach [.Name T p2] X.env)).any (·.1) = false := by rfl) : PE X (.Call (.Name "isinstance" p) [a, .Name T p2] [] pos) (tI G E (eIsa t ma)) :=
  (pe_callB call_isi hg hm (by decide +kernel) (pa_cons ha (pa_cons (pe_bltn (v := .ty t.name) hgT hmT hT rfl hn hd) pa_nil hs) he) (by decide) (by decide) he hpl).imp fun σ H Q h => by
    obtain ⟨ρ, S, env, hR, hE, h⟩ := h
    refine ⟨ρ, S, env, hR, hE, h.step fun ρ1 S1 H1 x e1 hR1 h1 v rv => ?_⟩
    split at h1
    · rename_i k hk
      obtain ⟨n, h2, h3⟩ := tyx_of hR1 rv hk
      rw [hK]
      exact ⟨v, .ty t.name, .type n, .type t.name, k, rfl, .ty _, h2, kit_ty (h3 t k hk), h1.ok hR1 _ Rep.bl⟩
    · exact h1.elim
/-- isinstance(x, (T, U)) -/
theorem i_isa2 {t u : Ty} {p p2 p3 p4 : Pos} {k4} {T U : Str} (hg : Gl X "isinstance") (hm : X.mg "isinstance" = none) (hgT : Gl X T) (hmT : X.mg T = none) (hT : bootBuiltins T = some (.type t.name)) (hgU : Gl X U) (hmU : X.mg U = none) (hU : bootBuiltins U = some (.type u.name)) (ha : PE X a (tI G E ma)) (hK : X.K = G.K := by rfl)
    (hn : T ≠ "__name__" := by decide) (hd : (T == ("__debug__" : Str)) = false := by decide) (hn2 : U ≠ "__name__" := by decide) (hd2 : (U == ("__debug__" : Str)) = false := by decide)
    (he : starEach [a, .Tuple [.Name T p2, .Name U p3] k4 p4] X.env = (false, eval a X.env) :: starEach [.Tuple [.Name T p2, .Name U p3] k4 p4] X.env := by rfl) (hs : starEach [.Tuple [.Name T p2, .Name U p3] k4 p4] X.env = (false, eval (.Tuple [.Name T p2, .Name U p3] k4 p4) X.env) :: starEach [] X.env := by rfl)
    (hs2 : starEach [.Name T p2, .Name U p3] X.env = (false, eval (.Name T p2) X.env) :: starEach [.Name U p3] X.env := by rfl) (hs3 : starEach [.Name U p3] X.env = (false, eval (.Name U p3) X.env) :: starEach [] X.env := by rfl)
    (hpl : (backTo pos (starEach [.Tuple [.Name T p2, .Name U p3] k4 p4] X.env)).any (·.1) = false := by rfl) : PE X (.Call (.Name "isinstance" p) [a, .Tuple [.Name T p2, .Name U p3] k4 p4] [] pos) (tI G E (eIsa2 t u ma)) :=
  (pe_callB call_isiT hg hm (by decide +kernel) (pa_cons ha (pa_cons (pe_tup (pa_cons (pe_bltn (v := .ty t.name) hgT hmT hT rfl hn hd) (pa_cons (pe_bltn (v := .ty u.name) hgU hmU hU rfl hn2 hd2) pa_nil hs3) hs2)) pa_nil hs) he) (by decide) (by decide) he hpl).imp fun σ H Q h => by
    obtain ⟨ρ, S, env, hR, hE, h⟩ := h
    refine ⟨ρ, S, env, hR, hE, h.step fun ρ1 S1 H1 x e1 hR1 h1 v rv => ?_⟩
    refine ⟨by show 2 ≤ sizeLine; decide, fun tp ht => ?_⟩
    split at h1
    · rename_i k j hk hj
      have e2 : Ext ρ1 H1 ρ1 (upd H1 tp (.tup [.ty t.name, .ty u.name])) := Ext.new ht
      have rv2 := Rep.ext e2 x v rv
      obtain ⟨n, h2, h3⟩ := tyx_of (hR1.new ht) rv2 hk
      rw [hK]
      have hq : Q (.bl (k || j)) (upd H1 tp (.tup [.ty t.name, .ty u.name])) := h1 ρ1 _ e2 (hR1.new ht) _ Rep.bl
      refine ⟨v, tp, [.ty t.name, .ty u.name], .type n, [.type t.name, .type u.name], k || j, rfl, upd_same, .cons (.ty _) (.cons (.ty _) .nil), h2, ?_, hq⟩
      refine kitAny_cons (kit_ty (h3 t k hk)) (fun e => ?_) (fun e => by rw [e]; rfl)
      rw [e, Bool.false_or]
      refine kitAny_cons (kit_ty (h3 u j hj)) (fun e => ?_) (fun e => by rw [e])
      rw [e]
      rfl
    · exact h1.elim
/-! ### dicts with texts as keys -/
theorem i_get2 {f : Expr} {mf : XE} {apos cpos : Pos} (hu : X.A.units + 1 < cLine) (ho : PE X o (tI G E mo)) (he : PE X e (tI G E me)) (hf : PE X f (tI G E mf)) (m : M2 X o "get" apos e f cpos) : PE X (.Call (.Attribute o "get" apos) [e, f] [] cpos) (tI G E (eGet2 mo me mf)) :=
  (pe_dget2 hu ho he hf m).imp fun σ H Q h => by
    obtain ⟨ρ, S, env, hR, hE, h⟩ := h
    refine ⟨ρ, S, env, hR, hE, h.step fun ρ1 S1 H1 x e1 hR1 h1 v rv => ?_⟩
    split at h1
    · exact h1.elim
    · rename_i kv hkv
      obtain ⟨p, us, rfl, hp, hl, hr⟩ := dks_of hR1 rv hkv
      refine ⟨p, rfl, .inl ⟨_, hp⟩, ρ1, S1, env, hR1, hE.ext e1, h1.step fun ρ2 S2 H2 y e2 hR2 h2 u ru => ?_⟩
      refine ⟨ρ2, S2, env, hR2, (hE.ext e1).ext e2, h2.step fun ρ3 S3 H3 z e3 hR3 h3 w rw' => ?_⟩
      split at h3
      · rename_i k ks vs hk
        obtain ⟨p', us', e', hp', hl', hr'⟩ := dks_of hR3 (Rep.ext e3 _ _ (Rep.ext e2 _ _ rv)) hk
        cases e'
        rw [(Rep.ext e3 _ _ ru).str_of]
        refine ⟨_, .inl ⟨_, .inr k, hp', rfl, rfl⟩, ?_⟩
        have q := keysV_look hr' hl' k
        cases hz : lookS ks vs k with
        | none =>
          rw [hz] at q h3
          rw [q]
          exact h3.ok hR3 _ rw'
        | some z =>
          rw [hz] at q h3
          obtain ⟨w, hw, rw2⟩ := q
          rw [hw]
          exact h3.ok hR3 _ rw2
      · exact h3.elim
end
section
open PySem PySem.Spec PyProof.Rows
variable {X : Cx} {e : Expr}
/-- .. of a dict that the module's top has made -/
def tKGet (es : Array DictEntry) (ty : TE) : TE := fun σ H Q => ty σ H fun y H1 => ∃ k, y = .str k ∧ ∀ v, RelV v ((PySem.findBy Value.isStrOf es k).getD .none) → Q v H1
theorem pe_kget {x : Str} {p apos cpos : Pos} {a : Addr} {es : Array DictEntry} {n : Nat} {ty : TE} (hg : Gl X x) (hm : X.mg x = some (.ref a)) (hl : X.K.lookup a = some ⟨.type "dict", none, .dict es n, #[]⟩) (hk : PySem.W.KeysLit X.w.params es.toList) (hs : (a == sysModules) = false)
    (he : PE X e ty) (m : M1 X (.Name x p) "get" apos e cpos) (hd : (x == ("__debug__" : Str)) = false := by decide) (hv : ∀ k, ∃ v, RelV v ((PySem.findBy Value.isStrOf es k).getD .none)) : PE X (.Call (.Attribute (.Name x p) "get" apos) [e] [] cpos) (tKGet es ty) := by
  refine ⟨fun pins s σ H Q I h => ?_⟩
  refine wpAny_Call_method m.base m.few m.line PySem.F.plainAttrs_dict PySem.F.slot_dict_get PySem.F.type_dict_get (ld_glob I hg hm ?_ hd)
  have hM := PySem.W.mapOf_K (prog := X.prog) (w := X.w) I.kIn hl hk
  refine ⟨hM.typeIs, fun b q => ?_, ?_⟩
  · cases q
    exact ⟨_, I.kIn _ _ hl, rfl⟩
  · rw [m.trees]
    refine Calls.callWith_builtin rfl (Calls.evalArgs_plain (Calls.spliced_cons (thn (he.run pins s σ H _ I h) fun iv s2 ⟨y, H2, I2, ry, k, ey, q2⟩ => Calls.spliced_nil ?_)))
    subst ey
    obtain ⟨t, rfl⟩ := (show ∃ t, iv = Value.str k t from ry)
    have hM2 := PySem.W.mapOf_K (prog := X.prog) (w := X.w) I2.kIn hl hk
    obtain ⟨v, hv⟩ := hv k
    refine call_meetsIn PySem.F.slot_dict_get hM2.typeIs PySem.F.entry_dict_get (PySem.F.args_dict_get_2 _ _) (meets_dict_get (strKind X.prog X.w) a (strKind_is X.prog X.w k t) hs) ⟨_, hM2, ⟨v, H2, I2.tok _, hv, q2 v hv⟩⟩
end
end

/-! Mini7 -/
/-! Mini7: a dict of the top, dicts written out, stores, attributes, methods of lists. -/
section
open PySem L2
section
variable {w : World} {K : PySem.W.Frag} {ρ : Rho} {H : Hp} {S : Store}
theorem Out.adopt {p a : Addr} (h : (ρ.hide p).Out a) : (ρ.add p).Out a := by
  refine ⟨fun z => ?_, fun z => h.2 (List.mem_cons_of_mem _ z)⟩
  rcases List.mem_append.mp (show a ∈ ρ.lb ++ [p] from z) with z | z
  · exact h.1 z
  · exact h.2 (by rw [List.mem_singleton.mp z]; exact List.mem_cons_self)
mutual
theorem Rep.adopt {p : Addr} : ∀ (x : PV) (v : V), Rep K (ρ.hide p) H x v → Rep K (ρ.add p) H x v
  | .non, _, h => by unfold Rep at h ⊢; exact h
  | .bl _, _, h => by unfold Rep at h ⊢; exact h
  | .int _, _, h => by unfold Rep at h ⊢; exact h
  | .str _, _, h => by unfold Rep at h ⊢; exact h
  | .tup xs, v, h => by
    unfold Rep at h ⊢
    obtain ⟨a, vs, rfl, h1, h3⟩ := h
    refine ⟨a, vs, rfl, ?_, Reps.adopt xs vs h3⟩
    rcases h1 with ⟨h1, h2⟩ | h1
    · exact .inl ⟨h1, Out.adopt h2⟩
    · exact .inr h1
  | .ls xs, v, h => by
    unfold Rep at h ⊢
    obtain ⟨a, vs, rfl, ⟨h1, h2⟩, h3⟩ := h
    exact ⟨a, vs, rfl, ⟨h1, Out.adopt h2⟩, Reps.adopt xs vs h3⟩
  | .fz xs, v, h => by
    unfold Rep at h ⊢
    obtain ⟨a, vs, rfl, h1, h3⟩ := h
    refine ⟨a, vs, rfl, ?_, Reps.adopt xs vs h3⟩
    rcases h1 with ⟨h1, h2⟩ | h1
    · exact .inl ⟨h1, Out.adopt h2⟩
    · exact .inr h1
  | .dc ks xs, v, h => by
    unfold Rep at h ⊢
    obtain ⟨a, vs, rfl, ⟨h1, h2⟩, hl, hn, h3⟩ := h
    exact ⟨a, vs, rfl, ⟨h1, Out.adopt h2⟩, hl, hn, Reps.adopt xs vs h3⟩
  | .loc l, v, h => by
    unfold Rep at h ⊢
    obtain ⟨a, h1, rfl⟩ := h
    have h1 : ρ.lb[l]? = some a := h1
    refine ⟨a, ?_, rfl⟩
    show (ρ.lb ++ [p])[l]? = some a
    rw [List.getElem?_append_left (List.getElem?_eq_some_iff.mp h1).1]
    exact h1
theorem Reps.adopt {p : Addr} : ∀ (xs : List PV) (vs : List V), Reps K (ρ.hide p) H xs vs → Reps K (ρ.add p) H xs vs
  | [], _, h => by unfold Reps at h ⊢; exact h
  | x :: r, vs, h => by
    unfold Reps at h ⊢
    obtain ⟨v, s, rfl, h1, h2⟩ := h
    exact ⟨v, s, rfl, Rep.adopt x v h1, Reps.adopt r s h2⟩
end
theorem Flds.adopt {p : Addr} : ∀ {fs : List (Str × PV)} {gs : List (Str × V)}, Flds K (ρ.hide p) H fs gs → Flds K (ρ.add p) H fs gs
  | [], _, h => h
  | (f, x) :: r, _, h => by
    obtain ⟨v, s, rfl, h1, h2⟩ := h
    exact ⟨v, s, rfl, Rep.adopt x v h1, Flds.adopt h2⟩
/-- what was hidden joins the store -/
theorem Rel.adopt {p : Addr} {c : Cell} (q : Rel w K (ρ.hide p) S H) (nh : p ∉ ρ.hid) (hc : CellAt w K (ρ.add p) H c p) : Rel w K (ρ.add p) (S ++ [c]) H := by
  have np : p ∉ ρ.lb := (q.hd p (List.mem_cons_self ..)).2
  refine ⟨by simp [Rho.add]; exact q.len, ?_, fun l d a h1 h2 => ?_, fun a ha => ?_, q.tabs⟩
  · show (ρ.lb ++ [p]).Nodup
    rw [List.nodup_append]
    exact ⟨q.nd, by simp, fun a ha b hb e => np (by rw [List.mem_singleton.mp hb] at e; exact e ▸ ha)⟩
  · have h2 : (ρ.lb ++ [p])[l]? = some a := h2
    have ql : ρ.lb.length = S.length := q.len
    by_cases hl : l < S.length
    · rw [List.getElem?_append_left hl] at h1
      rw [List.getElem?_append_left (by rw [ql]; exact hl)] at h2
      have c1 := q.at_ l d a h1 h2
      cases d with
      | lst xs => obtain ⟨vs, h1, h2⟩ := c1; exact ⟨vs, h1, Reps.adopt _ _ h2⟩
      | dks ks xs => obtain ⟨vs, h1, h2, h3, h4⟩ := c1; exact ⟨vs, h1, h2, h3, Reps.adopt _ _ h4⟩
      | dki ks xs => obtain ⟨vs, h1, h2, h3, h4⟩ := c1; exact ⟨vs, h1, h2, h3, Reps.adopt _ _ h4⟩
      | fki ks xs => obtain ⟨od, vs, h1, h2, h3, h4⟩ := c1; exact ⟨od, vs, h1, h2, h3, Reps.adopt _ _ h4⟩
      | dkn ks xs => obtain ⟨kvs, h1, h2⟩ := c1; exact ⟨kvs, h1, h2.imp (fun x v _ _ => Rep.adopt x v) fun x v _ => Rep.adopt x v⟩
      | fkn ks xs => obtain ⟨od, kvs, h1, h2⟩ := c1; exact ⟨od, kvs, h1, h2.imp (fun x v _ _ => Rep.adopt x v) fun x v _ => Rep.adopt x v⟩
      | ins C fs => obtain ⟨dx, gs, h1, h2, h3, h4⟩ := c1; exact ⟨dx, gs, h1, h2, Out.adopt h3, Flds.adopt h4⟩
    · have e : l = S.length := by
        have := (List.getElem?_eq_some_iff.mp h1).1
        rw [List.length_append] at this
        simp at this
        omega
      subst e
      rw [List.getElem?_append_right (Nat.le_refl _)] at h1
      rw [List.getElem?_append_right (by rw [ql]; exact Nat.le_refl _)] at h2
      simp [ql] at h1 h2
      subst h1 h2
      exact hc
  · obtain ⟨⟨u, hu⟩, n⟩ := q.hd a (List.mem_cons_of_mem _ ha)
    refine ⟨⟨u, hu⟩, fun z => ?_⟩
    rcases List.mem_append.mp (show a ∈ ρ.lb ++ [p] from z) with z | z
    · exact n z
    · exact nh (by rw [← List.mem_singleton.mp z]; exact ha)
theorem Ext.adopt {ρ' : Rho} {H' : Hp} {p : Addr} (e : Ext ρ H ρ' H') (hp : H p = none) : Ext ρ H (ρ'.add p) H' := by
  obtain ⟨m, em, hm⟩ := e.more
  refine ⟨⟨m ++ [p], by show ρ'.lb ++ [p] = _; rw [em, List.append_assoc], fun a ha => ?_⟩, e.hid, e.keep, e.dom, e.fz⟩
  rcases List.mem_append.mp ha with z | z
  · exact hm a z
  · rw [List.mem_singleton.mp z]; exact .of hp
end
section
variable {G : Gx} {E : XK} {X : Cx} {a b c e o i : Expr} {ma mb mc me mo mi : XE} {pos : Pos}
/-- the table of a dict of the top -/
def Tab (K : PySem.W.Frag) (es : Array DictEntry) (ks : List Str) (xs : List PV) : Prop := ∀ k, ∃ v, RelV v ((PySem.findBy Value.isStrOf es k).getD .none) ∧ ∀ ρ H, Rep K ρ H ((lookS ks xs k).getD .non) v
theorem relV_inj {x y : V} {u : Value} (r : RelV x u) (q : RelV y u) : x = y := r.inj q
theorem i_kget {x : Str} {p apos cpos : Pos} {a : Addr} {es : Array DictEntry} {n : Nat} {ks : List Str} {xs : List PV} (hg : Gl X x) (hm : X.mg x = some (.ref a)) (hl : X.K.lookup a = some ⟨.type "dict", none, .dict es n, #[]⟩) (hk : PySem.W.KeysLit X.w.params es.toList) (hs : (a == sysModules) = false)
    (hv : Tab G.K es ks xs) (he : PE X e (tI G E me)) (m : M1 X (.Name x p) "get" apos e cpos) (hd : (x == ("__debug__" : Str)) = false := by decide) : PE X (.Call (.Attribute (.Name x p) "get" apos) [e] [] cpos) (tI G E (eGetS ks xs me)) :=
  (pe_kget hg hm hl hk hs he m hd (fun k => let ⟨v, h, _⟩ := hv k; ⟨v, h⟩)).imp fun σ H Q h => by
    obtain ⟨ρ, S, env, hR, hE, h⟩ := h
    refine ⟨ρ, S, env, hR, hE, h.step fun ρ1 S1 H1 y e1 hR1 h1 u ru => ?_⟩
    split at h1
    · rename_i k
      refine ⟨k, ru.str_of, fun v rv => ?_⟩
      obtain ⟨v', rv', hr⟩ := hv k
      rw [relV_inj rv rv']
      exact h1.ok hR1 _ (hr ρ1 H1)
    · exact h1.elim
/-! ### a dict written out -/
theorem keysV_any : ∀ {ks : List Str} {vs : List V} {k : Str}, k ∉ ks → ((keysV ks vs).any fun kv => decide (kv.1 = (.inr k : Key))) = false
  | [], _, _, _ => rfl
  | _ :: _, [], _, _ => rfl
  | k0 :: ks, v :: vs, k, h => by
    have e : keysV (k0 :: ks) (v :: vs) = (.inr k0, v) :: keysV ks vs := rfl
    rw [e, List.any_cons, keysV_any (fun z => h (List.mem_cons_of_mem _ z)), Bool.or_false]
    exact decide_eq_false fun z => h (by rw [← Sum.inr.inj z]; exact List.mem_cons_self)
theorem keysV_append : ∀ {ks js : List Str} {vs us : List V}, ks.length = vs.length → keysV (ks ++ js) (vs ++ us) = keysV ks vs ++ keysV js us
  | [], _, [], _, _ => rfl
  | k :: ks, js, v :: vs, us, h => by
    show (.inr k, v) :: keysV (ks ++ js) (vs ++ us) = (.inr k, v) :: (keysV ks vs ++ keysV js us)
    rw [keysV_append (by simpa using h)]
  | [], _, _ :: _, _, h => by simp at h
  | _ :: _, _, [], _, h => by simp at h
theorem merge_keys : ∀ (js : List Str) (us : List V) (ks : List Str) (vs : List V), (ks ++ js).Nodup → ks.length = vs.length → js.length = us.length → mergeK (keysV ks vs) (keysV js us) = keysV (ks ++ js) (vs ++ us)
  | [], us, ks, vs, _, hl, h2 => by
    have : us = [] := List.eq_nil_of_length_eq_zero h2.symm
    subst this
    simp [keysV, mergeK]
  | j :: js, u :: us, ks, vs, hn, hl, h2 => by
    have e : keysV (j :: js) (u :: us) = (.inr j, u) :: keysV js us := rfl
    have nj : j ∉ ks := fun z => by
      rw [List.nodup_append] at hn
      exact hn.2.2 j z j (List.mem_cons_self) rfl
    have e2 : mergeK (keysV ks vs) ((.inr j, u) :: keysV js us) = mergeK (putK (keysV ks vs) (.inr j) u) (keysV js us) := rfl
    rw [e, e2]
    have e3 : putK (keysV ks vs) (.inr j : Key) u = keysV (ks ++ [j]) (vs ++ [u]) := by
      unfold putK
      rw [if_neg (by rw [keysV_any nj]; exact Bool.false_ne_true), keysV_append hl]
      rfl
    rw [e3, merge_keys js us (ks ++ [j]) (vs ++ [u]) (by rw [List.append_assoc]; exact hn) (by simp [hl]) (by simpa using h2)]
    rw [List.append_assoc, List.append_assoc]
    rfl
  | _ :: _, [], _, _, _, _, h => by simp at h
/-- pairs with written keys -/
structure PDs (G : Gx) (E : XK) (X : Cx) (pos : Pos) (keys : List (Option Expr)) (values : List Expr) (ks : List Str) (ms : XA) : Prop where
  it : ∃ trs, PPs X pos keys values trs ∧ ∀ σ H Q, (∃ ρ S env, Rel G.w G.K ρ S H ∧ EnvR G.K ρ H env σ ∧ Aft G E ρ H (ms env S) (fun ρ' _ H' xs => ∀ vs, Reps G.K ρ' H' xs vs → xs.length = ks.length → Q ((ks.zip vs).map fun p => (V.str p.1, p.2)) H')) → tPairs trs σ H Q
theorem d_nil : PDs G E X pos [] [] [] aNil := ⟨⟨[], pps_nil, fun σ H Q ⟨ρ, S, env, hR, hE, h⟩ => h.ok hR [] Reps.nil rfl⟩⟩
theorem d_cons {k : Str} {kj kp} {v : Expr} {mv : XE} {keys : List (Option Expr)} {values : List Expr} {ks : List Str} {ms : XA} (hv : PE X v (tI G E mv)) (hr : PDs G E X pos keys values ks ms) : PDs G E X pos (some (.Constant (.str k) kj kp) :: keys) (v :: values) (k :: ks) (aCons mv ms) := by
  obtain ⟨trs, h1, h2⟩ := hr.it
  refine ⟨⟨_, pps_cons pe_str hv h1, fun σ H Q ⟨ρ, S, env, hR, hE, h⟩ => ?_⟩⟩
  refine ⟨ρ, S, env, hR, hE, h.step fun ρ1 S1 H1 x e1 hR1 h1 u ru => ?_⟩
  refine h2 _ _ _ ⟨ρ1, S1, env, hR1, hE.ext e1, h1.step fun ρ2 S2 H2 xs e2 hR2 h2 vs rvs hl => ?_⟩
  exact h2.ok hR2 (u :: vs) (.cons (Rep.ext e2 _ _ ru) rvs) (by simp [hl])
theorem zip_keys : ∀ (ks : List Str) (vs : List V), (ks.zip vs).map (fun p => (V.str p.1, p.2)) = (keysV ks vs).map fun kv => (L2.kV kv.1, kv.2)
  | [], _ => rfl
  | _ :: _, [] => rfl
  | k :: ks, v :: vs => by
    show (V.str k, v) :: _ = (V.str k, v) :: _
    exact congrArg _ (zip_keys ks vs)
theorem keysV_length {ks : List Str} {vs : List V} (h : ks.length = vs.length) : (keysV ks vs).length = ks.length := by
  unfold keysV
  rw [List.length_map, List.length_zip]
  omega
theorem disp_read {keys : List (Option Expr)} {values : List Expr} {ks : List Str} {ms : XA} {trs : List (TE × TE)} {σ : L2.St} {H : Hp} {Q : VK} {ρ : Rho} {S : Store} {env : Env}
    (ht : ∀ σ H Q, (∃ ρ S env, Rel G.w G.K ρ S H ∧ EnvR G.K ρ H env σ ∧ Aft G E ρ H (ms env S) (fun ρ' _ H' xs => ∀ vs, Reps G.K ρ' H' xs vs → xs.length = ks.length → Q ((ks.zip vs).map fun p => (V.str p.1, p.2)) H')) → tPairs trs σ H Q)
    (hR : Rel G.w G.K ρ S H) (hE : EnvR G.K ρ H env σ) (hbad : ms env S ≠ .bad) (hexc : ∀ e S', ms env S = .exc e S' → ∀ ρ' H' cls d, Ext ρ H ρ' H' → Rel G.w G.K ρ' S' H' → ExcR G ρ' H' e cls d → E cls d H')
    (hok : ∀ xs S', ms env S = .ok xs S' → (ks.length = xs.length ∧ ks.length ≤ 15 ∧ ks.Nodup) ∧ ∀ p ρ' H' vs, H p = none → Ext ρ H ρ' H' → Rel G.w G.K (ρ'.hide p) S' H' → Reps G.K (ρ'.hide p) H' xs vs → Q (.ref p) (upd H' p (.dK (keysV ks vs)))) : tDisp trs σ H Q := by
  intro p hp
  refine ht _ _ _ ⟨ρ.hide p, S, env, hR.hide hp, ⟨hE.len, fun i x hx => by
    obtain ⟨v, h1, h2⟩ := hE.at_ i x hx
    exact ⟨v, h1, Rep.hide hp x v h2⟩⟩, ?_⟩
  have under : ∀ {ρ' : Rho} {H' : Hp}, Ext (ρ.hide p) (upd H p (.dK [])) ρ' H' → ∃ ρ2 : Rho, ρ' = ρ2.hide p ∧ Ext ρ H ρ2 H' := fun {ρ' H'} e => by
    obtain ⟨ρ2, rfl, f⟩ := e.ofHide
    refine ⟨ρ2, rfl, ?_⟩
    obtain ⟨m, em, hm⟩ := f.more
    refine ⟨⟨m, em, fun a ha => ?_⟩, f.hid, fun a u ha nt n => f.keep a u (by rw [upd_ne (ne_of_none ha hp)]; exact ha) nt n, fun a ha => ?_, fun a od u ha => f.fz a od u (by rw [upd_ne (ne_of_none ha hp)]; exact ha)⟩
    · have q := hm a ha
      by_cases e : a = p
      · rw [e]; exact .of hp
      · exact fun o z => q o (by rw [upd_ne e]; exact z)
    · have q := f.dom a ha
      by_cases e : a = p
      · rw [e]; exact .of hp
      · exact fun o z => q o (by rw [upd_ne e]; exact z)
  cases hm : ms env S with
  | bad => exact absurd hm hbad
  | exc e S' =>
    intro ρ' H' cls d e' q x
    obtain ⟨ρ2, rfl, f⟩ := under e'
    refine hexc e S' hm ρ2 H' cls d f q.unhide ⟨x.1, ?_⟩
    rcases x.2 with z | ⟨a, gs, z1, z0, z2, z3, z4⟩
    · exact .inl z
    · exact .inr ⟨a, gs, z1, z0, z2, Out.show' z3, Flds.unhide z4⟩
  | ok xs S' =>
    obtain ⟨⟨hl, h15, hn⟩, k⟩ := hok xs S' hm
    intro ρ' H' e' q vs rvs _
    obtain ⟨ρ2, rfl, f⟩ := under e'
    have hl2 := rvs.length
    have np : p ∉ ρ.lb := hR.out1 hp
    refine ⟨e'.keep p _ upd_same Plain.dK.1 np, keysV ks vs, zip_keys ks vs, by rw [keysV_length (by omega)]; exact h15, ?_⟩
    rw [show mergeK [] (keysV ks vs) = keysV ks vs from merge_keys ks vs [] [] hn rfl (by omega)]
    exact k p ρ2 H' vs hp f q rvs
theorem i_dc {keys : List (Option Expr)} {values : List Expr} {ks : List Str} {ms : XA} (hd : PDs G E X pos keys values ks ms) (hall : keys.all (·.isSome) = true := by rfl) (hl : keys.length = values.length := by rfl) (h0 : keys ≠ [] := by simp) (h15 : keys.length ≤ 15 := by decide) :
    PE X (.Dict keys values pos) (tI G E (eDc ks ms)) := by
  obtain ⟨trs, h1, h2⟩ := hd.it
  refine (pe_disp h1 hall hl h0 h15).imp fun σ H Q h => ?_
  obtain ⟨ρ, S, env, hR, hE, h⟩ := h
  unfold eDc at h
  refine disp_read (keys := keys) (values := values) h2 hR hE (fun z => ?_) (fun e S' z => ?_) fun xs S' z => ?_
  · rw [z] at h; exact h
  · rw [z] at h; exact h
  · rw [z] at h
    simp only [R.bind_ok] at h
    split at h
    · rename_i hc
      refine ⟨hc, fun p ρ' H' vs hp e q rvs => ?_⟩
      have mp : p ∈ (ρ'.hide p).hid := List.mem_cons_self ..
      refine h ρ' _ (e.wr hp) ((q.hw mp).unhide) _ ?_
      unfold Rep
      refine ⟨p, vs, rfl, ⟨.inl upd_same, (q.hd p mp).2, fun z => ?_⟩, hc.1, hc.2.2, Reps.unhide _ _ (Reps.hw mp _ _ rvs)⟩
      rw [e.hid] at z
      obtain ⟨⟨o, ho, _⟩, _⟩ := hR.hd p z
      rw [hp] at ho; cases ho
    · exact h.elim
theorem i_dks {keys : List (Option Expr)} {values : List Expr} {ks : List Str} {ms : XA} (hd : PDs G E X pos keys values ks ms) (hall : keys.all (·.isSome) = true := by rfl) (hl : keys.length = values.length := by rfl) (h0 : keys ≠ [] := by simp) (h15 : keys.length ≤ 15 := by decide) :
    PE X (.Dict keys values pos) (tI G E (eDks ks ms)) := by
  obtain ⟨trs, h1, h2⟩ := hd.it
  refine (pe_disp h1 hall hl h0 h15).imp fun σ H Q h => ?_
  obtain ⟨ρ, S, env, hR, hE, h⟩ := h
  unfold eDks at h
  refine disp_read (keys := keys) (values := values) h2 hR hE (fun z => ?_) (fun e S' z => ?_) fun xs S' z => ?_
  · rw [z] at h; exact h
  · rw [z] at h; exact h
  · rw [z] at h
    simp only [R.bind_ok] at h
    split at h
    · rename_i hc
      refine ⟨hc, fun p ρ' H' vs hp e q rvs => ?_⟩
      have mp : p ∈ (ρ'.hide p).hid := List.mem_cons_self ..
      have nh : p ∉ ρ'.hid := fun z => by
        rw [e.hid] at z
        obtain ⟨⟨o, ho, _⟩, _⟩ := hR.hd p z
        rw [hp] at ho; cases ho
      refine h (ρ'.add p) _ ((e.wr hp).adopt hp) ((q.hw mp).adopt nh ⟨vs, upd_same, hc.1, hc.2.2, Reps.adopt _ _ (Reps.hw mp _ _ rvs)⟩) _ ?_
      unfold Rep
      refine ⟨p, ?_, rfl⟩
      have ql : ρ'.lb.length = S'.length := q.len
      show (ρ'.lb ++ [p])[S'.length]? = some p
      rw [← ql]
      simp
    · exact h.elim
/-! ### o[i] = v -/
theorem ixOf_N (n : Nat) (i : Int) : ixOf n i = ixN n i := by
  unfold ixOf ixN
  by_cases h0 : 0 ≤ i
  · rw [if_pos h0, if_pos h0]
  · rw [if_neg h0, if_neg h0]
    by_cases h1 : 0 ≤ i + (n : Int)
    · rw [if_pos h1]
      split
      · rename_i h
        first | rfl | (congr 1; omega)
      · exact absurd h1 (by omega)
    · rw [if_neg h1]
      split
      · exact absurd (by omega : 0 ≤ i + (n : Int)) h1
      · rfl
def rSetU : TSet := fun o i v H Q => rSetL o i v H Q ∨ rSetD o i v H Q
theorem set_U (hu : X.A.units + 1 < cLine) : PSet X rSetU := by
  rintro pins s σ H o i v ov iv u Q I ro ri rv (h | h)
  · exact set_list pins s σ H o i v ov iv u Q I ro ri rv h
  · exact set_dict hu pins s σ H o i v ov iv u Q I ro ri rv h
theorem putS_put {K : PySem.W.Frag} {ρ : Rho} {H : Hp} {x : PV} {v : V} {k : Str} (r : Rep K ρ H x v) : ∀ {ks : List Str} {xs : List PV} {vs : List V}, Reps K ρ H xs vs → ks.length = xs.length → ks.Nodup →
    ∃ us, putK (keysV ks vs) (.inr k : Key) v = keysV (putS ks xs k x).1 us ∧ Reps K ρ H (putS ks xs k x).2 us ∧ (putS ks xs k x).1.length = (putS ks xs k x).2.length ∧ (putS ks xs k x).1.Nodup ∧ (∀ j, j ∈ (putS ks xs k x).1 ↔ j = k ∨ j ∈ ks)
  | [], [], _, rs, _, _ => by
    unfold Reps at rs
    subst rs
    exact ⟨[v], rfl, .cons r .nil, rfl, by simp [putS], by simp [putS]⟩
  | k0 :: ks, x0 :: xs, _, rs, hl, hn => by
    obtain ⟨v0, s, rfl, r0, r1⟩ := rs.uncons
    have hn' := List.nodup_cons.mp hn
    have e : keysV (k0 :: ks) (v0 :: s) = (.inr k0, v0) :: keysV ks s := rfl
    by_cases hk : k0 = k
    · subst hk
      have ep : putS (k0 :: ks) (x0 :: xs) k0 x = (k0 :: ks, x :: xs) := by simp [putS]
      rw [ep, e]
      refine ⟨v :: s, ?_, .cons r r1, hl, hn, by simp⟩
      unfold putK
      rw [if_pos (by simp)]
      rw [List.map_cons, if_pos rfl]
      show _ = (.inr k0, v) :: keysV ks s
      congr 1
      have : ∀ (l : List (Key × V)), (l.any fun kv => decide (kv.1 = (.inr k0 : Key))) = false → l.map (fun kv => if kv.1 = (.inr k0 : Key) then (kv.1, v) else kv) = l := by
        intro l
        induction l with
        | nil => intro _; rfl
        | cons q l ih =>
          intro h
          rw [List.any_cons, Bool.or_eq_false_iff] at h
          rw [List.map_cons, if_neg (of_decide_eq_false h.1), ih h.2]
      exact this _ (keysV_any hn'.1)
    · obtain ⟨us, h1, h2, h3, h4, h5⟩ := putS_put (k := k) r r1 (by simpa using hl) hn'.2
      have ep : putS (k0 :: ks) (x0 :: xs) k x = (k0 :: (putS ks xs k x).1, x0 :: (putS ks xs k x).2) := by simp [putS, hk]
      rw [ep, e]
      refine ⟨v0 :: us, ?_, .cons r0 h2, by simp [h3], ?_, fun j => ?_⟩
      · show _ = (.inr k0, v0) :: keysV (putS ks xs k x).1 us
        rw [← h1]
        have hk' : ¬ ((.inr k0 : Key) = .inr k) := fun z => hk (Sum.inr.inj z)
        unfold putK
        rw [List.any_cons, decide_eq_false hk', Bool.false_or]
        split
        · rw [List.map_cons, if_neg hk']
        · rfl
      · rw [List.nodup_cons]
        refine ⟨fun z => ?_, h4⟩
        rcases (h5 k0).mp z with z | z
        · exact hk z
        · exact hn'.1 z
      · rw [List.mem_cons, h5 j, List.mem_cons]
        constructor
        · rintro (z | z | z)
          · exact .inr (.inl z)
          · exact .inl z
          · exact .inr (.inr z)
        · rintro (z | z | z)
          · exact .inr (.inl z)
          · exact .inl z
          · exact .inr (.inr z)
  | [], _ :: _, _, _, hl, _ => by simp at hl
  | _ :: _, [], _, _, hl, _ => by simp at hl
theorem sd_set {ρ : Rho} {S : Store} {H : Hp} {x y z : PV} {o i v : V} {Q : Hp → Prop} {k : Rho → Store → Hp → Unit → Prop} (q : Rel G.w G.K ρ S H) (ro : Rep G.K ρ H x o) (ri : Rep G.K ρ H y i) (rv : Rep G.K ρ H z v) (h : Aft G E ρ H (oSet x y z S) k)
    (m : ∀ ρ' S' H', Ext ρ H ρ' H' → Rel G.w G.K ρ' S' H' → k ρ' S' H' () → Q H') : rSetU o i v H Q := by
  unfold oSet at h
  split at h
  · rename_i l j
    split at h
    · rename_i xs hx
      split at h
      · rename_i n hn
        unfold Rep at ro
        obtain ⟨a, h1, rfl⟩ := ro
        obtain ⟨c, hc, ca⟩ := q.cell h1
        rw [hx] at hc
        cases hc
        obtain ⟨vs, h2, h3⟩ := ca
        rw [ri.int_of]
        refine .inl ⟨a, vs, j, n, rfl, rfl, h2, by rw [← h3.length, ← ixOf_N]; exact hn, ?_⟩
        have ha : a ∈ ρ.lb := List.mem_of_getElem? h1
        have ew : Ext ρ H ρ (upd H a (.lst (vs.set n v))) := Ext.write ha h2
        have qw := q.write h1 (c := .lst (xs.set n z)) (o := .lst (vs.set n v)) ⟨_, upd_same, Reps.set (Rep.ext ew z v rv) n (Reps.ext ew _ _ h3)⟩
        exact m ρ _ _ ew qw (h ρ _ ew qw)
      · exact h.elim
    · exact h.elim
  · rename_i l j
    split at h
    · rename_i ks xs hx
      split at h
      · rename_i hlim
        unfold Rep at ro
        obtain ⟨a, h1, rfl⟩ := ro
        obtain ⟨c, hc, ca⟩ := q.cell h1
        rw [hx] at hc
        cases hc
        obtain ⟨vs, h2, hl, hn, h3⟩ := ca
        rw [ri.str_of]
        have ha : a ∈ ρ.lb := List.mem_of_getElem? h1
        have hlv := h3.length
        obtain ⟨us, e1, e2, e3, e4, e5⟩ := putS_put (k := j) rv h3 hl hn
        refine .inr ⟨a, _, rfl, DPut.k (k := .inr j) h2 (by rw [keysV_length (by omega)]; exact lim_lt hlim), ?_⟩
        rw [e1]
        have ew : Ext ρ H ρ (upd H a (.dK (keysV (putS ks xs j z).1 us))) := Ext.write ha h2
        have qw := q.write h1 (c := .dks (putS ks xs j z).1 (putS ks xs j z).2) (o := .dK (keysV (putS ks xs j z).1 us)) ⟨_, upd_same, e3, e4, Reps.ext ew _ _ e2⟩
        exact m ρ _ _ ew qw (h ρ _ ew qw)
      · exact h.elim
    · exact h.elim
  · exact h.elim
theorem g_sub (hu : X.A.units + 1 < cLine) (ho : PE X o (tI G E mo)) (hi : PE X i (tI G E mi))
    (ha : ∀ v, assign (.Subscript o i pos) X.env v = (do
      let ov ← holding [v] (eval o X.env)
      let iv ← holding [v, ov] (eval i X.env)
      standAt pos
      holding [v, ov, iv] (setItem ov iv v)
      release [v, ov, iv] []) := by intro _; rfl) : PG X (.Subscript o i pos) (tIG G E [] (gSb mo mi)) :=
  (pg_sub ho hi (set_U hu) ha).imp fun v σ H Q h => by
    obtain ⟨ρ, S, env, x, hR, hE, hx, h⟩ := h
    have h : Aft G E ρ H ((mo env S).bind fun ov S => (mi env S).bind fun iv S => (oSet ov iv x S).bind fun _ S => R.ok env S) (fun ρ' S' H' env' => ∀ σ', EnvR G.K ρ' H' env' σ' → Wp [] σ σ' → Q σ' H') := h
    refine ⟨ρ, S, env, hR, hE, h.step fun ρ1 S1 H1 ov e1 hR1 h1 vo ro => ?_⟩
    refine ⟨ρ1, S1, env, hR1, hE.ext e1, h1.step fun ρ2 S2 H2 iv e2 hR2 h2 vi ri => ?_⟩
    refine sd_set hR2 (Rep.ext e2 _ _ ro) ri (Rep.ext e2 _ _ (Rep.ext e1 _ _ hx)) (Aft.bind h2) fun ρ3 S3 H3 e3 hR3 h3 => ?_
    exact h3.ok hR3 σ (((hE.ext e1).ext e2).ext e3) fun _ _ => rfl
/-! ### methods of lists -/
theorem loc_list {ρ : Rho} {S : Store} {H : Hp} (q : Rel G.w G.K ρ S H) {l : Nat} {xs : List PV} {v : V} (r : Rep G.K ρ H (.loc l) v) (h : S[l]? = some (.lst xs)) : ∃ p vs, v = .ref p ∧ ρ.lb[l]? = some p ∧ H p = some (.lst vs) ∧ Reps G.K ρ H xs vs := by
  unfold Rep at r
  obtain ⟨p, h1, rfl⟩ := r
  obtain ⟨c, hc, ca⟩ := q.cell h1
  rw [h] at hc
  cases hc
  obtain ⟨vs, h2, h3⟩ := ca
  exact ⟨p, vs, rfl, h1, h2, h3⟩
/-- a list of the store is written -/
theorem lst_write {ρ : Rho} {S : Store} {H : Hp} (q : Rel G.w G.K ρ S H) {l : Nat} {p : Addr} {ys : List PV} {us ws : List V} (h1 : ρ.lb[l]? = some p) (h0 : H p = some (.lst ws)) (r : Reps G.K ρ H ys us) : Ext ρ H ρ (upd H p (.lst us)) ∧ Rel G.w G.K ρ (S.set l (.lst ys)) (upd H p (.lst us)) := by
  have ew : Ext ρ H ρ (upd H p (.lst us)) := Ext.write (List.mem_of_getElem? h1) h0
  exact ⟨ew, q.write h1 ⟨us, upd_same, Reps.ext ew _ _ r⟩⟩
section
variable {apos cpos : Pos}
theorem i_append (ho : PE X o (tI G E mo)) (ha : PE X a (tI G E ma)) (hK : X.K = G.K := by rfl) (hs : starEach (a :: []) X.env = (false, eval a X.env) :: starEach [] X.env := by rfl)
    (hbase : attributeBase o "append" X.env (eval o X.env) = eval o X.env := by rfl)
    (hfew : ((backTo cpos (starEach (a :: []) X.env)).all (fun x => !x.1) && (backToKw cpos (keywordEach [] X.env)).all (fun x => x.1.isSome)
      && decide ((a :: []).length + ([] : List Keyword).length + (if ([] : List Keyword).isEmpty then 0 else 1) < 30)) = true := by rfl)
    (hline : (apos.endLine == cpos.line) = true := by rfl) (hplain : (backTo cpos (starEach [] X.env)).any (·.1) = false := by rfl) :
    PE X (.Call (.Attribute o "append" apos) [a] [] cpos) (tI G E (eMeth1 mAppend mo ma)) :=
  (pe_bm PySem.F.plainAttrs_list PySem.F.slot_list_append PySem.F.type_list_append mt_append ho (pa_cons ha pa_nil hs) hbase hfew hline hs hplain).imp fun σ H Q h => by
    obtain ⟨ρ, S, env, hR, hE, h⟩ := h
    refine ⟨ρ, S, env, hR, hE, Aft.step (f := fun x S => _) h fun ρ1 S1 H1 x e1 hR1 h1 v rv => ?_⟩
    cases x with
    | loc l =>
      simp only at h1
      split at h1
      · rename_i xs hx
        obtain ⟨p, vs, rfl, hp, h2, h3⟩ := loc_list hR1 rv hx
        refine ⟨.inl ⟨rfl, vs, SqL.of h2⟩, ρ1, S1, env, hR1, hE.ext e1, h1.step fun ρ2 S2 H2 y e2 hR2 h4 u ru => ?_⟩
        unfold mAppend at h4
        split at h4
        · rename_i ys hy
          split at h4
          · rename_i hl
            obtain ⟨p', us, e', hp', h5, h6⟩ := loc_list hR2 (Rep.ext e2 _ _ rv) hy
            cases e'
            obtain ⟨w1, w2⟩ := lst_write hR2 hp' h5 (h6.append (.cons ru .nil))
            exact ⟨p, us, u, rfl, rfl, h5, by rw [← h6.length]; exact lim_lt hl, h4 ρ2 _ w1 w2 _ Rep.non⟩
          · exact h4.elim
        · exact h4.elim
      · exact h1.elim
    | _ => exact h1.elim
theorem i_extend (ho : PE X o (tI G E mo)) (ha : PE X a (tI G E ma)) (hK : X.K = G.K := by rfl) (hs : starEach (a :: []) X.env = (false, eval a X.env) :: starEach [] X.env := by rfl)
    (hbase : attributeBase o "extend" X.env (eval o X.env) = eval o X.env := by rfl)
    (hfew : ((backTo cpos (starEach (a :: []) X.env)).all (fun x => !x.1) && (backToKw cpos (keywordEach [] X.env)).all (fun x => x.1.isSome)
      && decide ((a :: []).length + ([] : List Keyword).length + (if ([] : List Keyword).isEmpty then 0 else 1) < 30)) = true := by rfl)
    (hline : (apos.endLine == cpos.line) = true := by rfl) (hplain : (backTo cpos (starEach [] X.env)).any (·.1) = false := by rfl) :
    PE X (.Call (.Attribute o "extend" apos) [a] [] cpos) (tI G E (eMeth1 mExtend mo ma)) :=
  (pe_bm PySem.F.plainAttrs_list PySem.F.slot_list_extend PySem.F.type_list_extend mt_extend ho (pa_cons ha pa_nil hs) hbase hfew hline hs hplain).imp fun σ H Q h => by
    obtain ⟨ρ, S, env, hR, hE, h⟩ := h
    refine ⟨ρ, S, env, hR, hE, Aft.step (f := fun x S => _) h fun ρ1 S1 H1 x e1 hR1 h1 v rv => ?_⟩
    cases x with
    | loc l =>
      simp only at h1
      split at h1
      · rename_i xs hx
        obtain ⟨p, vs, rfl, hp, h2, h3⟩ := loc_list hR1 rv hx
        refine ⟨.inl ⟨rfl, vs, SqL.of h2⟩, ρ1, S1, env, hR1, hE.ext e1, h1.step fun ρ2 S2 H2 y e2 hR2 h4 u ru => ?_⟩
        unfold mExtend at h4
        split at h4
        · rename_i ys zs hy hz
          split at h4
          · rename_i hl
            obtain ⟨p', us, e', hp', h5, h6⟩ := loc_list hR2 (Rep.ext e2 _ _ rv) hy
            cases e'
            obtain ⟨b, ws, rfl, h7, h8⟩ := lst_of hR2 ru hz
            obtain ⟨w1, w2⟩ := lst_write hR2 hp' h5 (h6.append h8)
            exact ⟨p, b, us, ws, rfl, rfl, h5, h7, by rw [← h6.length, ← h8.length]; exact lim_le hl, h4 ρ2 _ w1 w2 _ Rep.non⟩
          · exact h4.elim
        · exact h4.elim
      · exact h1.elim
    | _ => exact h1.elim
theorem i_pop (ho : PE X o (tI G E mo)) (hK : X.K = G.K := by rfl) (hbase : attributeBase o "pop" X.env (eval o X.env) = eval o X.env := by rfl) (hline : (apos.endLine == cpos.line) = true := by rfl) :
    PE X (.Call (.Attribute o "pop" apos) [] [] cpos) (tI G E (eMeth0 mPop mo)) :=
  (pe_bm0 PySem.F.plainAttrs_list PySem.F.slot_list_pop PySem.F.type_list_pop mt_pop ho hbase hline).imp fun σ H Q h => by
    obtain ⟨ρ, S, env, hR, hE, h⟩ := h
    refine ⟨ρ, S, env, hR, hE, Aft.step (f := fun x S => _) h fun ρ1 S1 H1 x e1 hR1 h1 v rv => ?_⟩
    cases x with
    | loc l =>
      simp only at h1
      split at h1
      · rename_i xs hx
        obtain ⟨p, vs, rfl, hp, h2, h3⟩ := loc_list hR1 rv hx
        refine ⟨.inl ⟨rfl, vs, SqL.of h2⟩, ?_⟩
        unfold mPop at h1
        rw [hx] at h1
        simp only at h1
        split at h1
        · rename_i y hy
          rw [List.getLast?_eq_getElem?] at hy
          obtain ⟨u, hu, ru⟩ := h3.get hy
          have ed : xs.dropLast = xs.take (xs.length - 1) := List.dropLast_eq_take
          have edv : vs.dropLast = vs.take (vs.length - 1) := List.dropLast_eq_take
          have r2 : Reps G.K ρ1 H1 xs.dropLast vs.dropLast := by rw [ed, edv, h3.length]; exact h3.take _
          obtain ⟨w1, w2⟩ := lst_write hR1 hp h2 r2
          exact ⟨p, vs, u, rfl, rfl, h2, by rw [← h3.length]; exact hu, h1 ρ1 _ w1 w2 _ (Rep.ext w1 _ _ ru)⟩
        · exact h1.elim
      · exact h1.elim
    | _ => exact h1.elim
end
/-! ### attributes -/
end
end

/-! Mini8 -/
/-! Mini8: defs and calls. -/
section
open PySem L2
section
variable {w : World} {K : PySem.W.Frag} {ρ ρ' : Rho} {H : Hp}
/-- ρ' has more cells -/
structure Less (n : Nat) (ρ ρ' : Rho) : Prop where
  len : ρ.lb.length = n
  lb : ∃ m, ρ'.lb = ρ.lb ++ m
  hid : ρ'.hid = ρ.hid
theorem Less.out {n : Nat} (h : Less n ρ ρ') {a : Addr} (o : ρ'.Out a) : ρ.Out a := by
  obtain ⟨m, em⟩ := h.lb
  exact ⟨fun z => o.1 (by rw [em]; exact List.mem_append_left _ z), by rw [← h.hid]; exact o.2⟩
mutual
theorem Rep.less {n : Nat} (hl : Less n ρ ρ') : ∀ (x : PV) (v : V), low n x = true → Rep K ρ' H x v → Rep K ρ H x v
  | .non, _, _, h => by unfold Rep at h ⊢; exact h
  | .bl _, _, _, h => by unfold Rep at h ⊢; exact h
  | .int _, _, _, h => by unfold Rep at h ⊢; exact h
  | .str _, _, _, h => by unfold Rep at h ⊢; exact h
  | .tup xs, v, l, h => by
    unfold Rep at h ⊢
    unfold low at l
    obtain ⟨a, vs, rfl, h1, h3⟩ := h
    refine ⟨a, vs, rfl, ?_, Reps.less hl xs vs l h3⟩
    rcases h1 with ⟨h1, h2⟩ | h1
    · exact .inl ⟨h1, hl.out h2⟩
    · exact .inr h1
  | .ls xs, v, l, h => by
    unfold Rep at h ⊢
    unfold low at l
    obtain ⟨a, vs, rfl, ⟨h1, h2⟩, h3⟩ := h
    exact ⟨a, vs, rfl, ⟨h1, hl.out h2⟩, Reps.less hl xs vs l h3⟩
  | .fz xs, v, l, h => by
    unfold Rep at h ⊢
    unfold low at l
    obtain ⟨a, vs, rfl, h1, h3⟩ := h
    refine ⟨a, vs, rfl, ?_, Reps.less hl xs vs l h3⟩
    rcases h1 with ⟨h1, h2⟩ | h1
    · exact .inl ⟨h1, hl.out h2⟩
    · exact .inr h1
  | .dc ks xs, v, l, h => by
    unfold Rep at h ⊢
    unfold low at l
    obtain ⟨a, vs, rfl, ⟨h1, h2⟩, h4, hn, h3⟩ := h
    exact ⟨a, vs, rfl, ⟨h1, hl.out h2⟩, h4, hn, Reps.less hl xs vs l h3⟩
  | .loc i, v, l, h => by
    unfold Rep at h ⊢
    obtain ⟨a, h1, rfl⟩ := h
    obtain ⟨m, em⟩ := hl.lb
    have hi : i < n := by unfold low at l; exact of_decide_eq_true l
    refine ⟨a, ?_, rfl⟩
    rw [em, List.getElem?_append_left (by rw [hl.len]; exact hi)] at h1
    exact h1
theorem Reps.less {n : Nat} (hl : Less n ρ ρ') : ∀ (xs : List PV) (vs : List V), lows n xs = true → Reps K ρ' H xs vs → Reps K ρ H xs vs
  | [], _, _, h => by unfold Reps at h ⊢; exact h
  | x :: r, vs, l, h => by
    unfold Reps at h ⊢
    unfold lows at l
    rw [Bool.and_eq_true] at l
    obtain ⟨v, s, rfl, h1, h2⟩ := h
    exact ⟨v, s, rfl, Rep.less hl x v l.1 h1, Reps.less hl r s l.2 h2⟩
end
theorem Flds.less {n : Nat} (hl : Less n ρ ρ') : ∀ {fs : List (Str × PV)} {gs : List (Str × V)}, lows n (fs.map Prod.snd) = true → Flds K ρ' H fs gs → Flds K ρ H fs gs
  | [], _, _, h => h
  | (f, x) :: r, _, l, h => by
    obtain ⟨v, s, rfl, h1, h2⟩ := h
    have l : (low n x && lows n (r.map Prod.snd)) = true := l
    rw [Bool.and_eq_true] at l
    exact ⟨v, s, rfl, Rep.less hl x v l.1 h1, Flds.less hl l.2 h2⟩
mutual
theorem keyD_low (n : Nat) : ∀ (x : PV) (d : Nat), keyD d x = true → low n x = true
  | .non, _, _ => by unfold low; rfl
  | .int _, _, _ => by unfold low; rfl
  | .str _, _, _ => by unfold low; rfl
  | .tup xs, 0, h => by unfold keyD at h; cases h
  | .tup xs, d + 1, h => by
    unfold keyD at h
    unfold low
    exact keyDs_low n xs d h
  | .bl _, d, h => by cases d <;> (unfold keyD at h; cases h)
  | .ls _, d, h => by cases d <;> (unfold keyD at h; cases h)
  | .fz _, d, h => by cases d <;> (unfold keyD at h; cases h)
  | .dc _ _, d, h => by cases d <;> (unfold keyD at h; cases h)
  | .loc _, d, h => by cases d <;> (unfold keyD at h; cases h)
theorem keyDs_low (n : Nat) : ∀ (xs : List PV) (d : Nat), xs.all (keyD d) = true → lows n xs = true
  | [], _, _ => by unfold lows; rfl
  | x :: r, d, h => by
    rw [List.all_cons, Bool.and_eq_true] at h
    unfold lows
    rw [Bool.and_eq_true]
    exact ⟨keyD_low n x d h.1, keyDs_low n r d h.2⟩
end
theorem lows_mem {n : Nat} : ∀ {xs : List PV} {x : PV}, lows n xs = true → x ∈ xs → low n x = true
  | y :: r, x, h, hx => by
    unfold lows at h
    rw [Bool.and_eq_true] at h
    rcases List.mem_cons.mp hx with rfl | hx
    · exact h.1
    · exact lows_mem h.2 hx
theorem Rel.less {n : Nat} {S : Store} (hl : Less n ρ ρ') (q : Rel w K ρ' S H) (hn : n ≤ S.length) (l : (S.take n).all (Cell.low n) = true) : Rel w K ρ (S.take n) H := by
  obtain ⟨m, em⟩ := hl.lb
  refine ⟨by rw [hl.len, List.length_take]; omega, ?_, fun i c a h1 h2 => ?_, fun a ha => ?_, q.tabs⟩
  · have := q.nd
    rw [em, List.nodup_append] at this
    exact this.1
  · have hi : i < n := by
      have := (List.getElem?_eq_some_iff.mp h2).1
      rw [hl.len] at this
      exact this
    have h1' : S[i]? = some c := by
      rw [List.getElem?_take, if_pos hi] at h1
      exact h1
    have h2' : ρ'.lb[i]? = some a := by
      rw [em, List.getElem?_append_left (by rw [hl.len]; exact hi)]
      exact h2
    have c1 := q.at_ i c a h1' h2'
    have lc : Cell.low n c = true := List.all_eq_true.mp l c (List.mem_of_getElem? h1)
    cases c with
    | lst xs => obtain ⟨vs, g1, g2⟩ := c1; exact ⟨vs, g1, Reps.less hl _ _ lc g2⟩
    | dks ks xs => obtain ⟨vs, g1, g2, g3, g4⟩ := c1; exact ⟨vs, g1, g2, g3, Reps.less hl _ _ lc g4⟩
    | dki ks xs => obtain ⟨vs, g1, g2, g3, g4⟩ := c1; exact ⟨vs, g1, g2, g3, Reps.less hl _ _ lc g4⟩
    | fki ks xs => obtain ⟨od, vs, g1, g2, g3, g4⟩ := c1; exact ⟨od, vs, g1, g2, g3, Reps.less hl _ _ lc g4⟩
    | dkn ks xs => obtain ⟨kvs, g1, g2⟩ := c1; exact ⟨kvs, g1, g2.imp (fun x v _ hk => Rep.less hl x v (keyD_low n x 8 hk)) fun x v hx => Rep.less hl x v (lows_mem lc hx)⟩
    | fkn ks xs => obtain ⟨od, kvs, g1, g2⟩ := c1; exact ⟨od, kvs, g1, g2.imp (fun x v _ hk => Rep.less hl x v (keyD_low n x 8 hk)) fun x v hx => Rep.less hl x v (lows_mem lc hx)⟩
    | ins C fs => obtain ⟨dx, gs, g1, g2, g3, g4⟩ := c1; exact ⟨dx, gs, g1, g2, hl.out g3, Flds.less hl lc g4⟩
  · obtain ⟨u, n1⟩ := q.hd a (by rw [hl.hid]; exact ha)
    exact ⟨u, fun z => n1 (by rw [em]; exact List.mem_append_left _ z)⟩
end
section
variable {G : Gx} {E : XK}
/-- what a def promises: what the small machine does -/
def spI (G : Gx) (m : XF) : Sp := fun vs H Q E => ∃ ρ S args, Rel G.w G.K ρ S H ∧ Reps G.K ρ H args vs ∧ Aft G E ρ H (m args S) (kV G Q)
theorem envR_start {ρ : Rho} {H : Hp} {N : List Str} {args : List PV} {vs : List V} (r : Reps G.K ρ H args vs) : EnvR G.K ρ H (args.map some ++ List.replicate (N.length - args.length) none) (L2.start N vs) := by
  have hl := r.length
  refine ⟨by simp [L2.start, hl], fun i x hx => ?_⟩
  by_cases hi : i < args.length
  · rw [List.getElem?_append_left (by simpa using hi), List.getElem?_map] at hx
    cases e : args[i]? with
    | none => rw [e] at hx; cases hx
    | some y =>
      rw [e] at hx
      cases hx
      obtain ⟨v, h1, h2⟩ := r.get e
      refine ⟨v, ?_, h2⟩
      unfold L2.start
      rw [List.getElem?_append_left (by simp; omega), List.getElem?_map, h1]
      rfl
  · rw [List.getElem?_append_right (by simp; omega)] at hx
    rw [List.getElem?_replicate] at hx
    split at hx <;> cases hx
theorem leave_ok {ρ ρ' : Rho} {H H' : Hp} {S S' : Store} {v : PV} {u : V} {Q : VK} (hR : Rel G.w G.K ρ S H) (e : Ext ρ H ρ' H') (q : Rel G.w G.K ρ' S' H') (r : Rep G.K ρ' H' v u) (h : Aft G E ρ H (leave S.length v S') (kV G Q)) : Q u H' := by
  unfold leave at h
  split at h
  · exact h ρ' H' e q u r
  · split at h
    · rename_i hlow
      obtain ⟨m, em, hm⟩ := e.more
      have hl : Less S.length ρ ρ' := ⟨hR.len, ⟨m, em⟩, e.hid⟩
      have e2 : Ext ρ H ρ H' := ⟨⟨[], by simp⟩, rfl, e.keep, e.dom, e.fz⟩
      have hn : S.length ≤ S'.length := by
        have h1 := q.len
        have h2 := hR.len
        rw [em, List.length_append] at h1
        omega
      have q2 := Rel.less hl q hn hlow
      unfold out1 at h
      split at h
      · rename_i w hw
        refine h ρ H' e2 q2 u ?_
        cases v with
        | loc l =>
          simp only at hw
          split at hw
          · rename_i hlt
            cases hw
            exact Rep.less hl _ _ (decide_eq_true hlt) r
          · rename_i hge
            split at hw
            · rename_i xs hx
              split at hw
              · rename_i hx2
                cases hw
                unfold Rep at r
                obtain ⟨a, h1, rfl⟩ := r
                obtain ⟨c, hc, ca⟩ := q.cell h1
                rw [hx] at hc
                cases hc
                obtain ⟨vs, g1, g2⟩ := ca
                unfold Rep
                refine ⟨a, vs, rfl, ⟨g1, fun z => ?_, fun z => ?_⟩, Reps.less hl _ _ hx2 g2⟩
                · obtain ⟨i, hi, ei⟩ := List.mem_iff_getElem.mp z
                  have hi2 : i < ρ'.lb.length := by rw [em, List.length_append]; omega
                  have e3 : ρ'.lb[i] = a := by simp only [em]; rw [List.getElem_append_left hi]; exact ei
                  obtain ⟨hl2, el⟩ := List.getElem?_eq_some_iff.mp h1
                  have := (List.getElem_inj q.nd).mp (e3.trans el.symm)
                  rw [hR.len] at hi
                  omega
                · exact (q.hd a (by rw [e.hid]; exact z)).2 (List.mem_of_getElem? h1)
              · cases hw
            · cases hw
        | non => simp only [low, if_true] at hw; cases hw; exact Rep.less hl _ _ (by simp [low]) r
        | bl b => simp only [low, if_true] at hw; cases hw; exact Rep.less hl _ _ (by simp [low]) r
        | int b => simp only [low, if_true] at hw; cases hw; exact Rep.less hl _ _ (by simp [low]) r
        | str b => simp only [low, if_true] at hw; cases hw; exact Rep.less hl _ _ (by simp [low]) r
        | tup b =>
          simp only at hw
          split at hw
          · rename_i hx; cases hw; exact Rep.less hl _ _ hx r
          · cases hw
        | ls b =>
          simp only at hw
          split at hw
          · rename_i hx; cases hw; exact Rep.less hl _ _ hx r
          · cases hw
        | fz b =>
          simp only at hw
          split at hw
          · rename_i hx; cases hw; exact Rep.less hl _ _ hx r
          · cases hw
        | dc k b =>
          simp only at hw
          split at hw
          · rename_i hx; cases hw; exact Rep.less hl _ _ hx r
          · cases hw
      · exact h.elim
    · exact h.elim
variable {P : Program} {w : World} {K : PySem.W.Frag} {mg : Str → Option Value} {base : Heap}
end
/-! ### calls -/
section
variable {G : Gx} {E : XK} {X : Cx} {e o : Expr} {es : List Expr} {x m : Str} {p pos apos : Pos} {ms : XA} {mo : XE} {CX : CXT} {k : Nat} {f C : Addr} {fd : FuncData} {ps : List Str} {mf : XF}
theorem i_call (F : FnOk X.prog X.w X.K X.mg X.base CX k f fd ps (spI G mf)) (hr : Room k X.A) (hg : Gl X x) (hm : X.mg x = some (.ref f)) (hk : PySem.W.keepIn X.K (.ref f) = true) (hb : Binds X.K fd ps []) (hx : Passes CX X E) (ha : PA X (e :: es) (tIA G E ms)) (hdb : (x == ("__debug__" : Str)) = false := by decide)
    (hst : starEach (e :: es) X.env = (false, eval e X.env) :: starEach es X.env := by rfl) (hpl : (backTo pos (starEach es X.env)).any (·.1) = false := by rfl) : PE X (.Call (.Name x p) (e :: es) [] pos) (tI G E (eCall mf ms)) :=
  (pe_call F hr hg hm hk hb .nil hx ha hdb hst hpl).imp fun σ H Q h => by
    obtain ⟨ρ, S, env, hR, hE, h⟩ := h
    refine ⟨ρ, S, env, hR, hE, h.step fun ρ1 S1 H1 xs e1 hR1 h1 vs rvs => ?_⟩
    simp only [List.append_nil]
    exact ⟨ρ1, S1, xs, hR1, rvs, h1⟩
end
end

/-! Mini9 -/
/-! Mini9: words in short for a text's own terms; what the first eight lack. -/
section
open PySem L2
section
variable {G : Gx} {E : XK} {X : Cx} {a b c e o : Expr} {ma mb mc me mo : XE} {pos : Pos}
theorem iv (i : Nat) {x : Str} (hN : X.N[i]? = some x := by rfl) (hv : Vis X.env.scope x := by first | exact Or.inl rfl | exact Or.inr (Or.inl rfl) | exact Or.inr (Or.inr rfl)) (hd : (x == ("__debug__" : Str)) = false := by decide) (hcd : (x == ("__classdict__" : Str)) = false := by decide) :
    PE X (.Name x pos) (tI G E (eVar i)) := i_var hN hv hd hcd
theorem gn {i : Nat} {x : Str} (hN : X.N.Nodup) (hi : X.N[i]? = some x := by rfl) (hx : Loc X.env.scope x := by first | exact Or.inl rfl | exact Or.inr rfl) (hf : X.fn x = true ∨ X.env.scope.names.lookup x = some .local := by first | exact .inl rfl | exact .inr rfl | assumption) :
    PG X (.Name x pos) (tIG G E [i] (gNm i)) := g_name hN hi hx hf
theorem i_gi {x : Str} {i : Int} (h : ∃ t, X.mg x = some (.int i t)) (hg : Gl X x := by rfl) (hd : (x == ("__debug__" : Str)) = false := by decide) : PE X (.Name x pos) (tI G E (eC (.int i))) := by
  obtain ⟨t, h⟩ := h
  exact i_c (pe_glob hg h (v := .int i) ⟨t, rfl⟩ hd) fun _ _ => Rep.int
theorem hu64 {A : Around} {k : Nat} (hr : Room k A) : A.units + 64 < cLine := Nat.lt_of_le_of_lt (Nat.add_le_add_left (by decide : 64 ≤ 64) _) hr.units
theorem m1_of {m : Str} {apos cpos : Pos} (h1 : attributeBase o m X.env (eval o X.env) = eval o X.env := by rfl)
    (h2 : ((backTo cpos (starEach [e] X.env)).all (fun x => !x.1) && (backToKw cpos (keywordEach [] X.env)).all (fun x => x.1.isSome) && decide (([e] : List Expr).length + ([] : List Keyword).length + (if ([] : List Keyword).isEmpty then 0 else 1) < 30)) = true := by rfl)
    (h3 : (apos.endLine == cpos.line) = true := by rfl) (h4 : backTo cpos (starEach [e] X.env) = [(false, eval e X.env)] := by rfl) : M1 X o m apos e cpos := ⟨h1, h2, h3, h4⟩
theorem m2_of {m : Str} {f : Expr} {apos cpos : Pos} (h1 : attributeBase o m X.env (eval o X.env) = eval o X.env := by rfl)
    (h2 : ((backTo cpos (starEach [e, f] X.env)).all (fun x => !x.1) && (backToKw cpos (keywordEach [] X.env)).all (fun x => x.1.isSome) && decide (([e, f] : List Expr).length + ([] : List Keyword).length + (if ([] : List Keyword).isEmpty then 0 else 1) < 30)) = true := by rfl)
    (h3 : (apos.endLine == cpos.line) = true := by rfl) (h4 : backTo cpos (starEach [e, f] X.env) = [(false, eval e X.env), (false, eval f X.env)] := by rfl) : M2 X o m apos e f cpos := ⟨h1, h2, h3, h4⟩
/-! a op1 b op2 c -/
theorem chain_read {o1 o2 : Op2} {r1 r2 : R2} (s1 : Sd2 G E r1 o1) (s2 : Sd2 G E r2 o2) {σ : L2.St} {H : Hp} {Q : VK} (h : tI G E (eChain o1 o2 ma mb mc) σ H Q) : tChain r1 r2 (tI G E ma) (tI G E mb) (tI G E mc) σ H Q := by
  obtain ⟨ρ, S, env, hR, hE, h⟩ := h
  refine ⟨ρ, S, env, hR, hE, h.step fun ρ1 S1 H1 x e1 hR1 h1 v rv => ?_⟩
  refine ⟨ρ1, S1, env, hR1, hE.ext e1, h1.step fun ρ2 S2 H2 y e2 hR2 h2 u ru => ?_⟩
  refine s1 ρ2 S2 H2 x y v u _ hR2 (Rep.ext e2 _ _ rv) ru (h2.step fun ρ3 S3 H3 z e3 hR3 h3 w rw' => ?_)
  split at h3
  · refine ⟨true, rw'.bl_of, ?_⟩
    rw [if_pos rfl]
    refine ⟨ρ3, S3, env, hR3, ((hE.ext e1).ext e2).ext e3, h3.step fun ρ4 S4 H4 z' e4 hR4 h4 w2 rw2 => ?_⟩
    exact s2 ρ4 S4 H4 y z' u w2 _ hR4 (Rep.ext e4 _ _ (Rep.ext e3 _ _ ru)) rw2 h4
  · refine ⟨false, rw'.bl_of, ?_⟩
    rw [if_neg Bool.false_ne_true]
    exact h3.ok hR3 _ Rep.bl
  · exact h3.elim
theorem i_chain {p q : CmpOp} {r1 r2 : R2} {o1 o2 : Op2} (h1 : OpR X (compareOp p) r1) (s1 : Sd2 G E r1 o1) (h2 : OpR X (compareOp q) r2) (s2 : Sd2 G E r2 o2) (ha : PE X a (tI G E ma)) (hb : PE X b (tI G E mb)) (hc : PE X c (tI G E mc))
    (hm : lastMarks [p, q] [b, c] = false := by with_unfolding_all rfl) : PE X (.Compare a [p, q] [b, c] pos) (tI G E (eChain o1 o2 ma mb mc)) :=
  (pe_chain h1 h2 ha hb hc hm).imp fun σ H Q h => chain_read s1 s2 h
theorem j_chain {p q : CmpOp} {r1 r2 : R2} {o1 o2 : Op2} (h1 : OpR X (compareOp p) r1) (s1 : Sd2 G E r1 o1) (h2 : OpR X (compareOp q) r2) (s2 : Sd2 G E r2 o2) (ha : PE X a (tI G E ma)) (hb : PE X b (tI G E mb)) (hc : PE X c (tI G E mc))
    (hm : lastMarks [p, q] [b, c] = false := by with_unfolding_all rfl) : PT X (.Compare a [p, q] [b, c] pos) (tIB G E (bVal (eChain o1 o2 ma mb mc))) :=
  (pt_chain h1 h2 ha hb hc hm).imp fun σ H Q h => chain_read s1 s2 (Q := fun x H' => ∃ k, x = .bl k ∧ Q k H') (by
    obtain ⟨ρ, S, env, hR, hE, h⟩ := h
    refine ⟨ρ, S, env, hR, hE, h.step fun ρ1 S1 H1 x e1 hR1 h1 v rv => ?_⟩
    split at h1
    · rw [rv.bl_of]
      exact ⟨_, rfl, h1.ok hR1⟩
    · exact h1.elim)
/-! reversed -/
theorem i_rev {tg : Expr} {p : Pos} (hg : Gl X "reversed") (hm : X.mg "reversed" = none) (hl : PE X e (tI G E me)) (hK : X.K = G.K := by rfl) (hs : starEach [e] X.env = [(false, eval e X.env)] := by rfl) :
    PI X tg (.Call (.Name "reversed" p) [e] [] pos) (tII G E (iRev me)) :=
  (pi_reversed hg hm (pa_cons hl pa_nil hs) hs).imp fun σ H R h => by
    obtain ⟨ρ, S, env, hR, hE, h⟩ := h
    refine ⟨ρ, S, env, hR, hE, h.step fun ρ1 S1 H1 x e1 hR1 h1 v rv => ?_⟩
    obtain ⟨⟨all, ha⟩, k⟩ := h1.ok hR1
    simp only [It.items] at ha
    cases x with
    | ls zs =>
      have r1 := rv
      unfold Rep at r1
      obtain ⟨a, vs, rfl, ⟨h2, h3⟩, h4⟩ := r1
      have sq : SqL X.K H1 a vs := .inl (.inl h2)
      refine ⟨a, vs, rfl, sq, ?_⟩
      rw [hK]
      refine k _ (src_rev fun ρ2 ρh S2 H2 ys e2 hd q h => ?_)
      cases h
      have r2 := Rep.extH e2 hd rv
      unfold Rep at r2
      obtain ⟨a', vs', e', ⟨g1, g2⟩, g3⟩ := r2
      cases e'
      exact ⟨h4.length, vs', .inl (.inl g1), g3⟩
    | _ => simp [lsOf] at ha
/-! new lists of the store -/
theorem fin_new {Q : VK} : Fin G E (fun xs S => R.ok (PV.loc S.length) (S ++ [.lst xs])) Q := by
  intro ρ1 H1 ρ2 S1 S2 H2 D acc vs hD hR1 e2 hR2 hD2 nD ra h2
  have nh : D ∉ ρ2.hid := fun z => by
    rw [e2.hid] at z
    obtain ⟨⟨o, ho, _⟩, _⟩ := hR1.hd D z
    rw [hD] at ho; cases ho
  refine h2 (ρ2.add D) H2 (e2.adopt hD) (hR2.adopt nh ⟨vs, hD2, Reps.adopt _ _ ra⟩) _ ?_
  unfold Rep
  refine ⟨D, ?_, rfl⟩
  have ql : ρ2.lb.length = S2.length := hR2.len
  show (ρ2.lb ++ [D])[S2.length]? = some D
  rw [← ql]
  simp
variable {iter tg : Expr} {mi : XI} {is : List Nat} {g : XG}
theorem lc_readN {wi : TI} {tt : TT} {te : TE} {tg' : TG} {own : List Nat} {mt : XB} {me : XE} {σ : L2.St} {H : Hp} {Q : VK} (hw : ∀ σ H R, tII G E mi σ H R → wi σ H R) (hg : ∀ v σ H Q, tIG G E0 is g v σ H Q → tg' v σ H Q) (ht : ∀ σ H Q, tIB G E0 mt σ H Q → tt σ H Q) (he : ∀ σ H Q, tI G E0 me σ H Q → te σ H Q) (hown : ∀ i ∈ is, i ∈ own)
    (h : tI G E (eLcN mi g mt me own) σ H Q) : tLc wi tg' tt te own σ H Q := lc_readF fin_new hw hg ht he hown h
theorem i_lcN {elt tg iter : Expr} {ifs : List Expr} {scope : Scope} {own : List (Str × Nat)} {pos : Pos} {mt : XB} {me : XE} (hc : X.calm = true) (hN : X.N.Nodup) (hi : PI X tg iter (tII G E mi)) (ok : BlkOk X.N X.env.scope scope own)
    (hg : ∀ (s : Shared) (H : Hp) (C : Addr) (cl : List (Str × Addr)) (fp : List Addr), PG (X.blk s H scope (compEnvC scope cl C X.env) fp) tg (tIG G E0 is g)) (ht : ∀ (s : Shared) (H : Hp) (C : Addr) (cl : List (Str × Addr)) (fp : List Addr), PTs (X.blk s H scope (compEnvC scope cl C X.env) fp) ifs (tIB G E0 mt))
    (he : ∀ (s : Shared) (H : Hp) (C : Addr) (cl : List (Str × Addr)) (fp : List Addr), PE (X.blk s H scope (compEnvC scope cl C X.env) fp) elt (tI G E0 me)) (hown : ∀ i ∈ is, i ∈ own.map (·.2) := by decide) (hs : ∀ x, foldedSetIterable iter X.env x = pure x := by intro _; rfl) :
    PE X (.ListComp elt [⟨tg, iter, ifs, 0⟩] scope pos) (tI G E (eLcN mi g mt me (own.map (·.2)))) :=
  (pe_lc hc hN hi ok hg ht he hs).imp fun σ H Q h => lc_readF fin_new (fun _ _ _ q => q) (fun _ _ _ _ q => q) (fun _ _ _ q => q) (fun _ _ _ q => q) hown h
theorem s_setLcN {i : Nat} {y : Str} {py : Pos} {elt tg iter : Expr} {ifs : List Expr} {scope : Scope} {own : List (Str × Nat)} {pos spos : Pos} {mt : XB} {me : XE} (hc : X.calm = true) (hN : X.N.Nodup) (hy : X.N[i]? = some y) (hyl : X.env.scope.names.lookup y = some .local)
    (hsw : swapsWith (.ListComp elt [⟨tg, iter, ifs, 0⟩] scope pos) (some (.Name y py)) spos.line X.env = pure true) (hi : PI X tg iter (tII G E mi)) (ok : BlkOk X.N X.env.scope scope own)
    (hg : ∀ (s : Shared) (H : Hp) (C : Addr) (cl : List (Str × Addr)) (fp : List Addr), PG (X.blk s H scope (compEnvC scope cl C X.env) fp) tg (tIG G E0 is g)) (ht : ∀ (s : Shared) (H : Hp) (C : Addr) (cl : List (Str × Addr)) (fp : List Addr), PTs (X.blk s H scope (compEnvC scope cl C X.env) fp) ifs (tIB G E0 mt))
    (he : ∀ (s : Shared) (H : Hp) (C : Addr) (cl : List (Str × Addr)) (fp : List Addr), PE (X.blk s H scope (compEnvC scope cl C X.env) fp) elt (tI G E0 me)) (hown : ∀ i ∈ is, i ∈ own.map (·.2) := by decide) (hs : ∀ x, foldedSetIterable iter X.env x = pure x := by intro _; rfl) :
    PS X (.Assign [.Name y py] (.ListComp elt [⟨tg, iter, ifs, 0⟩] scope pos) spos) (tIS G E (sAsg (eLcN mi g mt me (own.map (·.2))) (gNm i))) :=
  (ps_setLc hc hN hy hyl hsw hi ok hg ht he hs).imp fun D σ H h => by
    obtain ⟨ρ, S, env, hR, hE, h⟩ := h
    refine lc_readN (Q := fun x H1 => gName i x σ H1 D.nx) (fun _ _ _ q => q) (fun _ _ _ _ q => q) (fun _ _ _ q => q) (fun _ _ _ q => q) hown ⟨ρ, S, env, hR, hE, h.step fun ρ1 S1 H1 x e1 hR1 h1 v rv => ?_⟩
    exact h1.ok hR1 _ ((hE.ext e1).set i rv)
/-! a, b = x, y -/
theorem s_par {i j : Nat} {x y : Str} {ms : XA} {px py pt : Pos} {kt k2 pt2} (hc : X.calm = true) (hN : X.N.Nodup) (hi : X.N[i]? = some x) (hj : X.N[j]? = some y) (hij : i ≠ j)
    (hx : X.env.scope.names.lookup x = some .local) (hy : X.env.scope.names.lookup y = some .local) (ha : PA X [a, b] (tIA G E ms))
    (hw : swappedStores [.Tuple [.Name x px, .Name y py] kt pt] (.Tuple [a, b] k2 pt2) X.env = pure (some [x, y]))
    (hs : swapsWithSole [.Tuple [.Name x px, .Name y py] kt pt] (.Tuple [a, b] k2 pt2) pos.line X.env = pure false := by rfl) :
    PS X (.Assign [.Tuple [.Name x px, .Name y py] kt pt] (.Tuple [a, b] k2 pt2) pos) (tIS G E (sPar i j ms)) :=
  (ps_par hc hN hi hj hij hx hy ha hw hs).imp fun D σ H h => by
    obtain ⟨ρ, S, env, hR, hE, h⟩ := h
    refine ⟨ρ, S, env, hR, hE, h.step fun ρ1 S1 H1 xs e1 hR1 h1 vs rvs => ?_⟩
    split at h1
    · obtain ⟨v, u, rfl, rv, ru⟩ := two_of rvs
      exact ⟨v, u, rfl, h1.ok hR1 _ (((hE.ext e1).set i rv).set j ru)⟩
    · exact h1.elim
end
/-! ### defs by their data, calls -/
section
variable {G : Gx} {P : Program} {w : World} {K : PySem.W.Frag} {mg : Str → Option Value} {base : Heap} {xc : Str → Option Value}
theorem def_PD {x qual : Str} {params : Arguments} {body : List Stmt} {scope : Scope} {dvs : List V} {kws : List (Str × V)} {f : Addr} {fd : FuncData} {N ps : List Str} {k : Nat} {mb : XS} (F : FunD K x qual params body scope dvs kws f fd) (sc : FnScope N ps scope)
    (hb : ∀ (cdv : Value) (A : Around) (outer : List PySem.Env) (s : Shared) (H : Hp) (E : XK), Room k (A.deeper (PyProof.Rows.envOfC qual scope s.heap.objs.size f cdv)) →
      PSs (cxOf (L2.CX P w) P w K mg base N qual scope f cdv A outer s H E) body (tIS G E mb)) : FnOk P w K mg base (L2.CX P w) (k + 1) f fd ps (spI G (fnP ps.length N.length mb)) := by
  refine F.ok sc (fun vs H Q E h => ?_) (fun cdv A outer s H vs Q E hr h => ⟨_, hb cdv A outer s H E hr, ?_⟩)
  · obtain ⟨ρ, S, args, hR, ra, h⟩ := h
    unfold fnP at h
    split at h
    · rename_i hl
      rw [← ra.length, hl]
    · exact h.elim
  · obtain ⟨ρ, S, args, hR, ra, h⟩ := h
    unfold fnP at h
    split at h
    · refine ⟨ρ, S, _, hR, envR_start ra, ?_⟩
      cases hm : mb (args.map some ++ List.replicate (N.length - args.length) none) S with
      | bad => rw [hm] at h; exact h
      | exc e S' => rw [hm] at h; exact h
      | ok p S' =>
        rw [hm] at h
        simp only [R.bind_ok] at h
        obtain ⟨fl, env'⟩ := p
        intro ρ' H' e q
        cases fl with
        | rt v => exact fun u ru => leave_ok hR e q ru h
        | nx => exact fun σ' hE' => leave_ok hR e q Rep.non h
        | bk => exact h.elim
        | ct => exact h.elim
    · exact h.elim
theorem def_KD {x qual : Str} {params : Arguments} {body : List Stmt} {scope : Scope} {dvs : List V} {kws : List (Str × V)} {f : Addr} {fd : FuncData} {N ps : List Str} {k : Nat} {mb : XS} (F : FunD K x qual params body scope dvs kws f fd) (sc : FnScope N ps scope)
    (hb : ∀ (cdv : Value) (A : Around) (outer : List PySem.Env) (s : Shared) (H : Hp) (E : XK), Room k (A.deeper (PyProof.Rows.envOfC qual scope s.heap.objs.size f cdv)) →
      PSs (cxOf (L2.CX P w) P w K mg base N qual scope f cdv A outer s H E) body (tIS G E mb)) : FnOk P w K mg base (L2.CX P w) (k + 1) f fd ps (spI G (fnK ps.length N.length mb)) := by
  refine F.ok sc (fun vs H Q E h => ?_) (fun cdv A outer s H vs Q E hr h => ⟨_, hb cdv A outer s H E hr, ?_⟩)
  · obtain ⟨ρ, S, args, hR, ra, h⟩ := h
    unfold fnK at h
    split at h
    · rename_i hl
      rw [← ra.length, hl]
    · exact h.elim
  · obtain ⟨ρ, S, args, hR, ra, h⟩ := h
    unfold fnK at h
    split at h
    · refine ⟨ρ, S, _, hR, envR_start ra, ?_⟩
      cases hm : mb (args.map some ++ List.replicate (N.length - args.length) none) S with
      | bad => rw [hm] at h; exact h
      | exc e S' => rw [hm] at h; exact h
      | ok p S' =>
        rw [hm] at h
        simp only [R.bind_ok] at h
        obtain ⟨fl, env'⟩ := p
        intro ρ' H' e q
        cases fl with
        | rt v => exact fun u ru => h ρ' H' e q u ru
        | nx => exact fun σ' hE' => h ρ' H' e q _ Rep.non
        | bk => exact h.elim
        | ct => exact h.elim
    · exact h.elim
/-- what a caller needs of a def -/
def Cl (P : Program) (w : World) (K : PySem.W.Frag) (mg : Str → Option Value) (base : Heap) (xc : Str → Option Value) (x : Str) (ps : List Str) (k : Nat) (m : XF) : Prop :=
  ∃ fd, FnOk P w K mg base (L2.CX P w) k (He.ga K x) fd ps (spI ⟨K, xc, w⟩ m) ∧ mg x = some (.ref (He.ga K x)) ∧ PySem.W.keepIn K (.ref (He.ga K x)) = true ∧ Binds K fd ps [] ∧ ∃ oc od osl, K.lookup (He.ga K x) = some ⟨oc, od, .func fd, osl⟩
theorem lkF {x qual : Str} {params : Arguments} {body : List Stmt} {scope : Scope} {dvs : List V} {kws : List (Str × V)} {f : Addr} {fd : FuncData} (F : FunD K x qual params body scope dvs kws f fd) : ∃ oc od osl, K.lookup f = some ⟨oc, od, .func fd, osl⟩ := by
  obtain ⟨oc, od, dV, kV, doc, pm, an, cdv, ct, osl, e1, l1, _⟩ := F.ex
  exact ⟨oc, od, osl, l1⟩
end
section
variable {E : XK} {X : Cx} {e o : Expr} {es : List Expr} {x m C : Str} {p pos apos : Pos} {ms : XA} {mo : XE} {k : Nat} {ps : List Str} {mf : XF} {xc : Str → Option Value}
theorem i_callC (c : Cl X.prog X.w X.K X.mg X.base xc x ps k mf) (hr : Room k X.A) (hg : Gl X x) (hx : Passes (L2.CX X.prog X.w) X E) (ha : PA X (e :: es) (tIA ⟨X.K, xc, X.w⟩ E ms)) (hdb : (x == ("__debug__" : Str)) = false := by decide)
    (hst : starEach (e :: es) X.env = (false, eval e X.env) :: starEach es X.env := by rfl) (hpl : (backTo pos (starEach es X.env)).any (·.1) = false := by rfl) : PE X (.Call (.Name x p) (e :: es) [] pos) (tI ⟨X.K, xc, X.w⟩ E (eCall mf ms)) := by
  obtain ⟨fd, h1, h2, h3, h4, _⟩ := c
  exact i_call h1 hr hg h2 h3 h4 hx ha hdb hst hpl
end
end

/-! Mini10 -/
/-! Mini10: dicts of the top by their text; a def of which nothing is asked. -/
section
open PySem L2

theorem relP_ok {K : PySem.W.Frag} : ∀ (n : Nat) (x : PV) (u : Value), relP K n x u = true → ∃ v, RelV v u ∧ ∀ ρ H, Rep K ρ H x v
  | n, .int i, u, h => by
    cases u with
    | int j t =>
      unfold relP at h
      have e : i = j := of_decide_eq_true h
      exact ⟨.int i, ⟨t, by rw [e]⟩, fun _ _ => Rep.int⟩
    | _ => unfold relP at h; cases h
  | n, .str x, u, h => by
    cases u with
    | str y t =>
      unfold relP at h
      have e : x = y := of_decide_eq_true h
      exact ⟨.str x, ⟨t, by rw [e]⟩, fun _ _ => Rep.str⟩
    | _ => unfold relP at h; cases h
  | n + 1, .tup xs, u, h => by
    cases u with
    | ref a =>
      unfold relP at h
      split at h
      · rename_i c o its m sl hl
        simp only [Bool.and_eq_true, decide_eq_true_eq] at h
        obtain ⟨rfl, h2, h3, h4⟩ := h
        have key : ∀ (xs : List PV) (us : List Value), xs.length = us.length → (∀ p ∈ xs.zip us, relP K n p.1 p.2 = true) → ∃ vs, Vals vs us ∧ ∀ ρ H, Reps K ρ H xs vs := by
          intro xs
          induction xs with
          | nil =>
            intro us hl _
            have : us = [] := List.eq_nil_of_length_eq_zero hl.symm
            subst this
            exact ⟨[], .nil, fun _ _ => Reps.nil⟩
          | cons x r ih =>
            intro us hl hz
            cases us with
            | nil => cases hl
            | cons u us =>
              obtain ⟨v, r1, r2⟩ := relP_ok n x u (hz (x, u) (by simp))
              obtain ⟨vs, q1, q2⟩ := ih us (by simpa using hl) fun p hp => hz p (by simp [hp])
              exact ⟨v :: vs, .cons r1 q1, fun ρ H => .cons (r2 ρ H) (q2 ρ H)⟩
        obtain ⟨vs, q1, q2⟩ := key xs its.toList h3 (List.all_eq_true.mp h4)
        refine ⟨.ref a, rfl, fun ρ H => ?_⟩
        unfold Rep
        exact ⟨a, vs, rfl, .inr ⟨_, its, m, hl, rfl, rfl, h2, q1⟩, q2 ρ H⟩
      · cases h
    | _ => unfold relP at h; cases h
  | 0, .tup xs, u, h => by cases u <;> (unfold relP at h; cases h)
  | n, .non, u, h => by cases u <;> (unfold relP at h; cases h)
  | n, .bl _, u, h => by cases u <;> (unfold relP at h; cases h)
  | n, .ls _, u, h => by cases u <;> (unfold relP at h; cases h)
  | n, .fz _, u, h => by cases u <;> (unfold relP at h; cases h)
  | n, .dc _ _, u, h => by cases u <;> (unfold relP at h; cases h)
  | n, .loc _, u, h => by cases u <;> (unfold relP at h; cases h)


theorem tab_of {K : PySem.W.Frag} {k : Str} : ∀ (es : List DictEntry) (ks : List Str) (xs : List PV), es.map keyStr = ks.map some → xs.length = es.length → (∀ p ∈ xs.zip es, relP K 4 p.1 p.2.val = true) →
    ∃ v, RelV v (((es.find? fun e => Value.isStrOf k e.key).map (·.val)).getD .none) ∧ ∀ ρ H, Rep K ρ H ((lookS ks xs k).getD .non) v
  | [], ks, xs, h1, h2, h3 => by
    have : ks = [] := by cases ks with | nil => rfl | cons a b => cases h1
    subst this
    have : xs = [] := List.eq_nil_of_length_eq_zero h2
    subst this
    exact ⟨.non, rfl, fun ρ H => Rep.non⟩
  | e :: es, ks, xs, h1, h2, h3 => by
    cases ks with
    | nil => cases h1
    | cons y ks =>
      cases xs with
      | nil => cases h2
      | cons x xs =>
        have a1 : keyStr e = some y := (List.cons.inj h1).1
        have a2 := (List.cons.inj h1).2
        obtain ⟨v, ih1, ih2⟩ := tab_of es ks xs a2 (by simpa using h2) fun p hp => h3 p (by simp [hp])
        obtain ⟨v0, r1, r2⟩ := relP_ok 4 x e.val (h3 (x, e) (by simp))
        have ek : ∃ t, e.key = .str y t := by
          unfold keyStr at a1
          split at a1
          · rename_i z t hz
            cases a1
            exact ⟨t, hz⟩
          · cases a1
        obtain ⟨t, ek⟩ := ek
        by_cases hy : y = k
        · refine ⟨v0, ?_, fun ρ H => ?_⟩
          · rw [List.find?_cons_of_pos (by rw [ek]; show (Value.isStrOf k (.str y t)) = true; simp [Value.isStrOf, hy])]
            exact r1
          · unfold lookS
            rw [if_pos hy]
            exact r2 ρ H
        · refine ⟨v, ?_, fun ρ H => ?_⟩
          · rw [List.find?_cons_of_neg (by rw [ek]; show ¬ (Value.isStrOf k (.str y t)) = true; simp [Value.isStrOf, hy])]
            exact ih1
          · unfold lookS
            rw [if_neg hy]
            exact ih2 ρ H
theorem dictP_ok {K : PySem.W.Frag} {w : World} {a : Addr} {ks : List Str} {xs : List PV} {es : Array DictEntry} {n : Nat} (D : KDict K w a es n) (h : dictP K a ks xs = true) : Tab K es ks xs := by
  unfold dictP at h
  rw [D.at_] at h
  simp only [Bool.and_eq_true, decide_eq_true_eq] at h
  obtain ⟨h1, h2, h3⟩ := h
  intro k
  have q := tab_of (k := k) es.toList ks xs h1 h2 (List.all_eq_true.mp h3)
  unfold findBy
  rw [← Array.find?_toList]
  exact q
theorem i_kgetT {E : XK} {X : Cx} {e : Expr} {me : XE} {xc : Str → Option Value} {x : Str} {p apos cpos : Pos} {ks : List Str} {xs : List PV} (h : ∃ a es n, X.mg x = some (.ref a) ∧ KDict X.K X.w a es n ∧ Tab X.K es ks xs) (hg : Gl X x) (he : PE X e (tI ⟨X.K, xc, X.w⟩ E me))
    (m : M1 X (.Name x p) "get" apos e cpos) (hd : (x == ("__debug__" : Str)) = false := by decide) : PE X (.Call (.Attribute (.Name x p) "get" apos) [e] [] cpos) (tI ⟨X.K, xc, X.w⟩ E (eGetS ks xs me)) := by
  obtain ⟨a, es, n, h1, h2, h3⟩ := h
  exact i_kget hg h1 h2.at_ h2.lit h2.low h3 he m hd
theorem def_bad {G : Gx} {P : Program} {w : World} {K : PySem.W.Frag} {mg : Str → Option Value} {base : Heap} {CX : CXT} {x qual : Str} {params : Arguments} {body : List Stmt} {scope : Scope} {dvs : List V} {kws : List (Str × V)} {f : Addr} {fd : FuncData} {N ps : List Str} {k : Nat} (F : FunD K x qual params body scope dvs kws f fd) (sc : FnScope N ps scope) :
    FnOk P w K mg base CX (k + 1) f fd ps (spI G fun _ _ => .bad) := by
  refine F.ok sc (fun vs H Q E h => ?_) (fun cdv A outer s H vs Q E hr h => ?_)
  · obtain ⟨ρ, S, args, hR, ra, h⟩ := h
    exact h.elim
  · obtain ⟨ρ, S, args, hR, ra, h⟩ := h
    exact h.elim
end

/-! MiniU -/
/-! MiniU: d.update(e), e written out, texts the keys. -/
section
open PySem PySem.Spec PyProof.Rows L2
end

/-! Mini11 -/
/-! Mini11: a law's end. -/
section
open PySem L2
/-- a law that is true at every script, by the small machine -/
theorem law_end {l : PySem.W.OpenLaw} {P : Program} {w : World} {K : PySem.W.Frag} {mg : Str → Option Value} {h : Heap} {fa : Addr} {k : Nat} {x : Str} {m : XF} {d : He.DefD} {xc : Str → Option Value}
    (F : ∃ fd, FunD K d.name d.qual d.params d.body d.scope (d.dvs K) (d.kws K) (He.fAd K d.at_) fd) (hmg : mg ("law" : Str) = some (.ref fa)) (hg : mg ("law" : Str) = some (.ref (He.ga K "law")))
    (hT : ∀ p ∈ KD, h.get? (He.cT K p).2 = some { cls := .none, data := .fields #[] } ∧ K.lookup (He.cT K p).2 = none ∧ PySem.W.CodeHd h (He.cT K p).1 (He.cT K p).2)
    (hc : ∀ base, (∀ p ∈ KD, LamX.TabB base mg (He.cT K p).1 (He.cT K p).2) → Cl P w K mg base xc "law" [x] k m) (hm : ∀ ns : List Int, ns.length ≤ 63 → (∀ z ∈ ns, Builtin.Int.intBits z ≤ 1048576) → ∃ S, m [.fz (ns.map .int)] [] = .ok (.bl true) S)
    (hP : l.prog = P := by rfl) (hd0 : He.fAd K d.at_ = He.ga K "law" := by rfl) (hdv : d.dvs K = [] := by rfl) (hkw : d.kws K = [] := by rfl)
    (hbi : ∀ (kV doc pm : Value) (an : Option Addr) (cdv ct : Value) (us : List Value), us.length = 1 → bindArgs (PySem.W.fnOf d.name d.qual d.params d.body d.scope .none kV doc pm an cdv ct) ⟨us, []⟩ = pure ([x].zip us) := by exact fun _ _ _ _ _ _ us hl => match us, hl with | [_], _ => rfl) :
    LamX.LawAtS l w K (L2.CX P w) k 63 x mg fa h := by
  subst hP
  have e : fa = He.ga K "law" := by
    rw [hg] at hmg
    cases hmg
    rfl
  subst e
  obtain ⟨fd, F⟩ := F
  rw [hdv, hkw, hd0] at F
  refine ⟨fd, KD.map (He.cT K), spI ⟨K, xc, w⟩ m, ?_, ?_, ?_, fun s u => F.bindsA (ps := [x]) hbi s [u] rfl, ?_, ?_⟩
  · intro p hp
    obtain ⟨q, hq, rfl⟩ := List.mem_map.mp hp
    exact (hT q hq).1
  · intro p hp
    obtain ⟨q, hq, rfl⟩ := List.mem_map.mp hp
    exact (hT q hq).2.1
  · intro p hp
    obtain ⟨q, hq, rfl⟩ := List.mem_map.mp hp
    exact (hT q hq).2.2
  · intro H a ns hl hb hcs hS
    obtain ⟨S, hm⟩ := hm ns hl hb
    refine ⟨⟨[], []⟩, [], [.fz (ns.map .int)], ⟨rfl, List.nodup_nil, fun l c a h1 h2 => (by cases h1), fun a ha => (by cases ha), fun p hp => ?_⟩, ?_, ?_⟩
    · obtain ⟨q, hq, rfl⟩ := List.mem_map.mp hp
      exact LamX.TabS.nil (hcs _ (List.mem_map_of_mem hq))
    · refine Reps.cons ?_ Reps.nil
      unfold Rep
      refine ⟨a, ns.map V.int, rfl, ?_, ?_⟩
      · rcases hS with hS | hS
        · exact .inl ⟨hS, by simp [Rho.Out]⟩
        · exact .inr hS
      · clear hm hS hl hb
        induction ns with
        | nil => exact Reps.nil
        | cons i r ih => exact .cons Rep.int ih
    · show Aft _ _ _ _ (m [.fz (ns.map .int)] []) _
      rw [hm]
      intro ρ' H' e q v rv
      exact rv.bl_of
  · intro base hB hN hTB
    obtain ⟨fd2, h1, _, _, _, oc2, od2, osl2, l2⟩ := hc base fun p hp => hTB _ (List.mem_map_of_mem hp)
    obtain ⟨oc, od, osl, l1⟩ := lkF F
    rw [l1] at l2
    cases l2
    exact h1
end

/-! Mini12 -/
/-! Mini12: f-strings, raise. -/
section
open PySem L2
/-- {e} -/
def eFmt (m : XE) : XE := fun env S => (m env S).bind fun x S1 => match x with
  | .str y => if y.length ≤ lim then .ok (.str y) S1 else .bad
  | .int i => if i.natAbs.log2 < 1920 then .ok (.str (toString i : String)) S1 else .bad
  | _ => .bad
def jGo : List XE → Str → XE
  | [], acc, _, S => .ok (.str acc) S
  | m :: ms, acc, env, S => (m env S).bind fun x S1 => match x with
    | .str y => if (acc ++ y).length ≤ lim then jGo ms (acc ++ y) env S1 else .bad
    | _ => .bad
/-- f'..' of two parts or more -/
def eJoin (ms : List XE) : XE := jGo ms Str.empty
section
variable {G : Gx} {E : XK} {X : Cx} {e : Expr} {me : XE} {pos p pos' : Pos}
theorem i_fmt (he : PE X e (tI G E me)) : PE X (.FormattedValue e (-1) none pos) (tI G E (eFmt me)) :=
  (pe_fmt he).imp fun σ H Q h => by
    obtain ⟨ρ, S, env, hR, hE, h⟩ := h
    refine ⟨ρ, S, env, hR, hE, h.step fun ρ1 S1 H1 x e1 hR1 h1 v rv => ?_⟩
    cases x with
    | str y =>
      simp only at h1
      split at h1
      · rename_i hy
        exact .inl ⟨y, rv.str_of, lim_le hy, h1.ok hR1 _ Rep.str⟩
      · exact h1.elim
    | int i =>
      simp only at h1
      split at h1
      · rename_i hi
        exact .inr ⟨i, rv.int_of, hi, h1.ok hR1 _ Rep.str⟩
      · exact h1.elim
    | _ => exact h1.elim
inductive JS (G : Gx) (E : XK) (X : Cx) : List Expr → List XE → Prop where
  | nil : JS G E X [] []
  | cons {e : Expr} {m : XE} {es : List Expr} {ms : List XE} (h : PE X e (tI G E m)) (r : JS G E X es ms) : JS G E X (e :: es) (m :: ms)
theorem JS.pj {es : List Expr} {ms : List XE} (h : JS G E X es ms) : PJ X es (ms.map (tI G E)) := by
  induction h with
  | nil => exact .nil
  | cons h _ ih => exact .cons h ih
theorem js_read {σ : L2.St} {env : Env} {Q : VK} : ∀ (ms : List XE) (acc : Str) (ρ : Rho) (S : Store) (H : Hp), Rel G.w G.K ρ S H → EnvR G.K ρ H env σ → Aft G E ρ H (jGo ms acc env S) (kV G Q) → tJs (ms.map (tI G E)) acc σ H fun out H1 => Q (.str out) H1
  | [], acc, ρ, S, H, hR, hE, h => h.ok hR _ Rep.str
  | m :: ms, acc, ρ, S, H, hR, hE, h => by
    refine ⟨ρ, S, env, hR, hE, Aft.step h fun ρ1 S1 H1 x e1 hR1 h1 v rv => ?_⟩
    cases x with
    | str y =>
      simp only at h1
      split at h1
      · rename_i hy
        exact ⟨y, rv.str_of, lim_le hy, js_read ms _ ρ1 S1 H1 hR1 (hE.ext e1) h1⟩
      · exact h1.elim
    | _ => exact h1.elim
theorem i_join {v1 v2 : Expr} {rest : List Expr} {ms : List XE} (h : JS G E X (v1 :: v2 :: rest) ms) : PE X (.JoinedStr (v1 :: v2 :: rest) pos) (tI G E (eJoin ms)) :=
  (pe_joined h.pj).imp fun σ H Q q => by
    obtain ⟨ρ, S, env, hR, hE, q⟩ := q
    exact js_read ms _ ρ S H hR hE q
/-- what is known of an own class that is raised -/
structure Own (K : PySem.W.Frag) (xc : Str → Option Value) (x : Str) (C : Addr) : Prop where
  q : PySem.W.excIn K C He.veBase "ValueError.__new__" = true
  kC : PySem.W.keepIn K (.ref C) = true
  h1 : PySem.W.subIn K (.ref C) (.type "BaseException") = some true
  h2 : PySem.W.typeIn K (.ref C) = some (.type "type")
  hx : xc x = some (.ref C)
end
end

/-! Mini13 -/
/-! Mini13: list.count of truth values; a def that tells the class of what its lambda lets out. -/
section
open PySem L2
section
variable {X : Cx}
def eqkB (k : Bool) (v : Value) : Bool := match v with
  | .bool b => b == k
  | _ => false
theorem blsVals {us : List Value} {bs : List Bool} (r : Vals (bs.map V.bl) us) : us = bs.map Value.bool := by
  induction bs generalizing us with
  | nil => cases r; rfl
  | cons b bs ih =>
    cases r with
    | cons h t =>
      cases h
      rw [ih t]
      rfl
def rCntB (K : PySem.W.Frag) : V → List V → Hp → VK → Prop := fun x xs H Q => ∃ (p : Addr) (bs : List Bool) (k : Bool), x = .ref p ∧ xs = [.bl k] ∧ SqL K H p (bs.map V.bl) ∧ Q (.int (bs.count k : Nat)) H
theorem mt_bcount : MtR X "list.count" (rCntB X.K) := by
  intro pins s σ H x xs v us Q I rx rxs h
  obtain ⟨p, bs, k, rfl, rfl, hs, q⟩ := h
  cases rx
  obtain ⟨u, rfl, ru⟩ := rxs.one
  cases ru
  obtain ⟨its, rv, ⟨⟨cls, dd, data, sl⟩, n, ho, hc, hdn, hd⟩, hlen⟩ := I.list hs
  simp only at hc hd
  subst hc hd
  have hi := blsVals rv
  refine call_meets PySem.F.slot_list_count ⟨_, ho, rfl⟩ PySem.F.entry_list_count (PySem.F.args_list_count_2 _ _)
    (SeqAt.list_countAt p its.toArray n dd sl (.bool k) (eqkB k)) ⟨ho, fun y hy => ?_, ?_⟩
  · have hy : y ∈ its := by simpa using hy
    rw [hi] at hy
    obtain ⟨b, _, rfl⟩ := List.mem_map.mp hy
    exact SeqAt.EqAt.bool_bool b k
  · have ec : its.toArray.toList.countP (eqkB k) = bs.count k := by
      rw [hi]
      show (bs.map Value.bool).countP (eqkB k) = bs.count k
      rw [List.countP_map]
      rfl
    refine ⟨.int (bs.count k : Nat), H, I.tok _, ⟨s.toks, ?_⟩, q⟩
    show Value.int ((its.toArray.toList.countP (eqkB k) : Nat) : Int) s.toks = Value.int ((bs.count k : Nat) : Int) s.toks
    rw [ec]
end
end

/-! Mini14 -/
/-! Mini14: a def that tells, by a word, which own error its argument lets out. -/
section
open PySem PySem.Spec PyProof.Rows L2
section
variable {X : Cx} {a C D : Addr} {oe : Obj} {pn : List (Addr × Obj)} {ie ik : Nat} {e k c : Str} {b : Bool} {bs : List Bool} {x : Expr} {es : List Expr} {p p1 p2 p3 p4 pos : Pos}
/-- as long as slot ie holds the error at a -/
def tIsE (a : Addr) (ie : Nat) (b : Bool) : TE := fun σ H Q => σ[ie]? = some (some (.ref a)) ∧ Q (.bl b) H
def tIsA (a : Addr) (ie : Nat) (bs : List Bool) : TA := fun σ H Q => σ[ie]? = some (some (.ref a)) ∧ Q (bs.map V.bl) H
theorem pe_isE (hC : ExcC X.K C) (hz : Zc (.ref C) none oe) (hf : ∃ vs, oe.data = .fields vs) (hi : Gl X "isinstance") (hm : X.mg "isinstance" = none) (hN : X.N[ie]? = some e) (hv : Vis X.env.scope e) (hgc : Gl X c) (hmc : X.mg c = some (.ref D)) (hk : PySem.W.kitOne X.K (.ref C) (.ref D) = some b)
    (hd : (e == ("__debug__" : Str)) = false := by decide) (hcd : (e == ("__classdict__" : Str)) = false := by decide) (hdc : (c == ("__debug__" : Str)) = false := by decide) :
    PE (X.suite a ((a, oe) :: pn)) (.Call (.Name "isinstance" p) [.Name e p1, .Name c p2] [] pos) (tIsE a ie b) :=
  (pe_callB (X := X.suite a ((a, oe) :: pn)) (call_isE hC hz hf) hi hm (by decide +kernel) (pa_cons (pe_var (i := ie) hN hv hd hcd) (pa_cons (pe_glob (v := .ref D) hgc hmc rfl hdc) pa_nil rfl) rfl) (by decide) (by decide)).imp fun σ H Q h =>
    ⟨.ref a, h.1, .ref D, .ref D, b, rfl, fun u ru => ru, hk, h.2⟩
theorem pe_isV (hC : ExcC X.K C) (hz : Zc (.ref C) none oe) (hf : ∃ vs, oe.data = .fields vs) (hi : Gl X "isinstance") (hm : X.mg "isinstance" = none) (hN : X.N[ie]? = some e) (hv : Vis X.env.scope e) (hgc : Gl X "ValueError") (hmc : X.mg "ValueError" = none) (hk : PySem.W.kitOne X.K (.ref C) (.type "ValueError") = some b)
    (hd : (e == ("__debug__" : Str)) = false := by decide) (hcd : (e == ("__classdict__" : Str)) = false := by decide) :
    PE (X.suite a ((a, oe) :: pn)) (.Call (.Name "isinstance" p) [.Name e p1, .Name "ValueError" p2] [] pos) (tIsE a ie b) :=
  (pe_callB (X := X.suite a ((a, oe) :: pn)) (call_isE hC hz hf) hi hm (by decide +kernel) (pa_cons (pe_var (i := ie) hN hv hd hcd) (pa_cons (pe_bltn (v := .ty "ValueError") hgc hmc (by decide +kernel) rfl (by decide) (by decide)) pa_nil rfl) rfl) (by decide) (by decide)).imp fun σ H Q h =>
    ⟨.ref a, h.1, .ty "ValueError", .type "ValueError", b, rfl, fun u ru => ru, hk, h.2⟩
variable {Y : Cx}
theorem isa_nil : PA Y [] (tIsA a ie []) := pa_nil.imp fun σ H Q h => h.2
theorem isa_cons (h : PE Y x (tIsE a ie b)) (r : PA Y es (tIsA a ie bs)) (hs : starEach (x :: es) Y.env = (false, eval x Y.env) :: starEach es Y.env := by rfl) : PA Y (x :: es) (tIsA a ie (b :: bs)) :=
  (pa_cons h r hs).imp fun σ H Q h => ⟨h.1, h.1, h.2⟩
/-- k = [..] -/
def tNewL (a : Addr) (ie ik : Nat) (bs : List Bool) : TS := fun D σ H => σ[ie]? = some (some (.ref a)) ∧ ∀ p, H p = none → D.nx (σ.set ik (some (.ref p))) (upd H p (.lst (bs.map V.bl)))
theorem st_newL (h : PA Y es (tIsA a ie bs)) (hl : bs.length ≤ 1000) (hN : Y.N.Nodup) (hk : Y.N[ik]? = some k) (hx : Loc Y.env.scope k) (hf : Y.fn k = true ∨ Y.env.scope.names.lookup k = some .local) (hs : swapsWithSole [.Name k p] (.List es p2) pos.line Y.env = pure false := by rfl) (hw : swappedStores [.Name k p] (.List es p2) Y.env = pure none := by rfl)
    (h1 : (assignEach [.Name k p] Y.env).map (·.2) = [assign (.Name k p) Y.env] := by rfl) : PS Y (.Assign [.Name k p] (.List es p2) pos) (tNewL a ie ik bs) :=
  (ps_asg (pe_lst h) (pg_name (i := ik) hN hk hx hf) hs hw h1).imp fun D σ H h => ⟨h.1, by rw [List.length_map, sizeLine_eq]; omega, h.2⟩
/-- k = k + [..] -/
def tMoreL (a : Addr) (ie ik : Nat) (bs : List Bool) : TS := fun D σ H => σ[ie]? = some (some (.ref a)) ∧ ∃ l cs, σ[ik]? = some (some (.ref l)) ∧ H l = some (.lst (cs.map V.bl)) ∧ cs.length ≤ 1000 ∧
  ∀ q p, H q = none → upd H q (.lst (bs.map V.bl)) p = none → D.nx (σ.set ik (some (.ref p))) (upd (upd H q (.lst (bs.map V.bl))) p (.lst ((cs ++ bs).map V.bl)))
theorem st_moreL (h : PA Y es (tIsA a ie bs)) (hl : bs.length ≤ 1000) (hN : Y.N.Nodup) (hk : Y.N[ik]? = some k) (hx : Loc Y.env.scope k) (hv : Vis Y.env.scope k) (hf : Y.fn k = true ∨ Y.env.scope.names.lookup k = some .local) (hs : swapsWithSole [.Name k p] (.BinOp (.Name k p1) .Add (.List es p2) p3) pos.line Y.env = pure false := by rfl) (hw : swappedStores [.Name k p] (.BinOp (.Name k p1) .Add (.List es p2) p3) Y.env = pure none := by rfl)
    (h1 : (assignEach [.Name k p] Y.env).map (·.2) = [assign (.Name k p) Y.env] := by rfl) (hd : (k == ("__debug__" : Str)) = false := by decide) (hcd : (k == ("__classdict__" : Str)) = false := by decide) : PS Y (.Assign [.Name k p] (.BinOp (.Name k p1) .Add (.List es p2) p3) pos) (tMoreL a ie ik bs) :=
  (ps_asg (pe_op op_cat (pe_var (i := ik) hk hv hd hcd) (pe_lst h)) (pg_name (i := ik) hN hk hx hf) hs hw h1).imp fun D σ H h => by
    obtain ⟨h0, l, cs, h2, h3, h4, h5⟩ := h
    refine ⟨.ref l, h2, h0, by rw [List.length_map, sizeLine_eq]; omega, fun q hq => ⟨l, q, _, _, rfl, rfl, by rw [upd_ne (ne_of_none h3 hq)]; exact h3, upd_same, by rw [List.length_map, List.length_map, sizeLine_eq]; omega, fun p hp => ?_⟩⟩
    rw [← List.map_append]
    exact h5 q p hq hp
/-- k.count(True) != 1 or not y -/
theorem pt_kinds {j : Nat} {p5 p7 p8 p9 : Pos} {j2 : Nat} {y : Expr} (hv : Vis Y.env.scope k) (hk : Y.N[ik]? = some k) (h : PT Y y (tB (tIsE a ie b)))
    (hbase : attributeBase (.Name k p1) "count" Y.env (eval (.Name k p1) Y.env) = eval (.Name k p1) Y.env := by rfl) (hline : (p2.endLine == p4.line) = true := by rfl) (hd : (k == ("__debug__" : Str)) = false := by decide) (hcd : (k == ("__classdict__" : Str)) = false := by decide) :
    PT Y (.BoolOp .Or [.Compare (.Call (.Attribute (.Name k p1) "count" p2) [.Constant (.bool true) j p3] [] p4) [.NotEq] [.Constant (.int 1) j2 p5] p7, .UnaryOp .Not y p8] p9)
      (fun σ H Q => ∃ (l : Addr) (cs : List Bool), σ[ik]? = some (some (.ref l)) ∧ H l = some (.lst (cs.map V.bl)) ∧ σ[ie]? = some (some (.ref a)) ∧ Q (!decide (cs.count true = 1) || !b) H) :=
  ((pw_or (pt_cmpR op_ne (pe_bm PySem.F.plainAttrs_list PySem.F.slot_list_count PySem.F.type_list_count mt_bcount (pe_var (i := ik) hk hv hd hcd) (pa_cons pe_bl pa_nil) hbase rfl hline) pe_int (nobehind _ (by decide) (by decide))) (pw_or1 (pt_not h))).pt).imp fun σ H Q h => by
    obtain ⟨l, cs, h1, h2, h3, h4⟩ := h
    refine ⟨.ref l, h1, .inl ⟨rfl, _, .inl (.inl h2)⟩, l, cs, true, rfl, rfl, .inl (.inl h2), rfl, _, rfl, ?_⟩
    have e : decide (V.int ((cs.count true : Nat) : Int) = V.int 1) = decide (cs.count true = 1) := by
      rw [Bool.eq_iff_iff, decide_eq_true_iff, decide_eq_true_iff]
      exact ⟨fun z => by have z := V.int.inj z; omega, fun z => by rw [z]; rfl⟩
    rw [e]
    by_cases hc : cs.count true = 1
    · rw [decide_eq_true hc]
      refine ⟨h3, b, rfl, ?_⟩
      rw [decide_eq_true hc] at h4
      exact h4
    · rw [decide_eq_false hc]
      rw [decide_eq_false hc] at h4
      exact h4
theorem atI_nat {α : Type} {xs : List α} {m : Nat} {v : α} (h : xs[m]? = some v) : atI xs (m : Int) = some v := by
  have hm := (List.getElem?_eq_some_iff.mp h).1
  unfold atI ixN
  rw [if_pos (by omega), if_pos (by omega)]
  exact h
/-- if k[i]: .. that isn't done -/
theorem ps_no {i : Int} {j : Nat} {st : List Stmt} (hu : Y.A.units + 1 < cLine) (hv : Vis Y.env.scope k) (hk : Y.N[ik]? = some k) (hd : (k == ("__debug__" : Str)) = false := by decide) (hcd : (k == ("__classdict__" : Str)) = false := by decide) :
    PS Y (.If (.Subscript (.Name k p1) (.Constant (.int i) j p2) p3) st [] pos) (fun D σ H => ∃ (l : Addr) (cs : List Bool) (m : Nat), σ[ik]? = some (some (.ref l)) ∧ H l = some (.lst (cs.map V.bl)) ∧ i = (m : Int) ∧ cs[m]? = some false ∧ D.nx σ H) :=
  (ps_if (t := fun _ _ _ => False) (pt_val (pe_ix ix_list (pe_var (i := ik) hk hv hd hcd) pe_int (fun _ _ => rfl))) ⟨fun _ _ _ _ _ _ z => z.elim⟩ pss_nil).imp fun D σ H h => by
    obtain ⟨l, cs, m, h1, h2, rfl, h3, h4⟩ := h
    refine ⟨.ref l, h1, l, cs.map V.bl, m, .bl false, rfl, rfl, .inl (.inl h2), ?_, false, rfl, ?_⟩
    · exact atI_nat (by rw [List.getElem?_map, h3]; rfl)
    · exact h4
/-- k = ['..', ..] -/
theorem st_words {iw : Nat} {w : Str} {ws : List Str} (h : PA Y es fun σ H Q => Q (ws.map V.str) H) (hl : ws.length ≤ 1000) (hN : Y.N.Nodup) (hk : Y.N[iw]? = some w) (hx : Loc Y.env.scope w) (hf : Y.fn w = true ∨ Y.env.scope.names.lookup w = some .local) (hs : swapsWithSole [.Name w p] (.List es p2) pos.line Y.env = pure false := by rfl) (hw : swappedStores [.Name w p] (.List es p2) Y.env = pure none := by rfl)
    (h1 : (assignEach [.Name w p] Y.env).map (·.2) = [assign (.Name w p) Y.env] := by rfl) : PS Y (.Assign [.Name w p] (.List es p2) pos) (fun D σ H => ∀ p, H p = none → D.nx (σ.set iw (some (.ref p))) (upd H p (.lst (ws.map V.str)))) :=
  (ps_asg (pe_lst h) (pg_name (i := iw) hN hk hx hf) hs hw h1).imp fun D σ H h => ⟨by rw [List.length_map, sizeLine_eq]; omega, h⟩
theorem ws_nil : PA Y [] (fun σ H Q => Q (([] : List Str).map V.str) H) := pa_nil
theorem ws_cons {z : Str} {ws : List Str} {j : Nat} (r : PA Y es fun σ H Q => Q (ws.map V.str) H) (hs : starEach (.Constant (.str z) j p :: es) Y.env = (false, eval (.Constant (.str z) j p) Y.env) :: starEach es Y.env := by rfl) : PA Y (.Constant (.str z) j p :: es) (fun σ H Q => Q ((z :: ws).map V.str) H) := pa_cons pe_str r hs
/-- return w[k.index(True)] -/
theorem ps_word {iw : Nat} {w : Str} {j : Nat} {p5 p6 : Pos} (hv : Vis Y.env.scope k) (hk : Y.N[ik]? = some k) (hv2 : Vis Y.env.scope w) (hk2 : Y.N[iw]? = some w)
    (hbase : attributeBase (.Name k p2) "index" Y.env (eval (.Name k p2) Y.env) = eval (.Name k p2) Y.env := by rfl) (hline : (p3.endLine == p5.line) = true := by rfl) (hd : (k == ("__debug__" : Str)) = false := by decide) (hcd : (k == ("__classdict__" : Str)) = false := by decide) (hd2 : (w == ("__debug__" : Str)) = false := by decide) (hcd2 : (w == ("__classdict__" : Str)) = false := by decide) :
    PS Y (.Return (some (.Subscript (.Name w p1) (.Call (.Attribute (.Name k p2) "index" p3) [.Constant (.bool true) j p4] [] p5) p6)) pos)
      (fun D σ H => ∃ (l q : Addr) (cs : List Bool) (ws : List Str) (m : Nat) (z : Str), σ[ik]? = some (some (.ref l)) ∧ H l = some (.lst (cs.map V.bl)) ∧ σ[iw]? = some (some (.ref q)) ∧ H q = some (.lst (ws.map V.str)) ∧ cs[m]? = some true ∧ (∀ n, n < m → cs[n]? = some false) ∧ ws[m]? = some z ∧ D.rt (.str z) H) :=
  (ps_ret (pe_ix ix_list (pe_var (i := iw) hk2 hv2 hd2 hcd2) (pe_bm PySem.F.plainAttrs_list PySem.F.slot_list_index PySem.F.type_list_index mt_index (pe_var (i := ik) hk hv hd hcd) (pa_cons pe_bl pa_nil) hbase rfl hline) (fun _ _ => rfl))).imp fun D σ H h => by
    obtain ⟨l, q, cs, ws, m, z, h1, h2, h3, h4, h5, h6, h7, h8⟩ := h
    refine ⟨.ref q, h3, .ref l, h1, .inl ⟨rfl, _, .inl (.inl h2)⟩, l, cs.map V.bl, .bl true, m, .bl true, rfl, rfl, .inl (.inl h2), rfl, ?_, ?_, rfl, ?_, q, ws.map V.str, m, .str z, rfl, rfl, .inl (.inl h4), atI_nat (by rw [List.getElem?_map, h7]; rfl), h8⟩
    · rw [List.all_map]; exact List.all_eq_true.mpr fun _ _ => rfl
    · rw [List.getElem?_map, h5]; rfl
    · intro n z' hn hz
      rw [List.getElem?_map, h6 n hn] at hz
      cases hz
      rfl
end


/-- C is the class number j -/
structure KindC (K : PySem.W.Frag) (C : Addr) (j : Nat) : Prop where
  ex : ExcC K C
  is_ : ∀ (m : Nat) (c : Str), kindNames[m]? = some c → PySem.W.kitOne K (.ref C) (.ref (He.ga K c)) = some (decide (m = j))
  ve : PySem.W.kitOne K (.ref C) (.type "ValueError") = some true
  pa : PySem.W.exmOne K (.ref C) (.ref (He.ga K "PactError")) = some true
def Keeps (H H' : Hp) : Prop := ∀ b o, H b = some o → H' b = some o
theorem Keeps.new {H H' : Hp} {p : Addr} {o : HO} (k : Keeps H H') (h : H' p = none) : Keeps H (upd H' p o) := fun b u e => by rw [upd_ne (ne_of_none (k b u e) h)]; exact k b u e
end

/-! Mini15 -/
/-! Mini15: the class, by its word, of what a lambda lets out. -/
section
open PySem PySem.Spec PyProof.Rows L2
section
variable {w : World} {K : PySem.W.Frag} {ρ : Rho} {S : Store} {H H' : Hp} {G : Gx} {E : XK} {mb : XE}
theorem Rel.over (q : Rel w K ρ S H) (e : Ext ρ H ρ H') (kp : ∀ a o, H a = some o → Plain o → H' a = some o) (t : LamX.Tabs (KT K) H') : Rel w K ρ S H' :=
  ⟨q.len, q.nd, fun l c a h1 h2 => let ⟨o, ho, po⟩ := (q.at_ l c a h1 h2).thereP; (q.at_ l c a h1 h2).ext e (by rw [ho]; exact kp a o ho po), fun a ha => let ⟨⟨o, ho, po⟩, n⟩ := q.hd a ha; ⟨⟨o, kp a o ho po, po⟩, n⟩, t⟩
theorem Ext.ofN (k : LamX.ExtN H H') : Ext ρ H ρ H' := ⟨⟨[], by simp⟩, rfl, fun a o h nt _ => k a o h nt, fun a f o h => by
  by_cases q : ∃ ps, o = .tbl ps
  · exact q
  · exact f o (k a o h fun ps z => q ⟨ps, z⟩), fun a od u h => k a _ h fun _ z => by cases z⟩
end
/-! ### what is known of the classes, as a look into the written part -/

theorem excCB_ok {K : PySem.W.Frag} {D : Addr} (h : excCB K D = true) : ExcC K D := by
  obtain ⟨h1, h⟩ := He.ba h
  obtain ⟨h2, h⟩ := He.ba h
  obtain ⟨h3, h⟩ := He.ba h
  obtain ⟨h4, h⟩ := He.ba h
  obtain ⟨h5, h⟩ := He.ba h
  obtain ⟨h6, h⟩ := He.ba h
  obtain ⟨h7, h8⟩ := He.ba h
  exact ⟨He.eqO_ok h1, He.eqO_ok h2, of_decide_eq_true h3, h4, He.eqO_ok h5, He.eqO_ok h6, of_decide_eq_true h7, of_decide_eq_true h8⟩

theorem kindB_ok {K : PySem.W.Frag} {C : Addr} {j : Nat} (h : kindB K C j = true) : KindC K C j := by
  obtain ⟨h1, h⟩ := He.ba h
  obtain ⟨h2, h⟩ := He.ba h
  obtain ⟨h3, h4⟩ := He.ba h
  refine ⟨excCB_ok h1, fun m c hc => ?_, of_decide_eq_true h3, of_decide_eq_true h4⟩
  have hm : m < 10 := (List.getElem?_eq_some_iff.mp hc).1
  have q := of_decide_eq_true (List.all_eq_true.mp h2 m (List.mem_range.mpr hm))
  rw [List.getD_eq_getElem?_getD, hc] at q
  exact q

/-- an error's word is its class -/
def xcK (K : PySem.W.Frag) : Str → Option Value := fun w => some (.ref (He.ga K w))
theorem kindsB_ok {K : PySem.W.Frag} (h : kindsB K = true) (j : Nat) (w : Str) (hw : kindWords[j]? = some w) (h0 : j ≠ 0) : xcK K w = some (.ref (He.ga K w)) ∧ KindC K (He.ga K w) j := by
  have hj : j < 9 := (List.getElem?_eq_some_iff.mp hw).1
  have q := kindB_ok (List.all_eq_true.mp h (j - 1) (List.mem_range.mpr (by omega)))
  rw [show j - 1 + 1 = j by omega, List.getD_eq_getElem?_getD, hw] at q
  exact ⟨rfl, q⟩
/-- .. the code object being the one that the table speaks of -/
theorem def_KC {P : Program} {w : World} {K : PySem.W.Frag} {mg : Str → Option Value} {base : Heap} {G : Gx} {pd : Str × Option Str} {x qual : Str} {params : Arguments} {body : List Stmt} {scope : Scope} {dvs : List V} {kws : List (Str × V)} {fd : FuncData} {N ps : List Str} {k : Nat} {mb : XS} (F : FunD K x qual params body scope dvs kws (He.fAd K pd) fd) (sc : FnScope N ps scope)
    (hb : ∀ (A : Around) (outer : List PySem.Env) (s : Shared) (H : Hp) (E : XK), Room k (A.deeper (PyProof.Rows.envOfC qual scope s.heap.objs.size (He.fAd K pd) (.ref (He.codeOf K pd)))) →
      PSs (cxOf (L2.CX P w) P w K mg base N qual scope (He.fAd K pd) (.ref (He.codeOf K pd)) A outer s H E) body (tIS G E mb)) : FnOk P w K mg base (L2.CX P w) (k + 1) (He.fAd K pd) fd ps (spI G (fnK ps.length N.length mb)) := by
  obtain ⟨oc, od, dV, kV, doc, pm, an, cdv, ct, osl, rfl, lk, hcd, _, _⟩ := F.ex
  obtain ⟨c, rfl⟩ := He.codeIn_ref hcd
  rw [He.codeOf_eq lk rfl] at hb
  refine fn_of lk hcd sc (fun vs H Q E h => ?_) (fun A outer s H vs Q E hr h => ⟨_, hb A outer s H E hr, ?_⟩)
  · obtain ⟨ρ, S, args, hR, ra, h⟩ := h
    unfold fnK at h
    split at h
    · rename_i hl
      rw [← ra.length, hl]
    · exact h.elim
  · obtain ⟨ρ, S, args, hR, ra, h⟩ := h
    unfold fnK at h
    split at h
    · refine ⟨ρ, S, _, hR, envR_start ra, ?_⟩
      cases hm : mb (args.map some ++ List.replicate (N.length - args.length) none) S with
      | bad => rw [hm] at h; exact h
      | exc e S' => rw [hm] at h; exact h
      | ok p S' =>
        rw [hm] at h
        simp only [R.bind_ok] at h
        obtain ⟨fl, env'⟩ := p
        intro ρ' H' e q
        cases fl with
        | rt v => exact fun u ru => h ρ' H' e q u ru
        | nx => exact fun σ' hE' => h ρ' H' e q _ Rep.non
        | bk => exact h.elim
        | ct => exact h.elim
    · exact h.elim
end

/-! MiniD -/
/-! MiniD: dicts of the store whose keys are tuples of any depth. -/
section
open PySem PySem.Spec PyProof.Rows L2
/-! ### the machine -/
/-! ### keys in the heap -/
section
variable {X : Cx} {pins : List (Addr × Obj)} {σ : L2.St} {H : Hp} {s : Shared} {ρ : Rho}
end

/-! ### readings -/
section
variable {X : Cx}
end
section
variable {G : Gx} {E : XK} {X : Cx} {a b e o i : Expr} {ma mb me mo mi : XE} {pos : Pos}
end

/-! ### {k: v} -/
section
variable {X : Cx}
end
section
variable {G : Gx} {E : XK} {X : Cx} {ke ve : Expr} {mk mv : XE} {pos : Pos}
end
end

/-! MiniS -/
/-! MiniS: starred items, [::-1], sorted ints, pop(i), x += e, tuples compared. -/
section
open PySem PySem.Spec PyProof.Rows L2
def aStar (m : XE) (r : XA) : XA := fun env S => (m env S).bind fun x S1 => match seqOf S1 x with
  | some ys => (r env S1).bind fun zs S2 => .ok (ys ++ zs) S2
  | none => .bad
section
variable {G : Gx} {E : XK} {X : Cx} {a b e o : Expr} {es : List Expr} {me ma mo : XE} {ms : XA} {pos p : Pos}
theorem i_star (he : PE X e (tI G E me)) (hr : PA X es (tIA G E ms)) (hK : X.K = G.K := by rfl) (hs : starEach (.Starred e p :: es) X.env = (true, eval e X.env) :: starEach es X.env := by rfl) : PA X (.Starred e p :: es) (tIA G E (aStar me ms)) :=
  (StX.pa_star he hr hs).imp fun σ H Q h => by
    obtain ⟨ρ, S, env, hR, hE, h⟩ := h
    rw [hK]
    refine ⟨ρ, S, env, hR, hE, h.step fun ρ1 S1 H1 x e1 hR1 h1 v rv => ?_⟩
    split at h1
    · rename_i ys hy
      obtain ⟨d, vs, rfl, h2, h3⟩ := seq_of hR1 rv hy
      refine ⟨d, vs, rfl, h2.elim .inr .inl, ρ1, S1, env, hR1, hE.ext e1, h1.step fun ρ2 S2 H2 zs e2 hR2 h4 us rus => ?_⟩
      exact h4.ok hR2 _ ((Reps.ext e2 _ _ h3).append rus)
    · exact h1.elim
section
variable {apos cpos : Pos}
end
end
end

/-! MiniZ -/
/-! MiniZ: sets of ints that are sorted at once. -/
section
open PySem PySem.Spec PyProof.Rows L2
section
variable {P : Program} {w : World} {A : Around} {E : Value → Shared → Prop} {s : Shared}
end

section
variable {X : Cx} {a b : Expr} {ta tb : TE} {pos : Pos}
end
section
variable {G : Gx} {E : XK} {X : Cx} {a b : Expr} {ma mb : XE} {pos : Pos}
/-- what is done while something is hidden -/
theorem Ext.under {ρ ρ' : Rho} {H H' : Hp} {p : Addr} {o : HO} (hp : H p = none) (e : Ext (ρ.hide p) (upd H p o) ρ' H') : ∃ ρ2 : Rho, ρ' = ρ2.hide p ∧ Ext ρ H ρ2 H' := by
  obtain ⟨ρ2, rfl, f⟩ := e.ofHide
  refine ⟨ρ2, rfl, ?_⟩
  obtain ⟨m, em, hm⟩ := f.more
  have back : ∀ a, FrA (upd H p o) a → FrA H a := fun a q => by
    by_cases e : a = p
    · rw [e]; exact .of hp
    · exact fun o z => q o (by rw [upd_ne e]; exact z)
  exact ⟨⟨m, em, fun a ha => back a (hm a ha)⟩, f.hid, fun a u ha nt n => f.keep a u (by rw [upd_ne (ne_of_none ha hp)]; exact ha) nt n, fun a ha => back a (f.dom a ha), fun a od u ha => f.fz a od u (by rw [upd_ne (ne_of_none ha hp)]; exact ha)⟩
end
end

/-! MiniY -/
/-! MiniY: set(a list of ints). -/
section
open PySem PySem.Spec PyProof.Rows L2
section
variable {P : Program} {w : World} {A : Around} {E : Value → Shared → Prop} {s : Shared} {l d : Addr} {items : Array Value} {ns : List Int}
end

section
variable {X : Cx}
def rSetL (w : World) (K : PySem.W.Frag) : List V → Hp → VK → Prop := fun xs H Q => ∃ (l : Addr) (ns : List Int), xs = [.ref l] ∧ SqL K H l (ns.map V.int) ∧ ns.length < 60 ∧ ∀ p c, H p = none → c ≤ ns.length → Q (.ref p) (upd H p (SetO w p (fun j => decide (j ∈ ns)) c))
variable {G : Gx} {E : XK} {a : Expr} {ma : XE} {p p2 pos pos2 : Pos}
end
end

/-! MiniX -/
/-! MiniX: list(range(..)), a def that makes a set. -/
section
open PySem PySem.Spec PyProof.Rows L2
section
variable {G : Gx} {E : XK} {X : Cx} {a b e : Expr} {me ma mb : XE} {pos pos2 p p2 : Pos}
theorem i_gs {x z : Str} (h : ∃ t, X.mg x = some (.str z t)) (hg : Gl X x := by rfl) (hd : (x == ("__debug__" : Str)) = false := by decide) : PE X (.Name x pos) (tI G E (eC (.str z))) := by
  obtain ⟨t, h⟩ := h
  exact i_c (pe_glob hg h (v := .str z) ⟨t, rfl⟩ hd) fun _ _ => Rep.str
end
end

/-! MiniN -/
/-! MiniN: sorted(..) of keys that are tuples of any depth: of a dict by such keys, of a list. -/
section
open PySem PySem.Spec PyProof.Rows L2
section
variable {X : Cx} {pins : List (Addr × Obj)} {σ : L2.St} {H : Hp} {s : Shared} {ρ : Rho}
/-- v is what x is -/
def Is (K : PySem.W.Frag) (ρ : Rho) (H : Hp) (v : Value) (x : PV) : Prop := ∃ y, RelV y v ∧ Rep K ρ H x y
end
section
variable {G : Gx} {E : XK}
end
/-! l.clear(), l.reverse() -/
section
variable {G : Gx} {E : XK} {X : Cx} {o : Expr} {mo : XE} {apos cpos : Pos}
end
end

/-! MiniP -/
/-! MiniP: sorted(set(..)) of pairs of ints. -/
section
open PySem PySem.Spec PyProof.Rows L2
section
variable {P : Program} {w : World} {A : Around} {E : Value → Shared → Prop} {s : Shared}
end
section
variable {X : Cx}
end
section
variable {G : Gx} {E : XK} {X : Cx} {a : Expr} {ma : XE} {p p2 pos pos2 : Pos}
end
end

/-! MiniQ -/
/-! MiniQ: in a tuple of tuples. -/
section
open PySem PySem.Spec PyProof.Rows L2
section
variable {G : Gx} {E : XK} {X : Cx}
end
end

/-! MiniI -/
/-! MiniI: dicts by ints. -/
section
open PySem PySem.Spec PyProof.Rows L2
section
variable {w : World} {K : PySem.W.Frag} {ρ : Rho} {H : Hp}
end
section
variable {G : Gx} {E : XK} {X : Cx} {a b c e o i : Expr} {ma mb mc me mo mi : XE} {pos : Pos}
/-! sorted(d) -/
/-! l.index(x), ints -/
variable {apos cpos : Pos}
end
end

/-! MiniL -/
/-! MiniL: dicts that are walked: locked for that time. -/
section
open PySem PySem.Spec PyProof.Rows L2
section
variable {w : World} {K : PySem.W.Frag} {ρ : Rho} {H : Hp}
end
section
variable {G : Gx} {E : XK} {X : Cx} {e : Expr} {me : XE}
end
/-! ### the walk -/
section
variable {X : Cx} {pins : List (Addr × Obj)} {σ : L2.St} {H : Hp} {s : Shared} {d : Addr} {o : Obj} {kvs : List (NestedKey × Addr × V)}
end
section
variable {G : Gx} {E : XK} {X : Cx} {e tg : Expr} {me : XE}
end
end

/-! MiniJ -/
/-! MiniJ: max of a list of ints, in a list of tuples, a tuple * 0, sorted(set(..)) of pairs out of long lists. -/
section
open PySem PySem.Spec PyProof.Rows L2
/-! ### max -/
section
variable {G : Gx} {E : XK} {X : Cx}
/-! ### in a list of tuples -/
/-! ### a tuple * 0 -/
end
section
variable {G : Gx} {E : XK} {X : Cx}
end
end

/-! MiniV -/
/-! MiniV: set(a long list of pairs) that holds few. -/
section
open PySem PySem.Spec PyProof.Rows L2
section
variable {P : Program} {w : World} {A : Around} {E : Value → Shared → Prop} {s : Shared} {l d : Addr} {items : Array Value} {xs : List (Addr × List Int)}
end
section
variable {X : Cx}
end
section
variable {G : Gx} {E : XK} {X : Cx} {a : Expr} {ma : XE} {p p2 pos pos2 : Pos}
end
end

/-! MiniR -/
/-! MiniR: a list comprehension whose element lets an exception out. -/
section
open PySem PySem.Spec PyProof.Rows L2
section
variable {X : Cx} {W : WX} {E : XK} {s3 s s' : Shared} {H0 H : Hp} {scope : Scope} {ce : PySem.Env} {fp : List Addr} {σ0 σ : L2.St} {ps0 pins : List (Addr × Obj)} {xe : Value → Shared → Prop} {u : Value}
end
section
variable {X : Cx} {W : WX} {E : XK} {pins : List (Addr × Obj)} {σ : L2.St} {H : Hp} {s : Shared} {Q : VK} {elt tg iter : Expr} {ifs : List Expr} {scope : Scope} {own : List (Str × Nat)} {pos pos' : Pos} {wi : TI} {g : TG} {tt : TT} {te : TE} {use : Option (Value → Sem Unit)} {Qf : Value → Shared → Prop}
/-- what the parts of a comprehension are to do, wherever its block stands; the element may raise -/
structure Parts (X : Cx) (E : XK) (elt tg : Expr) (ifs : List Expr) (scope : Scope) (g : TG) (tt : TT) (te : TE) : Prop where
  tgt : ∀ (s : Shared) (H : Hp) (C : Addr) (cl : List (Str × Addr)) (fp : List Addr), PG (X.blk s H scope (compEnvC scope cl C X.env) fp) tg g
  tst : ∀ (s : Shared) (H : Hp) (C : Addr) (cl : List (Str × Addr)) (fp : List Addr), PTs (X.blk s H scope (compEnvC scope cl C X.env) fp) ifs tt
  el : ∀ (s : Shared) (H : Hp) (C : Addr) (cl : List (Str × Addr)) (fp : List Addr) (xe : Value → Shared → Prop), Passes (L2.CX X.prog X.w) ((X.blk s H scope (compEnvC scope cl C X.env) fp).wish xe) E → PE ((X.blk s H scope (compEnvC scope cl C X.env) fp).wish xe) elt te
end
/-! ### the small machine's -/
section
variable {G : Gx} {E : XK} {X : Cx} {iter tg : Expr} {mi : XI} {is : List Nat} {g : XG}
theorem _root_.LW.ExcR.unhide {ρ : Rho} {H : Hp} {D : Addr} {e : PExc} {cls : Value} {d : Option Addr} (h : ExcR G (ρ.hide D) H e cls d) : ExcR G ρ H e cls d :=
  ⟨h.1, h.2.imp id fun ⟨a, gs, h1, h2, h3, h4, h5⟩ => ⟨a, gs, h1, h2, h3, Out.show' h4, Flds.unhide h5⟩⟩
end
end

/-! MiniTx -/
/-! MiniTx: texts: join, split, a sign, int and str. -/
section
open PySem PySem.Spec PyProof.Rows L2
def strsP : List PV → Option (List Str)
  | [] => some []
  | .str s :: r => (strsP r).map (s :: ·)
  | _ => none
section
variable {K : PySem.W.Frag} {ρ : Rho} {H : Hp}
theorem strs_rep : ∀ {xs : List PV} {ys : List Str} {vs : List V}, strsP xs = some ys → Reps K ρ H xs vs → vs = ys.map V.str
  | [], ys, vs, h, r => by
    cases h
    unfold Reps at r
    exact r
  | x :: xs, ys, vs, h, r => by
    obtain ⟨v, t, rfl, r1, r2⟩ := r.uncons
    cases x with
    | str s =>
      have h : (strsP xs).map (s :: ·) = some ys := h
      cases hx : strsP xs with
      | none => rw [hx] at h; cases h
      | some zs =>
        rw [hx] at h
        cases h
        rw [r1.str_of, strs_rep hx r2]
        rfl
    | _ => cases h
theorem reps_strs : ∀ ys : List Str, Reps K ρ H (ys.map PV.str) (ys.map V.str)
  | [] => .nil
  | _ :: ys => .cons Rep.str (reps_strs ys)
end
/-- sep.join(texts) -/
def eJoinS (o a : XE) : XE := fun env S => (o env S).bind fun x S1 => match x with
  | .str s => (a env S1).bind fun y S2 => match (lstOf S2 y).bind strsP with
    | some ys => if (ys.map (·.length)).sum + ys.length * s.length ≤ 16777216 then .ok (.str (Txt.join s ys)) S2 else .bad
    | none => .bad
  | _ => .bad
/-- text.split(sep) -/
def eSplitS (o a : XE) : XE := fun env S => (o env S).bind fun x S1 => match x with
  | .str s => (a env S1).bind fun y S2 => match y with
    | .str b => if (b.length == 0) = false ∧ s.length + 2 ≤ sizeLine then .ok (.ls ((Txt.split s b).map .str)) S2 else .bad
    | _ => .bad
  | _ => .bad
/-- int(figures), int(int) -/
def bIntS : Bf := fun xs S => match xs with
  | [.str a] => match PySem.intText? a with
    | some n => if a.length ≤ 640 then .ok (.int n) S else .bad
    | none => .bad
  | xs => bInt xs S
/-- str(text), str(int) -/
def bStrS : Bf := fun xs S => match xs with
  | [.str a] => .ok (.str a) S
  | xs => bStr xs S
/-- a sign in a text -/
def oInC : Op2 := fun x y S => match x, y with
  | .str a, .str z => match a.cps.toList with
    | [c] => .ok (.bl (decide (c ∈ z.cps.toList))) S
    | _ => .bad
  | _, _ => .bad
section
variable {G : Gx} {E : XK} {X : Cx} {o a : Expr} {mo ma : XE} {apos pos : Pos}
theorem i_joinS (ho : PE X o (tI G E mo)) (ha : PE X a (tI G E ma)) (hK : X.K = G.K := by rfl) (hs : starEach [a] X.env = [(false, eval a X.env)] := by rfl) (hbase : attributeBase o "join" X.env (eval o X.env) = eval o X.env := by rfl) (hline : (apos.endLine == pos.line) = true := by rfl) :
    PE X (.Call (.Attribute o "join" apos) [a] [] pos) (tI G E (eJoinS mo ma)) :=
  (pe_join ho ha hs hbase hline).imp fun σ H Q h => by
    obtain ⟨ρ, S, env, hR, hE, h⟩ := h
    rw [hK]
    refine ⟨ρ, S, env, hR, hE, h.step fun ρ1 S1 H1 x e1 hR1 h1 v rv => ?_⟩
    cases x with
    | str s =>
      rw [rv.str_of]
      refine ⟨⟨s, rfl⟩, ρ1, S1, env, hR1, hE.ext e1, h1.step fun ρ2 S2 H2 y e2 hR2 h2 u ru => ?_⟩
      split at h2
      · rename_i ys hy
        split at h2
        · rename_i hl
          cases hx : lstOf S2 y with
          | none => rw [hx] at hy; cases hy
          | some zs =>
            rw [hx] at hy
            obtain ⟨p, us, rfl, h3, h4⟩ := lst_of hR2 ru hx
            rw [strs_rep hy h4] at h3
            exact ⟨s, p, ys, rfl, rfl, .inl (.of h3), hl, h2.ok hR2 _ Rep.str⟩
        · exact h2.elim
      · exact h2.elim
    | _ => exact h1.elim
theorem i_splitS (ho : PE X o (tI G E mo)) (ha : PE X a (tI G E ma)) (hs : starEach [a] X.env = [(false, eval a X.env)] := by rfl) (hbase : attributeBase o "split" X.env (eval o X.env) = eval o X.env := by rfl) (hline : (apos.endLine == pos.line) = true := by rfl) :
    PE X (.Call (.Attribute o "split" apos) [a] [] pos) (tI G E (eSplitS mo ma)) :=
  (pe_split ho ha hs hbase hline).imp fun σ H Q h => by
    obtain ⟨ρ, S, env, hR, hE, h⟩ := h
    refine ⟨ρ, S, env, hR, hE, h.step fun ρ1 S1 H1 x e1 hR1 h1 v rv => ?_⟩
    cases x with
    | str s =>
      rw [rv.str_of]
      refine ⟨⟨s, rfl⟩, ρ1, S1, env, hR1, hE.ext e1, h1.step fun ρ2 S2 H2 y e2 hR2 h2 u ru => ?_⟩
      cases y with
      | str b =>
        rw [ru.str_of]
        simp only at h2
        split at h2
        · rename_i hl
          exact ⟨s, b, rfl, rfl, hl.1, hl.2, put_ls hR2 (reps_strs _) h2⟩
        · exact h2.elim
      | _ => exact h2.elim
    | _ => exact h1.elim
def rIntS : List V → Hp → VK → Prop := fun xs H Q => (∃ a n, xs = [.str a] ∧ PySem.intText? a = some n ∧ a.length ≤ 640 ∧ Q (.int n) H) ∨ rIntU xs H Q
theorem call_intS : CallR X (.type "int") rIntS := CallR.or call_int_str call_intU
theorem sd_intS : SdB G E rIntS bIntS := fun ρ S H xs vs Q q r h => by
  unfold bIntS at h
  split at h
  · rename_i a
    obtain ⟨v, rfl, r1⟩ := one_of r
    rw [r1.str_of]
    split at h
    · rename_i n hn
      split at h
      · rename_i hl
        exact .inl ⟨a, n, rfl, hn, hl, h.ok q _ Rep.int⟩
      · exact h.elim
    · exact h.elim
  · exact .inr (sd_int ρ S H _ vs Q q r h)
def rStrS : List V → Hp → VK → Prop := fun xs H Q => (∃ a, xs = [.str a] ∧ Q (.str a) H) ∨ rStrU xs H Q
theorem call_strS : CallR X (.type "str") rStrS := CallR.or SkE.call_str_str call_strU
theorem sd_strS : SdB G E rStrS bStrS := fun ρ S H xs vs Q q r h => by
  unfold bStrS at h
  split at h
  · rename_i a
    obtain ⟨v, rfl, r1⟩ := one_of r
    rw [r1.str_of]
    exact .inl ⟨a, rfl, h.ok q _ Rep.str⟩
  · exact .inr (sd_str ρ S H _ vs Q q r h)
def rInC : R2 := fun x y H Q => ∃ (c : Nat) (z : Str), x = .str ⟨#[c]⟩ ∧ y = .str z ∧ Q (.bl (decide (c ∈ z.cps.toList))) H
theorem op_inC : OpR X (compareOp .In) rInC := op_in_sign
theorem sd_inC : Sd2 G E rInC oInC := fun ρ S H x y v u Q q rx ry h => by
  unfold oInC at h
  split at h
  · rename_i s z
    split at h
    · rename_i c hc
      rw [rx.str_of, ry.str_of]
      have e : s = ⟨#[c]⟩ := by
        obtain ⟨cps⟩ := s
        obtain ⟨l⟩ := cps
        have hc : l = [c] := hc
        rw [hc]
      rw [e]
      exact ⟨c, z, rfl, rfl, h.ok q _ Rep.bl⟩
    · exact h.elim
  · exact h.elim
/-- a sign of a text -/
def oIxC : Op2 := fun x y S => match x, y with
  | .str z, .int i => match atI z.cps.toList i with
    | some c => if z.length ≤ 1000000 then .ok (.str ⟨#[c]⟩) S else .bad
    | none => .bad
  | _, _ => .bad
theorem sd_ixC : Sd2 G E rIxS oIxC := fun ρ S H x y v u Q q rx ry h => by
  unfold oIxC at h
  split at h
  · rename_i z i
    split at h
    · rename_i c hc
      split at h
      · rename_i hl
        rw [rx.str_of, ry.int_of]
        exact ⟨z, i, c, rfl, rfl, by first | exact hl | exact Nat.le_trans hl (by decide) | (rw [sizeLine_eq]; omega), hc, h.ok q _ Rep.str⟩
      · exact h.elim
    · exact h.elim
  · exact h.elim
theorem i_ixC {b : Expr} {mb : XE} (ha : PE X a (tI G E ma)) (hb : PE X b (tI G E mb)) (hs : PlainIx b := by intro _ _; rfl) : PE X (.Subscript a b pos) (tI G E (eOp oIxC ma mb)) :=
  (pe_ix ix_str ha hb hs).imp fun σ H Q h => by
    obtain ⟨ρ, S, env, hR, hE, h⟩ := h
    exact two hR hE h fun ρ' S' H' x y v u e' hR' rv ru h' => sd_ixC ρ' S' H' x y v u Q hR' rv ru h'
/-- a text's signs -/
def signs (s : Str) : List PV := s.cps.toList.map fun c => .str ⟨#[c]⟩
/-- .. walked -/
def iChs (a : XE) : XI := fun env S => (a env S).bind fun x S => match x with
  | .str s => .ok (.seq (.ls (signs s))) S
  | _ => .bad
theorem src_chs {ρ0 : Rho} {H0 : Hp} {s : Str} : Src G (Its s) (.seq (.ls (signs s))) ρ0 H0 := by
  have e : ∀ (S : Store) (all : List PV), (It.seq (.ls (signs s))).items S = some all → all = signs s := fun S all h => (Option.some.inj h).symm
  have l : (signs s).length = s.cps.size := by
    unfold signs
    rw [List.length_map, Array.length_toList]
  refine ⟨fun ρ ρh S H all i _ _ _ h hi => ?_, fun ρ ρh S H all _ _ _ h => ?_, fun ρ ρh S H all i y H' _ _ q h hi yd => ?_⟩
  · rw [e S all h, l] at hi
    exact hi
  · rw [e S all h, l]
    exact Nat.le_refl _
  · rw [e S all h]
    obtain ⟨rfl, c, hc, rfl⟩ := yd
    refine ⟨Ext.refl _ _, q, .str ⟨#[c]⟩, ?_, Rep.str⟩
    unfold signs
    rw [List.getElem?_map, Array.getElem?_toList, hc]
    rfl
theorem i_chs {e tg : Expr} {me : XE} (he : PE X e (tI G E me)) : PI X tg e (tII G E (iChs me)) :=
  (pi_str he).imp fun σ H R h => by
    obtain ⟨ρ, S, env, hR, hE, h⟩ := h
    refine ⟨ρ, S, env, hR, hE, h.step fun ρ1 S1 H1 x e1 hR1 h1 v rv => ?_⟩
    cases x with
    | str s =>
      rw [rv.str_of]
      obtain ⟨_, k⟩ := h1.ok hR1
      exact ⟨s, rfl, k _ src_chs⟩
    | _ => exact h1.elim
/-- len of a text -/
def bLenS : Bf := fun xs S => match xs with
  | [.str a] => if a.length ≤ 1000000 then .ok (.int a.length) S else .bad
  | xs => bLen xs S
def rLenS (K : PySem.W.Frag) : List V → Hp → VK → Prop := fun xs H Q => (∃ z, xs = [.str z] ∧ z.length ≤ sizeLine ∧ Q (.int z.length) H) ∨ rLenU K xs H Q
theorem call_lenS : CallR X (.builtin "len") (rLenS X.K) := CallR.or call_len_str call_lenU
theorem sd_lenS : SdB G E (rLenS G.K) bLenS := fun ρ S H xs vs Q q r h => by
  unfold bLenS at h
  split at h
  · rename_i a
    obtain ⟨v, rfl, r1⟩ := one_of r
    rw [r1.str_of]
    split at h
    · rename_i hl
      exact .inl ⟨a, rfl, by rw [sizeLine_eq]; omega, h.ok q _ Rep.int⟩
    · exact h.elim
  · exact .inr (sd_len ρ S H _ vs Q q r h)
/-- text + text -/
def oAddS : Op2 := fun x y S => match x, y with
  | .str a, .str b => if a.length + b.length ≤ 1000000 then .ok (.str (a ++ b)) S else .bad
  | _, _ => .bad
def rAddS : R2 := fun x y H Q => ∃ i j, x = .str i ∧ y = .str j ∧ i.length + j.length ≤ sizeLine ∧ Q (.str (i ++ j)) H
theorem op_addS : OpR X (binaryOp .Add) rAddS := op_add_str
theorem sd_addS : Sd2 G E rAddS oAddS := fun ρ S H x y v u Q q rx ry h => by
  unfold oAddS at h
  split at h
  · split at h
    · rename_i a b hl
      rw [rx.str_of, ry.str_of]
      exact ⟨a, b, rfl, rfl, by rw [sizeLine_eq]; omega, h.ok q _ Rep.str⟩
    · exact h.elim
  · exact h.elim
end
end

/-! MiniE0 -/
/-! MiniE0: a def of an own exception that begins with super().__init__(..). -/
section
open PySem PySem.Spec PyProof.Rows L2

abbrev mwO (x : Addr) : Obj := PySem.W.kxs_mw veI x
section
variable {prog : Program} {w : World} {A : Around} {E : Value → Shared → Prop} {h : Heap} {g : Array GenState} {d : Drawn} {t : Nat} {os : OsState}
theorem call_mwV {u e t0 C N : Addr} {nm q : Str} {bs bm : List Value} {sn : List Str} {sub : List Value} {ab : Bool} {col : Option Bool} {dd : Option Addr} {k0 k1 k2 k3 k5 : Option Value} {rest : List Value} {Q : Value → Shared → Prop}
    (hC : h.get? C = some (excClassObj nm q C N bs bm true sn sub ab col dd k0 k1 k2 k3 k5 "ValueError.__new__")) (he : h.get? e = some (PySem.W.excRec (.ref C) t0 none .none .none (.bool false))) (hu : h.get? u = some (mwO e)) (hz : rest.length ≤ sizeLine)
    (hq : ∀ h' t1, (∀ b o, b ≠ e → h.get? b = some o → h'.get? b = some o) → h'.get? e = some (PySem.W.excRec (.ref C) t1 none .none .none (.bool false)) → Q .none ⟨h', g, d, t, os⟩) :
    wpAny (model prog w) A (call (.ref u) rest) Q E ⟨h, g, d, t, os⟩ := by
  refine wpAny_call (codeAny_of_tree (by
    show wpAny (model prog w) A.in1 (callAny (.ref u) ⟨rest, []⟩) _ _ _
    simp only [callAny]
    refine wpAny_bind (wpAny_load hu ?_)
    simp only [PySem.W.kxs_mw, show (Value.type "method-wrapper" == Value.type "method" || Value.type "method-wrapper" == Value.type "builtin_function_or_method" || Value.type "method-wrapper" == Value.type "method-wrapper") = true by decide, if_true]
    refine PySem.W.KFB.if_so (by decide) (wpAny_bind (ESX.check_bound F.excBase_ValueError hC he rfl (wpAny_bind (wpAny_pure (wpAny_pure ⟨plainId_quiet F.excBase_ValueError.init.plain _, codeAny_builtin F.excBase_ValueError.initEntry ?_⟩)))))
    exact PySem.W.exc_init_tree he hz fun h' k1 k2 _ => hq h' _ k1 k2))
end
/-- the context of a def over a cell that holds its class -/
def cxS (CX : CXT) (P : Program) (w : World) (K : PySem.W.Frag) (mg : Str → Option Value) (base : Heap) (N : List Str) (qual : Str) (scope : Scope) (f : Addr) (cd : Value) (cc : Addr) (A : Around) (outer : List PySem.Env) (s : Shared) (H : Hp) (E : XK) : Cx where
  prog := P
  w := w
  K := K
  mg := mg
  base := base
  A := A.deeper (PySem.W.ksEnv qual scope s.heap.objs.size f cd cc)
  N := N
  s_0 := s
  H_0 := H
  env := PySem.W.ksEnv qual scope s.heap.objs.size f cd cc
  outer := outer
  stack := PySem.W.ksEnv qual scope s.heap.objs.size f cd cc :: outer
  ex := []
  calm := true
  fn := fun x => !(x == ("__class__" : Str))
  pn := []
  xe := fun e s' => wpAny (model P w) (A.deeper (PySem.W.ksEnv qual scope s.heap.objs.size f cd cc)) (leaving (PySem.W.ksEnv qual scope s.heap.objs.size f cd cc) e) (fun _ s'' => CX outer H s E e s'') (fun e' s'' => CX outer H s E e' s'') s'
structure SupScope (N ps : List Str) (sc : Scope) : Prop where
  kind : sc.kind = .function
  co : sc.isCoroutine = false
  gen : sc.isGenerator = false
  nd : N.Nodup
  pre : N.take ps.length = ps
  par : ∀ x ∈ ps, sc.names.lookup x = some .local
  nocell : ∀ y ∈ sc.names, y.2 ≠ .cell
  free : ∀ y, sc.names.lookup y = some .free → y = ("__class__" : Str)
  cls : sc.names.lookup ("__class__" : Str) = some .free
  sup : sc.names.lookup ("super" : Str) = some .globalImplicit
theorem lookup_of {l : List (Str × Value)} (nd : (l.map (·.1)).Nodup) {x : Str} {u : Value} (h : (x, u) ∈ l) : l.lookup x = some u := by
  induction l with
  | nil => cases h
  | cons p l ih =>
    obtain ⟨y, v⟩ := p
    obtain ⟨n1, n2⟩ := List.nodup_cons.mp nd
    rcases List.mem_cons.mp h with e | h
    · cases e
      simp [List.lookup]
    · have ne : (x == y) = false := beq_eq_false_iff_ne.mpr fun e => n1 (e ▸ List.mem_map.mpr ⟨_, h, rfl⟩)
      rw [List.lookup_cons, ne]
      exact ih n2 h
theorem zip_names : ∀ {ps : List Str} {us : List Value}, ps.length = us.length → (ps.zip us).map (·.1) = ps
  | [], [], _ => rfl
  | p :: ps, u :: us, h => by
    rw [List.zip_cons_cons, List.map_cons, zip_names (Nat.succ.inj h)]
theorem one_cell {x : Str} {c cc : Addr} (h : [(("__class__" : Str), cc)].lookup x = some c) : x = ("__class__" : Str) ∧ c = cc := by
  by_cases e : x = ("__class__" : Str)
  · subst e
    simp [List.lookup] at h
    exact ⟨rfl, h.symm⟩
  · have z : (x == ("__class__" : Str)) = false := beq_eq_false_iff_ne.mpr e
    rw [List.lookup_cons, z] at h
    cases h
theorem inv_sup {CX : CXT} {P : Program} {w : World} {K : PySem.W.Frag} {mg : Str → Option Value} {base : Heap} {N ps : List Str} {qual : Str} {scope : Scope} {f cc : Addr} {cd : Value} {A : Around} {outer : List PySem.Env} {s : Shared} {H : Hp} {E : XK} {us : List Value} {vs : List V} {h1 : Heap} {tk : Nat} {oc : Obj} {D : Addr}
    (S : SupScope N ps scope) (hd : A.handled = none) (e0 : Env0 P w K mg base A outer s H) (hl : vs.length = ps.length) (r : Vals vs us) (hcc : K.lookup cc = some oc) (hoc : oc.data = .cell (some (.ref D)))
    (hns : h1.Ns s.heap.objs.size fun x => (ps.zip us).reverse.lookup x) (hk : ∀ b o, s.heap.get? b = some o → h1.get? b = some o) :
    Inv (cxS CX P w K mg base N qual scope f cd cc A outer s H E) [] (L2.start N vs) H { s with heap := h1, toks := tk } := by
  have hpl : ps.length ≤ N.length := by have := congrArg List.length S.pre; rw [List.length_take] at this; omega
  have bcc : base.get? cc = some oc := e0.mod.kin _ _ hcc
  refine ⟨⟨e0.mod, S.kind, rfl, rfl, Nat.le_refl _, fun y z c a1 a2 => ?_, fun y hy => ?_, fun y c a1 a2 => ?_, fun _ => hd, Around.frames_deeper e0.frames, .inr ⟨rfl, rfl⟩, fun b z => (nomatch z), e0.bs, e0.bsz, fun b _ _ z => (nomatch z), fun b z => (nomatch z), e0.funs, e0.frf⟩,
    rfl, e0.bare, Un.kept hk, ⟨_, hns, fun i y v a1 a2 a3 => ?_⟩, fun y c a1 => ?_, e0.hok.fresh (Nat.le_refl _), fun y c a1 => ?_, fun p hp => (nomatch hp), e0.hok.kept hk, ?_⟩
  · rw [(one_cell a1).1, (one_cell a2).1]
  · have hy : scope.names.lookup y = some .cell ∨ scope.names.lookup y = some .free := hy
    rcases hy with hy | hy
    · exact absurd rfl (S.nocell _ (PySem.mem_of_lookup hy))
    · rw [S.free y hy]
      exact ⟨cc, by show List.lookup _ [(("__class__" : Str), cc)] = _; simp [List.lookup]⟩
  · have a1 : (!(y == ("__class__" : Str))) = true := a1
    rw [(one_cell a2).1] at a1
    simp at a1
  · have hi : i < vs.length := by
      refine Nat.lt_of_not_le fun c => ?_
      unfold L2.start at a2
      rw [List.getElem?_append_right (by simpa using c), List.getElem?_replicate] at a2
      split at a2 <;> cases a2
    have ha : vs[i]? = some v := by
      unfold L2.start at a2
      rw [List.getElem?_append_left (by simpa using hi), List.getElem?_map, Option.map_eq_some_iff] at a2
      obtain ⟨z, z1, z2⟩ := a2
      cases z2
      exact z1
    obtain ⟨u, hu, rv⟩ := r.get ha
    have hp : ps[i]? = some y := by rw [← S.pre, List.getElem?_take_of_lt (by omega)]; exact a1
    have ndP : ps.Nodup := by rw [← S.pre]; exact S.nd.sublist (List.take_sublist _ _)
    have lz : ps.length = us.length := by rw [← hl]; exact r.length
    refine ⟨u, rv, .inl ⟨S.par y (List.mem_of_getElem? hp), ?_⟩⟩
    refine lookup_of ?_ (List.mem_reverse.mpr (List.mem_of_getElem? (i := i) (List.getElem?_zip_eq_some.mpr ⟨hp, hu⟩)))
    rw [List.map_reverse, zip_names lz]
    exact (List.reverse_perm ps).nodup_iff.mpr ndP
  · rw [(one_cell a1).2]
    exact ⟨_, oc, hk _ _ (e0.bs _ _ bcc).1, hoc⟩
  · rw [(one_cell a1).2]
    exact (e0.bs _ _ bcc).2
  · show (L2.start N vs).length = N.length
    unfold L2.start
    rw [List.length_append, List.length_map, List.length_replicate]
    omega
end

/-! MiniE1 -/
/-! MiniE1: such a def keeps what its body keeps. -/
section
open PySem PySem.Spec PyProof.Rows L2
/-- what is known of the class, of its cell, of the code -/
structure SupC (P : Program) (K : PySem.W.Frag) (mg : Str → Option Value) (C cc cda : Addr) : Prop where
  T : OexC K C
  file : ∃ ccl cdd vsc ccs tf file, K.lookup cda = some ⟨ccl, cdd, .fields vsc, ccs⟩ ∧ vsc[2]? = some (.str file tf) ∧ ((P.main.file : Str) == file) = true
  top : (P.main.scope.names.lookup ("super" : Str)).isSome = false
  cell : ∃ cl cld csl, K.lookup cc = some ⟨cl, cld, .cell (some (.ref C)), csl⟩
  msup : mg "super" = none
  sup : PySem.W.ks_superIn K C C "__init__" = some (some (.builtin veI))
  ve : PySem.W.subIn K (.ref C) (.type "ValueError") = some true
  third : PySem.W.nsIn K cStatics "thirdparty.any" = some none
  self : PySem.W.mroIn K C (.ref C) = some true
section
variable {CX : CXT} {P : Program} {w : World} {K : PySem.W.Frag} {mg : Str → Option Value} {base : Heap} {k : Nat} {f C cc cda : Addr} {name qual : Str} {params : Arguments} {e : Expr} {rest : List Stmt} {scope : Scope} {dV kV doc pm ct oc : Value} {an od : Option Addr}
  {osl : Array (Option Value)} {N ps : List Str} {sp : Sp} {p0 p1 ap cp ep : Pos} {ar : Arg}
set_option maxHeartbeats 4000000 in
theorem sup_fn (lk : K.lookup f = some ⟨oc, od, .func (PySem.W.ksFn name qual params (.Expr (.Call (.Attribute (.Call (.Name "super" p0) [] [] p1) "__init__" ap) [e] [] cp) ep :: rest) scope dV kV doc pm an (.ref cda) ct cc), osl⟩)
    (hcd : PySem.W.codeIn K (.ref cda) qual = true) (B : SupC P K mg C cc cda) (S : SupScope N ps scope) (har : (params.posonlyargs ++ params.args).head? = some ar) (h0 : ps.head? = some ar.arg) (len : ∀ vs H Q E, sp vs H Q E → vs.length = ps.length)
    (hs : ∀ env : PySem.Env, starEach [e] env = (false, eval e env) :: starEach [] env) (pl : PySem.Env → Sem Bool)
    (hev : ∀ env : PySem.Env, eval (.Call (.Attribute (.Call (.Name "super" p0) [] [] p1) "__init__" ap) [e] [] cp) env = (do
      let ov ← attributeBase (.Call (.Name "super" p0) [] [] p1) "__init__" env (eval (.Call (.Name "super" p0) [] [] p1) env)
      standAt ap.atName
      let (f, first) ← holding [ov] (getMethod ov "__init__" (pl env))
      callWith cp f first (backTo cp (starEach [e] env)) []))
    (body : ∀ (A : Around) (outer : List PySem.Env) (s : Shared) (H : Hp) (vs : List V) (Q : VK) (E : XK), Room k (A.deeper (PySem.W.ksEnv qual scope s.heap.objs.size f (.ref cda) cc)) → sp vs H Q E → ∃ a ws te t, vs = V.ref a :: ws ∧ H a = some (exo a C none) ∧
      PE (cxS CX P w K mg base N qual scope f (.ref cda) cc A outer s H E) e te ∧ (∀ Q' : VK, (∀ y, Q' y H) → te (L2.start N vs) H Q') ∧ PSs (cxS CX P w K mg base N qual scope f (.ref cda) cc A outer s H E) rest t ∧ t { nx := fun _ H' => Q .non H', rt := Q } (L2.start N vs) H) :
    FnOk P w K mg base CX (k + 1) f (PySem.W.ksFn name qual params (.Expr (.Call (.Attribute (.Call (.Name "super" p0) [] [] p1) "__init__" ap) [e] [] cp) ep :: rest) scope dV kV doc pm an (.ref cda) ct cc) ps sp := by
  refine ⟨len, fun A outer s H args us vs Q E hr e0 hb r hsp => ?_⟩
  have hl := len _ _ _ _ hsp
  have KX : K.In s.heap := e0.mod.kin.keeps fun b o z => (e0.bs b o z).1
  have lim : s.heap.NoLimit := e0.mod.nolimit.keeps fun b o z => (e0.bs b o z).1
  obtain ⟨ccl, cdd, vsc, ccs, tf, file, c1, c2, c3⟩ := B.file
  obtain ⟨cl, cld, csl, d1⟩ := B.cell
  have Bsup := B.sup
  obtain ⟨cd, hcls⟩ : ∃ cd, PySem.W.clsIn K C = some cd := by
    cases hc : PySem.W.clsIn K C with
    | none => unfold PySem.W.ks_superIn at Bsup; rw [hc] at Bsup; cases Bsup
    | some cd => exact ⟨cd, rfl⟩
  unfold PySem.W.ks_superIn at Bsup
  rw [hcls] at Bsup
  refine PySem.ks_codeAny_call_defAt (fd := PySem.W.ksFn name qual params (.Expr (.Call (.Attribute (.Call (.Name "super" p0) [] [] p1) "__init__" ap) [e] [] cp) ep :: rest) scope dV kV doc pm an (.ref cda) ct cc) (binds := ps.zip us) hr.depth (KX _ _ lk) rfl lim (PySem.W.codeRec_of KX hcd) rfl hb S.nocell (fun y hy => S.par _ (List.of_mem_zip hy).1) (fun h1 hns hk => ?_) S.co S.gen S.kind
  obtain ⟨a, ws, te, t, rfl, ha, he, hte, hrest, ht⟩ := body A outer s H vs Q E (hr.deeper _) hsp
  have I : Inv (cxS CX P w K mg base N qual scope f (.ref cda) cc A outer s H E) [] (L2.start N (V.ref a :: ws)) H { s with heap := h1, toks := s.toks + (ps.zip us).length } := inv_sup S hr.hd e0 hl r d1 rfl hns hk
  obtain ⟨us, rfl⟩ : ∃ us', us = Value.ref a :: us' := by
    cases r with
    | @cons _ u _ us' ru _ =>
      obtain rfl : u = Value.ref a := ru
      exact ⟨us', rfl⟩
  obtain ⟨ps', rfl⟩ : ∃ ps', ps = ar.arg :: ps' := by
    cases ps with
    | nil => cases h0
    | cons p ps' => cases h0; exact ⟨ps', rfl⟩
  have selfAt : (fun x => ((ar.arg :: ps').zip (Value.ref a :: us)).reverse.lookup x) ar.arg = some (Value.ref a) := by
    have lz : (ar.arg :: ps').length = (Value.ref a :: us).length := by rw [← hl]; exact r.length
    have ndP : (ar.arg :: ps').Nodup := by rw [← S.pre]; exact S.nd.sublist (List.take_sublist _ _)
    refine lookup_of ?_ (List.mem_reverse.mpr List.mem_cons_self)
    rw [List.map_reverse, zip_names lz]
    exact (List.reverse_perm _).nodup_iff.mpr ndP
  generalize L2.start N (V.ref a :: ws) = σ at I hte ht
  obtain ⟨hp, g, d, tk, os⟩ := s
  have kin1 : K.In h1 := KX.keeps hk
  obtain ⟨nm, qn, NN, bs, bm, sn, sub, ab, col, dd, k0, k1, k2, k3, k5, hC, hbm⟩ := B.T.cls
  obtain ⟨mb, b1, b2⟩ := e0.mod.blt
  obtain ⟨t1, hox⟩ := exo_at I.hok ha
  have keepB : ∀ b o, base.get? b = some o → h1.get? b = some o := fun b o z => hk b o (e0.bs b o z).1
  have boot : bootBuiltins "super" = some (.type "super") := by decide +kernel
  have hint : interactive (callEnv (PySem.W.ksFn name qual params (.Expr (.Call (.Attribute (.Call (.Name "super" p0) [] [] p1) "__init__" ap) [e] [] cp) ep :: rest) scope dV kV doc pm an (.ref cda) ct cc) hp.objs.size f) = false := by
    unfold interactive
    show (scope.kind == _ && _) = false
    rw [S.kind]
    rfl
  refine PySem.ks_wpAt_execs_cons (PySem.ks_wpAt_Expr_any (hi := hint) (PySem.ks_wpAt_MethodCall (he := hev _) (PySem.ks_wpAt_super_base (f := f) (cc := cda) (ar := ar) S.sup S.cls (by decide) rfl (kin1 _ _ lk) rfl har rfl (kin1 _ _ c1) rfl c2 c3 B.top ?_)))
  refine PySem.W.ks_loadName_global S.kind S.sup (Calls.loadGlobal_builtin (e0.mod.glob.keeps keepB) B.msup (b1.keeps keepB) ((b2 "super" (by decide)).trans boot) ⟨rfl, ?_⟩)
  refine wpAny_loadName_free S.kind S.cls (c := cc) (v := .ref C) (by show List.lookup _ [(("__class__" : Str), cc)] = _; simp [List.lookup]) ⟨_, kin1 _ _ d1, rfl⟩ ?_
  refine wpAny_loadName_local S.kind (S.par _ List.mem_cons_self) hns selfAt ?_
  refine PySem.ks_wpAny_isType_cls (kin1 _ _ hC) rfl ⟨rfl, ?_⟩
  refine PySem.ks_wpAny_call_super (kin1 _ _ hC) rfl hox rfl (fun c z => nomatch z) (PySem.W.looks_mroIn kin1 B.self) fun h2 hso k2 => ?_
  have kin2 : K.In h2 := kin1.keeps k2
  have at2 : PySem.W.InstAt h2 a _ C none := ⟨k2 _ _ hox, rfl, rfl, trivial⟩
  have lt2 : h1.objs.size < h2.objs.size := Heap.lt_size hso
  refine PySem.W.kxs_getMethod PySem.W.kxs_ValueError hso (PySem.W.looks_opaque kin2 B.third) (l₀ := cd.mro) (fun A Q E s k q => wpAny_bind ((PySem.W.looks_clsIn kin2 hcls) A _ E s k (wpAny_pure q))) rfl kin2 Bsup (at2.type.andThen (PySem.W.looks_subIn kin2 B.ve)) (PySem.W.ks_ne kin2 at2 hcls) (by decide) ?_
  have k3 : ∀ b o, h1.get? b = some o → (h2.push (mwO a)).get? b = some o := fun b o z => Heap.get?_push_of_some _ (k2 b o z)
  have hu : (h2.push (mwO a)).get? h2.objs.size = some (mwO a) := Heap.get?_push_size _ rfl
  have I2 := fun t' => I.kept (t' := t') k3
  have Hu : H h2.objs.size = none := I.hok.fresh (Nat.le_of_lt lt2)
  have lt1 : hp.objs.size < h1.objs.size := I.lt
  have I3 := fun t' => (I2 t').pins_of (pins' := [(h2.objs.size, mwO a)]) fun p hp => by
    rw [List.mem_singleton.mp hp]
    exact ⟨hu, Hu, Nat.ne_of_gt (Nat.lt_trans lt1 lt2), I.nofs (Nat.le_of_lt lt2), fun v z => nomatch z⟩
  have eu : upd H a (exo a C none) = H := by
    funext b
    by_cases hb : b = a
    · rw [hb, upd_same, ha]
    · rw [upd_ne hb]
  have argRun := (pa_cons he pa_nil (hs _)).run cp [(h2.objs.size, mwO a)] _ σ H (fun ys H1 => H1 = H ∧ ys.length = 1) (I3 (tk + ((ar.arg :: ps').zip (Value.ref a :: us)).length + 1)) (hte _ fun y => ⟨rfl, rfl⟩)
  show wpAny (model P w) _ (callWith cp (.ref h2.objs.size) [] (backTo cp (starEach [e] _)) []) _ _ _
  rw [hs] at argRun ⊢
  refine PySem.W.kxs_callWith (i := veI) (x := a) rfl (PySem.Calls.evalArgs_plain ?_)
  refine thn argRun fun vals s1 ⟨ys, H1, I4, rv, eH, yl⟩ => ?_
  subst eH
  have pu := (I4.pin _ (List.mem_append_right _ (List.mem_singleton.mpr rfl))).1
  refine ⟨pu, ?_⟩
  obtain ⟨t4, ho4⟩ := exo_at I4.hok ha
  have vl : vals.length ≤ sizeLine := by
    rw [← rv.length, yl, sizeLine_eq]
    omega
  obtain ⟨h4, g4, d4, t5, o4⟩ := s1
  refine call_mwV (I4.kIn _ _ hC) ho4 pu vl fun h5 t6 k5 hx5 => ?_
  have J := I4.write (t' := t5) (x := a) (e := a) (o := exo a C none) (by rw [ha]; exact True.intro) (.inl rfl) k5 ⟨_, hx5⟩ (exo_ok hx5)
  rw [eu] at J
  have J0 := J.pins_of (pins' := []) fun p hp => nomatch hp
  refine wpAt_of_wpAny (wpAny_mono (hrest.run [] _ σ H1 _ J0 ht) (fun fl s' hs' => ?_) fun _ _ z => z)
  cases fl with
  | ret u =>
    obtain ⟨v, _, H', Z, rz, q⟩ := hs'
    exact ⟨v, H', Z.os, Z.bare, Z.base, Z.hok, rz, q⟩
  | next =>
    obtain ⟨_, H', Z, q⟩ := hs'
    exact ⟨V.non, H', Z.os, Z.bare, Z.base, Z.hok, rfl, q⟩
  | brk =>
    obtain ⟨_, _, _, q⟩ := hs'
    exact q.elim
  | cont =>
    obtain ⟨_, _, _, q⟩ := hs'
    exact q.elim
end
end

/-! MiniE2 -/
/-! MiniE2: .. whose message is an f-string of its parameters, and that keeps them as fields. -/
section
open PySem PySem.Spec PyProof.Rows L2
/-- the message: texts and parameters -/
def jTx : List (Sum Str Nat) → Str → List PV → Option Str
  | [], acc, _ => some acc
  | .inl s :: r, acc, xs => if (acc ++ s).length ≤ lim then jTx r (acc ++ s) xs else none
  | .inr i :: r, acc, xs => match xs[i]? with
    | some (.str y) => if y.length ≤ lim ∧ (acc ++ y).length ≤ lim then jTx r (acc ++ y) xs else none
    | some (.int k) => if k.natAbs.log2 < 1920 ∧ (acc ++ (toString k : String)).length ≤ lim then jTx r (acc ++ (toString k : String)) xs else none
    | _ => none
def jPart : Sum Str Nat → TE
  | .inl s => tC (.str s)
  | .inr i => tFmt (tVar (i + 1))
/-- a text stands for itself, a number too -/
def Shows (x : PV) (v : V) : Prop := (∀ y, x = .str y → v = .str y) ∧ ∀ k, x = .int k → v = .int k
theorem js_ok {σ : L2.St} {H : Hp} {Q : Str → Hp → Prop} (hQ : ∀ out, Q out H) {xs : List PV} (hx : ∀ i x, xs[i]? = some x → ∃ v, σ[i + 1]? = some (some v) ∧ Shows x v) : ∀ (parts : List (Sum Str Nat)) (acc : Str), (jTx parts acc xs).isSome = true → tJs (parts.map jPart) acc σ H Q
  | [], acc, _ => hQ acc
  | .inl s :: r, acc, h => by
    unfold jTx at h
    split at h
    · rename_i hl
      exact ⟨s, rfl, lim_le hl, js_ok hQ hx r _ h⟩
    · cases h
  | .inr i :: r, acc, h => by
    unfold jTx at h
    split at h
    · rename_i y hy
      split at h
      · rename_i hl
        obtain ⟨v, e, q⟩ := hx i _ hy
        have := q.1 y rfl
        subst this
        exact ⟨_, e, .inl ⟨y, rfl, lim_le hl.1, y, rfl, lim_le hl.2, js_ok hQ hx r _ h⟩⟩
      · cases h
    · rename_i k hy
      split at h
      · rename_i hl
        obtain ⟨v, e, q⟩ := hx i _ hy
        have := q.2 k rfl
        subst this
        exact ⟨_, e, .inr ⟨k, rfl, hl.1, _, rfl, lim_le hl.2, js_ok hQ hx r _ h⟩⟩
      · cases h
    · cases h
/-- self.f = the i-th, one behind another -/
def tSets (K : PySem.W.Frag) : List (Str × Nat) → TS
  | [] => tNext
  | (f, i) :: r => tSeq (tOst K f (tVar 0) (tVar i)) (tSets K r)
inductive Sets (X : Cx) : List Stmt → List (Str × Nat) → Prop where
  | nil : Sets X [] []
  | cons {st : Stmt} {rest : List Stmt} {f : Str} {i : Nat} {r : List (Str × Nat)} (h : PS X st (tOst X.K f (tVar 0) (tVar i))) (t : Sets X rest r) : Sets X (st :: rest) ((f, i) :: r)
theorem Sets.pss {X : Cx} {sts : List Stmt} {r : List (Str × Nat)} (h : Sets X sts r) : PSs X sts (tSets X.K r) := by
  induction h with
  | nil => exact pss_nil
  | cons h _ ih => exact pss_cons h ih
section
variable {K : PySem.W.Frag} {C : Addr} {a : Addr} {σ : L2.St} {D : Ends}
theorem sets_old (T : OexC K C) (hs : σ[0]? = some (some (V.ref a))) {dx : Addr} : ∀ (r : List (Str × Nat)) (gs : List (Str × V)) (H : Hp), H a = some (exo a C (some dx)) → H dx = some (exd dx gs) → a ≠ dx → gs.length + r.length ≤ 900 →
    (∀ q ∈ r, PySem.W.findIn K (.ref C) q.1 = some none ∧ ∃ v, σ[q.2]? = some (some v)) →
    (∀ (H' : Hp) (ws : List V), ws.length = r.length → (∀ (j : Nat) (v : V), ws[j]? = some v → ∃ q : Str × Nat, r[j]? = some q ∧ σ[q.2]? = some (some v)) → H' a = some (exo a C (some dx)) → H' dx = some (exd dx (((r.map (·.1)).zip ws).reverse ++ gs)) → (∀ b, b ≠ dx → H' b = H b) → D.nx σ H') → tSets K r D σ H
  | [], gs, H, h1, h2, ne, hl, hf, fin => fin H [] rfl (fun j v z => by simp at z) h1 h2 fun _ _ => rfl
  | (f, i) :: r, gs, H, h1, h2, ne, hl, hf, fin => by
    obtain ⟨hn, v, hv⟩ := hf (f, i) List.mem_cons_self
    have hl : gs.length + (r.length + 1) ≤ 900 := hl
    refine ⟨v, hv, V.ref a, hs, a, C, rfl, T, hn, .inr ⟨dx, gs, h1, h2, by omega, ?_⟩⟩
    refine sets_old T hs r ((f, v) :: gs) _ (by rw [upd_ne ne]; exact h1) upd_same ne (by rw [List.length_cons]; omega) (fun q hq => hf q (List.mem_cons_of_mem _ hq)) fun H' ws wl wv g1 g2 g3 => ?_
    refine fin H' (v :: ws) (by rw [List.length_cons, List.length_cons, wl]) (fun j u hj => ?_) g1 ?_ fun b hb => (g3 b hb).trans (upd_ne hb)
    · cases j with
      | zero =>
        cases hj
        exact ⟨(f, i), rfl, hv⟩
      | succ j =>
        obtain ⟨q, q1, q2⟩ := wv j u hj
        exact ⟨q, q1, q2⟩
    · rw [g2, List.map_cons, List.zip_cons_cons, List.reverse_cons, List.append_assoc]
      rfl
end
/-- what such a def is asked and keeps -/
def spSup (C : Addr) (parts : List (Sum Str Nat)) (fs : List Str) : Sp := fun vs H Q _ => ∃ (a : Addr) (ws : List V) (xs : List PV), vs = V.ref a :: ws ∧ ws.length = fs.length ∧ H a = some (exo a C none) ∧ xs.length = ws.length ∧ (∀ (i : Nat) (x : PV), xs[i]? = some x → ∃ v, ws[i]? = some v ∧ Shows x v) ∧ (jTx parts Str.empty xs).isSome = true ∧
  ∀ dx H', H dx = none → dx ≠ a → H' a = some (exo a C (some dx)) → H' dx = some (exd dx (fs.zip ws).reverse) → (∀ b, b ≠ a → b ≠ dx → H' b = H b) → Q .non H'
section
variable {CX : CXT} {P : Program} {w : World} {K : PySem.W.Frag} {mg : Str → Option Value} {base : Heap} {k : Nat} {f C cc cda : Addr} {name qual : Str} {params : Arguments} {rest : List Stmt} {scope : Scope} {dV kV doc pm ct oc : Value} {an od : Option Addr}
  {osl : Array (Option Value)} {ps : List Str} {p0 p1 ap cp ep jp : Pos} {ar : Arg} {e1 e2 : Expr} {es : List Expr} {parts : List (Sum Str Nat)} {fs : List Str}
theorem sup_init (lk : K.lookup f = some ⟨oc, od, .func (PySem.W.ksFn name qual params (.Expr (.Call (.Attribute (.Call (.Name "super" p0) [] [] p1) "__init__" ap) [.JoinedStr (e1 :: e2 :: es) jp] [] cp) ep :: rest) scope dV kV doc pm an (.ref cda) ct cc), osl⟩)
    (hcd : PySem.W.codeIn K (.ref cda) qual = true) (B : SupC P K mg C cc cda) (S : SupScope ps ps scope) (har : (params.posonlyargs ++ params.args).head? = some ar) (h0 : ps.head? = some ar.arg) (pl : PySem.Env → Sem Bool)
    (hs : ∀ env : PySem.Env, starEach [.JoinedStr (e1 :: e2 :: es) jp] env = (false, eval (.JoinedStr (e1 :: e2 :: es) jp) env) :: starEach [] env)
    (hev : ∀ env : PySem.Env, eval (.Call (.Attribute (.Call (.Name "super" p0) [] [] p1) "__init__" ap) [.JoinedStr (e1 :: e2 :: es) jp] [] cp) env = (do
      let ov ← attributeBase (.Call (.Name "super" p0) [] [] p1) "__init__" env (eval (.Call (.Name "super" p0) [] [] p1) env)
      standAt ap.atName
      let (f, first) ← holding [ov] (getMethod ov "__init__" (pl env))
      callWith cp f first (backTo cp (starEach [.JoinedStr (e1 :: e2 :: es) jp] env)) []))
    (hp : ps.length = fs.length + 1) (f0 : fs ≠ []) (f9 : fs.length ≤ 900) (hf : ∀ x ∈ fs, PySem.W.findIn K (.ref C) x = some none)
    (hb : ∀ (A : Around) (outer : List PySem.Env) (s : Shared) (H : Hp) (E : XK), PJ (cxS CX P w K mg base ps qual scope f (.ref cda) cc A outer s H E) (e1 :: e2 :: es) (parts.map jPart) ∧ Sets (cxS CX P w K mg base ps qual scope f (.ref cda) cc A outer s H E) rest (fs.zip (List.range' 1 fs.length))) :
    FnOk P w K mg base CX (k + 1) f (PySem.W.ksFn name qual params (.Expr (.Call (.Attribute (.Call (.Name "super" p0) [] [] p1) "__init__" ap) [.JoinedStr (e1 :: e2 :: es) jp] [] cp) ep :: rest) scope dV kV doc pm an (.ref cda) ct cc) ps (spSup C parts fs) := by
  refine sup_fn lk hcd B S har h0 (fun vs H Q E ⟨a, ws, xs, e, l, _⟩ => by rw [e, List.length_cons, l, hp]) hs pl hev fun A outer s H vs Q E hr hsp => ?_
  obtain ⟨a, ws, xs, rfl, wl, ha, xl, hx, ht, fin⟩ := hsp
  obtain ⟨pj, sets⟩ := hb A outer s H E
  have st : L2.start ps (V.ref a :: ws) = some (V.ref a) :: ws.map some := by
    unfold L2.start
    rw [List.length_cons, wl, hp, Nat.sub_self]
    simp
  have at_ : ∀ i v, ws[i]? = some v → (L2.start ps (V.ref a :: ws))[i + 1]? = some (some v) := fun i v h => by
    rw [st, List.getElem?_cons_succ, List.getElem?_map, h]
    rfl
  refine ⟨a, ws, _, _, rfl, ha, pe_joined pj, fun Q' hQ => js_ok (fun out => hQ _) (fun i x h => ?_) parts _ ht, sets.pss, ?_⟩
  · obtain ⟨v, v1, v2⟩ := hx i x h
    exact ⟨v, at_ i v v1, v2⟩
  · obtain ⟨f1, fs', rfl⟩ := List.exists_cons_of_ne_nil f0
    obtain ⟨w1, ws', rfl⟩ : ∃ w1 ws', ws = w1 :: ws' := by
      cases ws with
      | nil => cases wl
      | cons w1 ws' => exact ⟨w1, ws', rfl⟩
    have wl : ws'.length = fs'.length := Nat.succ.inj wl
    show tSeq (tOst K f1 (tVar 0) (tVar 1)) (tSets K (fs'.zip (List.range' 2 fs'.length))) _ _ _
    refine ⟨w1, at_ 0 w1 rfl, V.ref a, by rw [st]; rfl, a, C, rfl, B.T, hf f1 List.mem_cons_self, .inl ⟨ha, fun dx hd ne => ?_⟩⟩
    refine sets_old B.T (by rw [st]; rfl) _ [(f1, w1)] _ upd_same (by rw [upd_ne ne, upd_same]) (Ne.symm ne) ?_ (fun q hq => ?_) fun H' us ul uv g1 g2 g3 => ?_
    · have : (f1 :: fs').length ≤ 900 := f9
      rw [List.length_zip, List.length_range', Nat.min_self]
      show 1 + fs'.length ≤ 900
      rw [List.length_cons] at this
      omega
    · obtain ⟨j, hj⟩ := List.getElem?_of_mem hq
      obtain ⟨z1, z2⟩ := List.getElem?_zip_eq_some.mp hj
      refine ⟨hf _ (List.mem_cons_of_mem _ (List.mem_of_getElem? z1)), ?_⟩
      have jl : j < fs'.length := (List.getElem?_eq_some_iff.mp z1).1
      rw [List.getElem?_range' (by omega)] at z2
      have z2 : 2 + 1 * j = q.2 := Option.some.inj z2
      obtain ⟨v, hv⟩ : ∃ v, ws'[j]? = some v := ⟨_, List.getElem?_eq_getElem (by omega)⟩
      refine ⟨v, ?_⟩
      rw [← z2, show 2 + 1 * j = (j + 1) + 1 by omega]
      exact at_ (j + 1) v hv
    · rw [List.length_zip, List.length_range', Nat.min_self] at ul
      have eu : us = ws' := List.ext_getElem? fun j => by
        rcases Nat.lt_or_ge j us.length with lt | ge
        · obtain ⟨q, q1, q2⟩ := uv j us[j] (List.getElem?_eq_getElem lt)
          obtain ⟨z1, z2⟩ := List.getElem?_zip_eq_some.mp q1
          rw [List.getElem?_range' (by omega)] at z2
          have z2 : 2 + 1 * j = q.2 := Option.some.inj z2
          have z3 := at_ (j + 1) (ws'[j]'(by omega)) (by rw [List.getElem?_cons_succ]; exact List.getElem?_eq_getElem (by omega))
          rw [← z2, show 2 + 1 * j = (j + 1) + 1 by omega, z3] at q2
          rw [List.getElem?_eq_getElem lt, List.getElem?_eq_getElem (by omega : j < ws'.length)]
          exact (Option.some.inj q2).symm
        · rw [List.getElem?_eq_none ge, List.getElem?_eq_none (by omega)]
      subst eu
      refine fin dx H' hd ne g1 ?_ fun b b1 b2 => (g3 b b2).trans (by rw [upd_ne b1, upd_ne b2])
      rw [g2]
      have em : (fs'.zip (List.range' 2 fs'.length)).map (·.1) = fs' := List.map_fst_zip (by rw [List.length_range']; exact Nat.le_refl _)
      rw [em, List.zip_cons_cons, List.reverse_cons]
end
end

/-! MiniE3 -/
/-! MiniE3: raise C(..), C an own class with such an __init__. -/
section
open PySem PySem.Spec PyProof.Rows L2
def sRaiseO (c : Str) (parts : List (Sum Str Nat)) (fs : List Str) (ma : XA) : XS := fun env S => (ma env S).bind fun xs S1 =>
  if xs.length = fs.length ∧ (jTx parts Str.empty xs).isSome = true then .exc ⟨c, (fs.zip xs).reverse⟩ S1 else .bad
theorem shows_reps {K : PySem.W.Frag} {ρ : Rho} {H : Hp} : ∀ {xs : List PV} {vs : List V}, Reps K ρ H xs vs → ∀ (i : Nat) (x : PV), xs[i]? = some x → ∃ v, vs[i]? = some v ∧ Shows x v
  | [], _, _, i, x, h => by simp at h
  | y :: xs, vs, r, i, x, h => by
    obtain ⟨v, t, rfl, r1, r2⟩ := r.uncons
    cases i with
    | zero =>
      cases h
      exact ⟨v, rfl, fun z e => by subst e; exact r1.str_of, fun k e => by subst e; exact r1.int_of⟩
    | succ i =>
      obtain ⟨u, u1, u2⟩ := shows_reps r2 i x h
      exact ⟨u, u1, u2⟩
theorem flds_app {K : PySem.W.Frag} {ρ : Rho} {H : Hp} : ∀ {ps qs : List (Str × PV)} {gs hs : List (Str × V)}, Flds K ρ H ps gs → Flds K ρ H qs hs → Flds K ρ H (ps ++ qs) (gs ++ hs)
  | [], _, gs, _, h, q => by
    have h : gs = [] := h
    subst h
    exact q
  | (f, x) :: ps, _, gs, _, h, q => by
    obtain ⟨v, s, rfl, r, t⟩ := h
    exact ⟨v, _, rfl, r, flds_app t q⟩
theorem flds_rev {K : PySem.W.Frag} {ρ : Rho} {H : Hp} : ∀ {fs : List Str} {xs : List PV} {vs : List V}, Reps K ρ H xs vs → Flds K ρ H (fs.zip xs).reverse (fs.zip vs).reverse
  | [], _, _, _ => rfl
  | f :: fs, [], vs, r => by
    unfold Reps at r
    subst r
    exact rfl
  | f :: fs, x :: xs, vs, r => by
    obtain ⟨v, t, rfl, r1, r2⟩ := r.uncons
    rw [List.zip_cons_cons, List.zip_cons_cons, List.reverse_cons, List.reverse_cons]
    exact flds_app (flds_rev r2) ⟨v, [], rfl, r1, rfl⟩
section
variable {G : Gx} {E : XK} {X : Cx} {CXi : CXT} {x : Str} {C fI : Addr} {k : Nat} {fd : FuncData} {ps fs : List Str} {parts : List (Sum Str Nat)} {e : Expr} {es : List Expr} {ma : XA} {pos p pos' : Pos}
theorem s_raiseO (T : OexC X.K C) (iC : PySem.W.findIn X.K (.ref C) "__init__" = some (some (.ref fI))) (tI' : PySem.W.typeIn X.K (.ref fI) = some (.type "function")) (F1 : FnOk X.prog X.w X.K X.mg X.base CXi k fI fd ps (spSup C parts fs)) (hr : Room (k + 1) X.A) (hb : L2.Binds X.K fd ps [])
    (hx : Passes CXi X (fun _ _ _ => False)) (hc : X.calm = true) (tk : Takes X fun cls d _ H => E cls d H) (hg : Gl X x) (hm : X.mg x = some (.ref C)) (hxc : G.xc x = some (.ref C)) (hK : X.K = G.K) (f0 : fs ≠ []) (f9 : fs.length ≤ 900) (ha : PA X (e :: es) (tIA G E ma))
    (hdb : (x == ("__debug__" : Str)) = false := by decide) (he : starEach (e :: es) X.env = (false, eval e X.env) :: starEach es X.env := by rfl) (hpl : (backTo pos (starEach es X.env)).any (·.1) = false := by rfl) :
    PS X (.Raise (some (.Call (.Name x p) (e :: es) [] pos)) none pos') (tIS G E (sRaiseO x parts fs ma)) :=
  (ps_raise hc tk (pmk_oex T iC tI' F1 hr hb (dvs := []) .nil hx hg hm ha hdb he hpl)).imp fun D σ H h => by
    obtain ⟨ρ, S, env, hR, hE, h⟩ := h
    refine ⟨ρ, S, env, hR, hE, h.step fun ρ1 S1 H1 xs e1 hR1 h1 vs rv => ?_⟩
    split at h1
    · rename_i hcond
      obtain ⟨xl, ht⟩ := hcond
      have vl : vs.length = xs.length := rv.length.symm
      refine ⟨by omega, fun a hn => ⟨a, vs, xs, by rw [List.append_nil], by rw [vl, xl], upd_same, vl.symm, shows_reps rv, ht, fun dx H' hd ne g1 g2 g3 => ?_⟩⟩
      have hd1 : H1 dx = none := by rwa [upd_ne ne] at hd
      refine ⟨rfl, dx, _, g1, g2, hd1, ?_⟩
      have eH : upd (del H' a) dx (.xd (fs.zip vs).reverse) = upd H1 dx (.xd (fs.zip vs).reverse) := by
        funext b
        by_cases b1 : b = dx
        · rw [b1, upd_same, upd_same]
        · rw [upd_ne b1, upd_ne b1]
          by_cases b2 : b = a
          · rw [b2, del_same, hn]
          · rw [del_ne b2, g3 b b2 b1, upd_ne b2]
      rw [eH]
      have en := Ext.new (ρ := ρ1) (o := HO.xd (fs.zip vs).reverse) hd1
      refine h1 ρ1 _ _ (some dx) en (hR1.new hd1) ⟨hxc, .inr ⟨dx, _, rfl, ?_, upd_same, hR1.out hd1, ?_⟩⟩
      · intro z
        have := congrArg List.length z
        rw [List.length_reverse, List.length_zip, xl, Nat.min_self] at this
        exact f0 (List.eq_nil_of_length_eq_zero this)
      · exact flds_rev (rv.ext en)
    · exact h1.elim
end
end

/-! MiniE4 -/
/-! MiniE4: questions asked of a caught error that has fields. -/
section
open PySem PySem.Spec PyProof.Rows L2
section
variable {prog : Program} {w : World} {A : Around} {E : Value → Shared → Prop} {s : Shared} {K : PySem.W.Frag} {x D : Addr} {ox od : Obj}
/-- e.__class__, e an error with a dict -/
theorem class_of_exc {Q : Option Value → Shared → Prop} (C : ExcC K D) (X : K.In s.heap) (I : PySem.W.InstAt s.heap x ox D (some od)) (h : Q (some (.ref D)) { s with toks := s.toks + 1 }) : wpAny (model prog w) A (getAttr? (.ref x) "__class__") Q E s := by
  have isC : (PySem.W.clsIn K D).isSome = true := by
    obtain ⟨cd, hc, _⟩ := PySem.W.any_some C.hd
    rw [hc]
    rfl
  have asked := PySem.W.findObj_data (od := od) isC C.ha C.hn C.ht
  obtain ⟨hp, g, d, t, os⟩ := s
  have l0 := I.type (M := model prog w)
  have l1 := PySem.W.looks_findIn (M := model prog w) X C.hg
  have l2 := PySem.W.looks_findIn (M := model prog w) X C.hk
  have l3 := PySem.W.looks_find (M := model prog w) X I asked
  have inst : PySem.W.Looks (model prog w) hp (isInstance (.ref x) (.type "BaseException")) true := l0.andThen (PySem.W.looks_subIn X C.hs)
  have n2 : (Value.builtin "BaseException.__getattribute__" == Value.builtin "object.__getattribute__") = false := by decide +kernel
  unfold getAttr? getAttrBy? getAttrBy
  refine wpAny_bind (wpAny_mkText (wpAny_bind (wpAny_attempt (wpAny_holding (wpAny_bind (l0.at (wpAny_bind (l1.at (by
    show wpAny (model prog w) A (if (onTheHeap (Value.ref D) && Value.builtin "BaseException.__getattribute__" == Value.builtin "object.__getattribute__") = true then _ else _) _ _ _
    rw [show (onTheHeap (Value.ref D) && Value.builtin "BaseException.__getattribute__" == Value.builtin "object.__getattribute__") = false by rw [n2]; rfl, if_neg Bool.false_ne_true]
    unfold getAttrByItsOwn hookBefore
    refine wpAny_bind ?_
    rw [if_pos (show onTheHeap (Value.ref D) = true from rfl)]
    refine l2.at (wpAny_bind (wpAny_attempt (wpAny_holding ?_)))
    unfold callGetattribute
    rw [show (false && onTheHeap (Value.builtin "BaseException.__getattribute__")) = false from rfl, if_neg Bool.false_ne_true]
    unfold boundAndCalled
    rw [PySem.F.excAttr_ValueError.ga.bind (.ref x)]
    refine wpAny_bind (wpAny_pure ?_)
    show wpAny (model prog w) A (call (.builtin "BaseException.__getattribute__") [.ref x, .str "__class__" t]) _ _ _
    refine wpAny_call (codeAny_call_builtin PySem.F.excAttr_ValueError.ga.plain PySem.F.entry_bexc_ga ?_)
    refine @PySem.W.check_slot (model prog w) _ _ ⟨hp, g, d, t + 1, os⟩ "BaseException.__getattribute__" "BaseException" "__getattribute__" (.ref x) [.str "__class__" t] [] _ (by decide +kernel) (by decide +kernel) inst (PySem.F.args_bexc_ga (.ref x) (.str "__class__" t)) ?_
    unfold Builtin.«object.__getattribute__»
    refine wpAny_bind (wpAny_of_eq (a := ((Value.ref x : Value), [Value.str "__class__" t])) (by first | rfl | (simp only [slotArgs]; rfl)) ?_)
    refine wpAny_bind (wpAny_pure (wpAny_bind (l0.at (wpAny_bind (l3.at ?_)))))
    show wpAny (model prog w) _ (holding [Value.builtin "object.__class__"] (call (.builtin "getset_descriptor.__get__") [.builtin "object.__class__", .ref x, .ref D]) >>= ret) _ _ _
    refine wpAny_bind (wpAny_holding (wpAny_call (PySem.W.class_get (s := ⟨hp, g, d, t + 1, os⟩) (ox := ox) (od := some od) X I C.hm ?_)))
    refine wpAny_pure ?_
    show wpAny (model prog w) _ (handedOut (.ref D)) _ _ _
    rw [PySem.W.handedOut_of (v := .ref D) rfl]
    first
      | exact wpAny_pure (wpAny_pure h)
      | exact wpAny_pure h
      | exact wpAny_pure (wpAny_bind (wpAny_pure (wpAny_pure h))))))))))))
theorem kit_exc (C : ExcC K D) : PySem.W.KitX K (.ref x) (.ref D) (fun h => ∃ od, PySem.W.InstAt h x ox D (some od)) where
  ty := fun _ _ _ ⟨_, I⟩ => I.type
  it := fun _ _ X _ => by
    obtain ⟨cd, hc, _⟩ := PySem.W.any_some C.hd
    unfold PySem.W.clsIn at hc
    split at hc
    · rename_i ho
      intro A' Q' E' s' k q
      unfold isType loadHead
      exact wpAny_bind (wpAny_loadPart (k _ _ (X _ _ ho)) (wpAny_pure q))
    · cases hc
  ne := fun h tp dd its n sl X htp => by
    obtain ⟨cd, hc, _⟩ := PySem.W.any_some C.hd
    refine beq_eq_false_iff_ne.mpr fun z => ?_
    injection z with z
    subst z
    unfold PySem.W.clsIn at hc
    split at hc
    · rename_i ho
      cases (X _ _ ho).symm.trans htp
    · cases hc
  ca := fun X ⟨_, I⟩ k => class_of_exc C X I k
end
/-- isinstance(e, c), e the exception that the suite holds, its dict at dd -/
def rIsD (K : PySem.W.Frag) (D a dd : Addr) : List V → Hp → VK → Prop := fun xs H Q => ∃ (c : V) (cv : Value) (b : Bool), xs = [.ref a, c] ∧ (∀ u, RelV c u → u = cv) ∧ PySem.W.kitOne K (.ref D) cv = some b ∧ (∃ gs, H dd = some (.xd gs)) ∧ Q (.bl b) H
theorem call_isD {X : Cx} {a D dd : Addr} {oe : Obj} {pn : List (Addr × Obj)} (C : ExcC X.K D) (hz : Zc (.ref D) (some dd) oe) (hf : ∃ vs, oe.data = .fields vs) : CallR (X.suite a ((a, oe) :: pn)) (.builtin "isinstance") (rIsD X.K D a dd) := by
  rintro pins s σ H xs us Q I r ⟨c, cv, b, rfl, hcv, e, ⟨gs, hd⟩, q⟩
  cases r with
  | cons rx rr =>
    cases rr with
    | cons rt rr =>
      cases rr
      cases rx
      obtain rfl := hcv _ rt
      obtain ⟨hget, _⟩ := I.pin (a, oe) (List.mem_append_left _ List.mem_cons_self)
      obtain ⟨vs, hv⟩ := hf
      obtain ⟨mA, ⟨od, es, ep, ho, _⟩, _⟩ : ObjOk X.prog X.w H s.heap dd (.xd gs) := I.hok dd _ hd
      have J : PySem.W.InstAt s.heap a oe D (some od) := ⟨hget, hz.1, by unfold PySem.W.notCls; rw [hv], by rw [hz.2]; exact ho⟩
      exact PySem.W.kia_one (kit_exc C) I.kIn ⟨od, J⟩ e (fun z => nomatch z) fun tk => ⟨.bl b, H, I.kept (t' := tk) fun _ _ z => z, rfl, q⟩
end

/-! MiniE5 -/
/-! MiniE5: the steps of a def that tells an error with fields. -/
section
open PySem PySem.Spec PyProof.Rows L2
section
variable {X : Cx} {a C D dd : Addr} {oe : Obj} {pn : List (Addr × Obj)} {ie ik : Nat} {e k c : Str} {b : Bool} {bs : List Bool} {x : Expr} {es : List Expr} {p p1 p2 p3 p4 pos : Pos}
/-- as long as slot ie holds the error at a, and its dict stands at dd -/
def tIdE (a : Addr) (ie : Nat) (dd : Addr) (b : Bool) : TE := fun σ H Q => σ[ie]? = some (some (.ref a)) ∧ (∃ gs, H dd = some (.xd gs)) ∧ Q (.bl b) H
def tIdA (a : Addr) (ie : Nat) (dd : Addr) (bs : List Bool) : TA := fun σ H Q => σ[ie]? = some (some (.ref a)) ∧ (∃ gs, H dd = some (.xd gs)) ∧ Q (bs.map V.bl) H
theorem pe_isD (hC : ExcC X.K C) (hz : Zc (.ref C) (some dd) oe) (hf : ∃ vs, oe.data = .fields vs) (hi : Gl X "isinstance") (hm : X.mg "isinstance" = none) (hN : X.N[ie]? = some e) (hv : Vis X.env.scope e) (hgc : Gl X c) (hmc : X.mg c = some (.ref D)) (hk : PySem.W.kitOne X.K (.ref C) (.ref D) = some b)
    (hd : (e == ("__debug__" : Str)) = false := by decide) (hcd : (e == ("__classdict__" : Str)) = false := by decide) (hdc : (c == ("__debug__" : Str)) = false := by decide) :
    PE (X.suite a ((a, oe) :: pn)) (.Call (.Name "isinstance" p) [.Name e p1, .Name c p2] [] pos) (tIdE a ie dd b) :=
  (pe_callB (X := X.suite a ((a, oe) :: pn)) (call_isD hC hz hf) hi hm (by decide +kernel) (pa_cons (pe_var (i := ie) hN hv hd hcd) (pa_cons (pe_glob (v := .ref D) hgc hmc rfl hdc) pa_nil rfl) rfl) (by decide) (by decide)).imp fun σ H Q h =>
    ⟨.ref a, h.1, .ref D, .ref D, b, rfl, fun u ru => ru, hk, h.2.1, h.2.2⟩
theorem pe_isDV (hC : ExcC X.K C) (hz : Zc (.ref C) (some dd) oe) (hf : ∃ vs, oe.data = .fields vs) (hi : Gl X "isinstance") (hm : X.mg "isinstance" = none) (hN : X.N[ie]? = some e) (hv : Vis X.env.scope e) (hgc : Gl X "ValueError") (hmc : X.mg "ValueError" = none) (hk : PySem.W.kitOne X.K (.ref C) (.type "ValueError") = some b)
    (hd : (e == ("__debug__" : Str)) = false := by decide) (hcd : (e == ("__classdict__" : Str)) = false := by decide) :
    PE (X.suite a ((a, oe) :: pn)) (.Call (.Name "isinstance" p) [.Name e p1, .Name "ValueError" p2] [] pos) (tIdE a ie dd b) :=
  (pe_callB (X := X.suite a ((a, oe) :: pn)) (call_isD hC hz hf) hi hm (by decide +kernel) (pa_cons (pe_var (i := ie) hN hv hd hcd) (pa_cons (pe_bltn (v := .ty "ValueError") hgc hmc (by decide +kernel) rfl (by decide) (by decide)) pa_nil rfl) rfl) (by decide) (by decide)).imp fun σ H Q h =>
    ⟨.ref a, h.1, .ty "ValueError", .type "ValueError", b, rfl, fun u ru => ru, hk, h.2.1, h.2.2⟩
variable {Y : Cx}
theorem isd_nil : PA Y [] (tIdA a ie dd []) := pa_nil.imp fun σ H Q h => h.2.2
theorem isd_cons (h : PE Y x (tIdE a ie dd b)) (r : PA Y es (tIdA a ie dd bs)) (hs : starEach (x :: es) Y.env = (false, eval x Y.env) :: starEach es Y.env := by rfl) : PA Y (x :: es) (tIdA a ie dd (b :: bs)) :=
  (pa_cons h r hs).imp fun σ H Q h => ⟨h.1, h.2.1, h.1, h.2.1, h.2.2⟩
def tNewD (a : Addr) (ie ik : Nat) (dd : Addr) (bs : List Bool) : TS := fun D σ H => σ[ie]? = some (some (.ref a)) ∧ (∃ gs, H dd = some (.xd gs)) ∧ ∀ p, H p = none → D.nx (σ.set ik (some (.ref p))) (upd H p (.lst (bs.map V.bl)))
theorem st_newD (h : PA Y es (tIdA a ie dd bs)) (hl : bs.length ≤ 1000) (hN : Y.N.Nodup) (hk : Y.N[ik]? = some k) (hx : Loc Y.env.scope k) (hf : Y.fn k = true ∨ Y.env.scope.names.lookup k = some .local) (hs : swapsWithSole [.Name k p] (.List es p2) pos.line Y.env = pure false := by rfl) (hw : swappedStores [.Name k p] (.List es p2) Y.env = pure none := by rfl)
    (h1 : (assignEach [.Name k p] Y.env).map (·.2) = [assign (.Name k p) Y.env] := by rfl) : PS Y (.Assign [.Name k p] (.List es p2) pos) (tNewD a ie ik dd bs) :=
  (ps_asg (pe_lst h) (pg_name (i := ik) hN hk hx hf) hs hw h1).imp fun D σ H h => ⟨h.1, h.2.1, by rw [List.length_map, sizeLine_eq]; omega, h.2.2⟩
def tMoreD (a : Addr) (ie ik : Nat) (dd : Addr) (bs : List Bool) : TS := fun D σ H => σ[ie]? = some (some (.ref a)) ∧ (∃ gs, H dd = some (.xd gs)) ∧ ∃ l cs, σ[ik]? = some (some (.ref l)) ∧ H l = some (.lst (cs.map V.bl)) ∧ cs.length ≤ 1000 ∧
  ∀ q p, H q = none → upd H q (.lst (bs.map V.bl)) p = none → D.nx (σ.set ik (some (.ref p))) (upd (upd H q (.lst (bs.map V.bl))) p (.lst ((cs ++ bs).map V.bl)))
theorem st_moreD (h : PA Y es (tIdA a ie dd bs)) (hl : bs.length ≤ 1000) (hN : Y.N.Nodup) (hk : Y.N[ik]? = some k) (hx : Loc Y.env.scope k) (hv : Vis Y.env.scope k) (hf : Y.fn k = true ∨ Y.env.scope.names.lookup k = some .local) (hs : swapsWithSole [.Name k p] (.BinOp (.Name k p1) .Add (.List es p2) p3) pos.line Y.env = pure false := by rfl) (hw : swappedStores [.Name k p] (.BinOp (.Name k p1) .Add (.List es p2) p3) Y.env = pure none := by rfl)
    (h1 : (assignEach [.Name k p] Y.env).map (·.2) = [assign (.Name k p) Y.env] := by rfl) (hd : (k == ("__debug__" : Str)) = false := by decide) (hcd : (k == ("__classdict__" : Str)) = false := by decide) : PS Y (.Assign [.Name k p] (.BinOp (.Name k p1) .Add (.List es p2) p3) pos) (tMoreD a ie ik dd bs) :=
  (ps_asg (pe_op op_cat (pe_var (i := ik) hk hv hd hcd) (pe_lst h)) (pg_name (i := ik) hN hk hx hf) hs hw h1).imp fun D σ H h => by
    obtain ⟨h0, hd, l, cs, h2, h3, h4, h5⟩ := h
    refine ⟨.ref l, h2, h0, hd, by rw [List.length_map, sizeLine_eq]; omega, fun q hq => ⟨l, q, _, _, rfl, rfl, by rw [upd_ne (ne_of_none h3 hq)]; exact h3, upd_same, by rw [List.length_map, List.length_map, sizeLine_eq]; omega, fun p hp => ?_⟩⟩
    rw [← List.map_append]
    exact h5 q p hq hp
theorem pt_kindsD {j : Nat} {p5 p7 p8 p9 : Pos} {j2 : Nat} {y : Expr} (hv : Vis Y.env.scope k) (hk : Y.N[ik]? = some k) (h : PT Y y (tB (tIdE a ie dd b)))
    (hbase : attributeBase (.Name k p1) "count" Y.env (eval (.Name k p1) Y.env) = eval (.Name k p1) Y.env := by rfl) (hline : (p2.endLine == p4.line) = true := by rfl) (hd : (k == ("__debug__" : Str)) = false := by decide) (hcd : (k == ("__classdict__" : Str)) = false := by decide) :
    PT Y (.BoolOp .Or [.Compare (.Call (.Attribute (.Name k p1) "count" p2) [.Constant (.bool true) j p3] [] p4) [.NotEq] [.Constant (.int 1) j2 p5] p7, .UnaryOp .Not y p8] p9)
      (fun σ H Q => ∃ (l : Addr) (cs : List Bool), σ[ik]? = some (some (.ref l)) ∧ H l = some (.lst (cs.map V.bl)) ∧ σ[ie]? = some (some (.ref a)) ∧ (∃ gs, H dd = some (.xd gs)) ∧ Q (!decide (cs.count true = 1) || !b) H) :=
  ((pw_or (pt_cmpR op_ne (pe_bm PySem.F.plainAttrs_list PySem.F.slot_list_count PySem.F.type_list_count mt_bcount (pe_var (i := ik) hk hv hd hcd) (pa_cons pe_bl pa_nil) hbase rfl hline) pe_int (nobehind _ (by decide) (by decide))) (pw_or1 (pt_not h))).pt).imp fun σ H Q h => by
    obtain ⟨l, cs, h1, h2, h3, hx, h4⟩ := h
    refine ⟨.ref l, h1, .inl ⟨rfl, _, .inl (.inl h2)⟩, l, cs, true, rfl, rfl, .inl (.inl h2), rfl, _, rfl, ?_⟩
    have e : decide (V.int ((cs.count true : Nat) : Int) = V.int 1) = decide (cs.count true = 1) := by
      rw [Bool.eq_iff_iff, decide_eq_true_iff, decide_eq_true_iff]
      exact ⟨fun z => by have z := V.int.inj z; omega, fun z => by rw [z]; rfl⟩
    rw [e]
    by_cases hc : cs.count true = 1
    · rw [decide_eq_true hc]
      refine ⟨h3, hx, b, rfl, ?_⟩
      rw [decide_eq_true hc] at h4
      exact h4
    · rw [decide_eq_false hc]
      rw [decide_eq_false hc] at h4
      exact h4
/-- if k[i]: .. that is done -/
theorem ps_yes {i : Int} {j : Nat} {st : List Stmt} {t : TS} (hst : PSs Y st t) (hv : Vis Y.env.scope k) (hk : Y.N[ik]? = some k) (hd : (k == ("__debug__" : Str)) = false := by decide) (hcd : (k == ("__classdict__" : Str)) = false := by decide) :
    PS Y (.If (.Subscript (.Name k p1) (.Constant (.int i) j p2) p3) st [] pos) (fun D σ H => ∃ (l : Addr) (cs : List Bool) (m : Nat), σ[ik]? = some (some (.ref l)) ∧ H l = some (.lst (cs.map V.bl)) ∧ i = (m : Int) ∧ cs[m]? = some true ∧ t D σ H) :=
  (ps_if (pt_val (pe_ix ix_list (pe_var (i := ik) hk hv hd hcd) pe_int (fun _ _ => rfl))) hst pss_nil).imp fun D σ H h => by
    obtain ⟨l, cs, m, h1, h2, rfl, h3, h4⟩ := h
    refine ⟨.ref l, h1, l, cs.map V.bl, m, .bl true, rfl, rfl, .inl (.inl h2), ?_, true, rfl, ?_⟩
    · exact atI_nat (by rw [List.getElem?_map, h3]; rfl)
    · exact h4
/-- e.f, a field of the error -/
theorem pe_fldE {n : Str} (T : XfC X.K C) (hno : PySem.W.findIn X.K (.ref C) n = some none) (hz : Zc (.ref C) (some dd) oe) (hf : ∃ vs, oe.data = .fields vs) (hN : X.N[ie]? = some e) (hv : Vis X.env.scope e)
    (hb : attributeBase (.Name e p1) n X.env (eval (.Name e p1) X.env) = eval (.Name e p1) X.env := by rfl) (hd : (e == ("__debug__" : Str)) = false := by decide) (hcd : (e == ("__classdict__" : Str)) = false := by decide) :
    PE (X.suite a ((a, oe) :: pn)) (.Attribute (.Name e p1) n pos) (fun σ H Q => σ[ie]? = some (some (.ref a)) ∧ ∃ gs v, H dd = some (.xd gs) ∧ gs.lookup n = some v ∧ Q v H) :=
  (pe_xf T hno hz hf (pe_var (X := X.suite a ((a, oe) :: pn)) (i := ie) hN hv hd hcd) hb).imp fun σ H Q ⟨h1, gs, v, h2, h3, h4⟩ => ⟨.ref a, h1, rfl, rfl, dd, gs, v, rfl, h2, h3, h4⟩
end
/-- what the error's class makes of it, with fields -/
def wKindF (K : PySem.W.Frag) (Q : VK) : XK := fun cls d H => (∃ C j w, cls = .ref C ∧ d = none ∧ kindWords[j]? = some w ∧ j ≠ 0 ∧ KindC K C j ∧ ∀ H', Keeps H H' → Q (.str w) H') ∨
  (∃ C dd gs v1 v2 v3, cls = .ref C ∧ d = some dd ∧ H dd = some (.xd gs) ∧ KindC K C 0 ∧ XfC K C ∧ (∀ f ∈ (["word", "number", "row"] : List Str), PySem.W.findIn K (.ref C) f = some none) ∧ gs.lookup ("word" : Str) = some v1 ∧ gs.lookup ("number" : Str) = some v2 ∧ gs.lookup ("row" : Str) = some v3 ∧
    ∀ H', Keeps H H' → ∀ p, H' p = none → Q (.ref p) (upd H' p (.tup [.str "BadProgram", v1, v2, v3]))) ∨
  ∃ C dd gs v1, cls = .ref C ∧ d = some dd ∧ H dd = some (.xd gs) ∧ KindC K C 9 ∧ XfC K C ∧ PySem.W.findIn K (.ref C) "line" = some none ∧ gs.lookup ("line" : Str) = some v1 ∧ ∀ H', Keeps H H' → ∀ p, H' p = none → Q (.ref p) (upd H' p (.tup [.str "BadText", v1]))
def TKindF (K : PySem.W.Frag) : (XK → Hp → VK → Prop) → Hp → VK → Prop := fun tl H Q => tl (wKindF K Q) H fun _ H' => Q (.str "") H'
end

/-! MiniE6 -/
/-! MiniE6: kind(lambda: m), with the fields told. -/
section
open PySem PySem.Spec PyProof.Rows L2
def eKindF (m : XE) : XE := fun env S => match m env S with
  | .ok _ S1 => .ok (.str "") S1
  | .exc e S1 =>
    if e.cls ∈ kindWords ∧ e.cls ≠ ("" : Str) ∧ e.fs = [] then .ok (.str e.cls) S1
    else if e.cls = ("BadProgram" : Str) then
      match e.fs.lookup ("word" : Str), e.fs.lookup ("number" : Str), e.fs.lookup ("row" : Str) with
      | some x1, some x2, some x3 => .ok (.tup [.str "BadProgram", x1, x2, x3]) S1
      | _, _, _ => .bad
    else if e.cls = ("BadText" : Str) then
      match e.fs.lookup ("line" : Str) with
      | some x1 => .ok (.tup [.str "BadText", x1]) S1
      | none => .bad
    else .bad
  | .bad => .bad
section
variable {w : World} {K : PySem.W.Frag} {ρ : Rho} {S : Store} {H H' : Hp} {G : Gx} {E : XK} {mb : XE}
theorem flds_find {f : Str} : ∀ {fs : List (Str × PV)} {gs : List (Str × V)} {x : PV}, Flds K ρ H fs gs → fs.lookup f = some x → ∃ v, gs.lookup f = some v ∧ Rep K ρ H x v
  | [], _, _, _, h => by cases h
  | (g, y) :: fs, _, x, r, h => by
    obtain ⟨v, s, rfl, r1, r2⟩ := r
    rw [List.lookup_cons] at h ⊢
    by_cases c : (f == g) = true
    · rw [c] at h ⊢
      cases h
      exact ⟨v, rfl, r1⟩
    · rw [Bool.eq_false_iff.mpr c] at h ⊢
      exact flds_find r2 h
/-- a class with fields, as the written part has it -/
structure FldC (K : PySem.W.Frag) (w : Str) (j : Nat) (fs : List Str) : Prop where
  k : KindC K (He.ga K w) j
  x : XfC K (He.ga K w)
  no : ∀ f ∈ fs, PySem.W.findIn K (.ref (He.ga K w)) f = some none
theorem kind_readF {σ : L2.St} {Q : VK} (hxc : ∀ (j : Nat) (w : Str), kindWords[j]? = some w → j ≠ 0 → G.xc w = some (.ref (He.ga G.K w)) ∧ KindC G.K (He.ga G.K w) j) (xP : G.xc "BadProgram" = some (.ref (He.ga G.K "BadProgram"))) (xT : G.xc "BadText" = some (.ref (He.ga G.K "BadText")))
    (cP : FldC G.K "BadProgram" 0 ["word", "number", "row"]) (cT : FldC G.K "BadText" 9 ["line"]) (h : tI G E (eKindF mb) σ H Q) : LamX.tLam (KT G.K) (TKindF G.K) (fun E => tI G E mb) σ H Q := by
  obtain ⟨ρ, S, env, hR, hE, h⟩ := h
  refine ⟨hR.tabs, fun H1 eN T1 => ?_⟩
  have e1 : Ext ρ H ρ H1 := Ext.ofN eN
  refine ⟨ρ, S, env, hR.over e1 (fun a o ho po => eN a o ho po.1) T1, hE.ext e1, ?_⟩
  unfold eKindF at h
  cases hm : mb env S with
  | bad => rw [hm] at h; exact h
  | ok x S1 =>
    rw [hm] at h
    exact fun ρ' H' e q v _ => h ρ' H' (e1.trans e) q _ Rep.str
  | exc x S1 =>
    rw [hm] at h
    simp only at h
    -- a new tuple, whatever came about since
    have lay : ∀ (xs : List PV) (vs : List V) (ρ' : Rho) (H' : Hp), Ext ρ H1 ρ' H' → Rel G.w G.K ρ' S1 H' → Reps G.K ρ' H' xs vs → Aft G E ρ H (.ok (.tup xs) S1) (kV G Q) → ∀ H2, Keeps H' H2 → ∀ p, H2 p = none → Q (.ref p) (upd H2 p (.tup vs)) := fun xs vs ρ' H' e q r h H2 kp p hp => by
      have e2 : Ext ρ' H' ρ' H2 := Ext.ofN fun a o ho _ => kp a o ho
      have q2 : Rel G.w G.K ρ' S1 H2 := q.over e2 (fun a o ho _ => kp a o ho) (q.tabs.ext kp)
      have e3 : Ext ρ' H2 ρ' (upd H2 p (.tup vs)) := Ext.new hp
      refine h ρ' _ (e1.trans (e.trans (e2.trans e3))) (q2.new hp) _ ?_
      unfold Rep
      exact ⟨p, vs, rfl, .inl ⟨.inl upd_same, q2.out hp⟩, (r.ext e2).ext e3⟩
    split at h
    · rename_i hc
      obtain ⟨c1, c2, c3⟩ := hc
      intro ρ' H' cls d e q xr
      obtain ⟨j, hj⟩ := List.mem_iff_getElem?.mp c1
      have j0 : j ≠ 0 := fun z => by
        rw [z] at hj
        exact c2 (Option.some.inj hj).symm
      obtain ⟨k1, k2⟩ := hxc j _ hj j0
      obtain ⟨x1, x2⟩ := xr
      rw [k1] at x1
      cases x1
      rcases x2 with ⟨_, rfl⟩ | ⟨_, _, _, z, _⟩
      · refine .inl ⟨_, j, x.cls, rfl, rfl, hj, j0, k2, fun H2 k => ?_⟩
        have e2 : Ext ρ' H' ρ' H2 := Ext.ofN fun a o ho _ => k a o ho
        exact h ρ' H2 (e1.trans (e.trans e2)) (q.over e2 (fun a o ho _ => k a o ho) (q.tabs.ext k)) _ Rep.str
      · exact absurd c3 z
    · split at h
      · rename_i hP
        split at h
        · rename_i y1 y2 y3 l1 l2 l3
          intro ρ' H' cls d e q xr
          obtain ⟨x1, x2⟩ := xr
          rw [hP, xP] at x1
          cases x1
          rcases x2 with ⟨z, _⟩ | ⟨a, gs, rfl, _, hx, _, fl⟩
          · rw [z] at l1
            cases l1
          · obtain ⟨v1, m1, r1⟩ := flds_find fl l1
            obtain ⟨v2, m2, r2⟩ := flds_find fl l2
            obtain ⟨v3, m3, r3⟩ := flds_find fl l3
            exact .inr (.inl ⟨_, a, gs, v1, v2, v3, rfl, rfl, hx, cP.k, cP.x, cP.no, m1, m2, m3, lay _ _ ρ' H' e q (.cons Rep.str (.cons r1 (.cons r2 (.cons r3 .nil)))) h⟩)
        · exact h.elim
      · split at h
        · rename_i hT
          split at h
          · rename_i y1 l1
            intro ρ' H' cls d e q xr
            obtain ⟨x1, x2⟩ := xr
            rw [hT, xT] at x1
            cases x1
            rcases x2 with ⟨z, _⟩ | ⟨a, gs, rfl, _, hx, _, fl⟩
            · rw [z] at l1
              cases l1
            · obtain ⟨v1, m1, r1⟩ := flds_find fl l1
              exact .inr (.inr ⟨_, a, gs, v1, rfl, rfl, hx, cT.k, cT.x, cT.no _ List.mem_cons_self, m1, lay _ _ ρ' H' e q (.cons Rep.str (.cons r1 .nil)) h⟩)
          · exact h.elim
        · exact h.elim
end
end

/-! MiniE7 -/
/-! MiniE7: such an __init__ found in the written part, by a look at its text. -/
section
open PySem PySem.Spec PyProof.Rows L2





theorem plain_of {n : Str} (h : plainN n = true) : (n == ("__debug__" : Str)) = false ∧ (n == ("__classdict__" : Str)) = false := by
  unfold plainN at h
  simpa using h
section
variable {X : Cx} {ps : List Str}
theorem parts_pj (hN : X.N = ps) (loc : ∀ n ∈ ps, X.env.scope.names.lookup n = some .local) : ∀ {es : List Expr} {parts : List (Sum Str Nat)}, partsB ps es parts = true → PJ X es (parts.map jPart)
  | [], [], _ => .nil
  | e :: es, p :: r, h => by
    unfold partsB at h
    obtain ⟨h1, h2⟩ := Bool.and_eq_true_iff.mp h
    refine .cons ?_ (parts_pj hN loc h2)
    unfold partB at h1
    split at h1
    · rename_i s t
      have e := of_decide_eq_true h1
      subst e
      exact pe_str
    · rename_i n p1 c p2 i
      obtain ⟨c1, h1⟩ := Bool.and_eq_true_iff.mp h1
      obtain ⟨c2, c3⟩ := Bool.and_eq_true_iff.mp h1
      have c1 := of_decide_eq_true c1
      have c2 := of_decide_eq_true c2
      subst c1
      obtain ⟨d1, d2⟩ := plain_of c3
      exact pe_fmt (pe_var (i := i + 1) (by rw [hN]; exact c2) (.inl (loc _ (List.mem_of_getElem? c2))) d1 d2)
    · cases h1
theorem sets_of (hN : X.N = ps) (loc : ∀ n ∈ ps, X.env.scope.names.lookup n = some .local) : ∀ {ss : List Stmt} {r : List (Str × Nat)}, setsB ps ss r = true → Sets X ss r
  | [], [], _ => .nil
  | s :: ss, p :: r, h => by
    unfold setsB at h
    obtain ⟨h1, h2⟩ := Bool.and_eq_true_iff.mp h
    obtain ⟨g, i⟩ := p
    refine .cons ?_ (sets_of hN loc h2)
    unfold setB at h1
    split at h1
    · rename_i s p1 f p2 n p3 p4 g' i' heq
      cases heq
      obtain ⟨c1, h1⟩ := Bool.and_eq_true_iff.mp h1
      obtain ⟨c2, h1⟩ := Bool.and_eq_true_iff.mp h1
      obtain ⟨c3, h1⟩ := Bool.and_eq_true_iff.mp h1
      obtain ⟨c4, c5⟩ := Bool.and_eq_true_iff.mp h1
      have c1 := of_decide_eq_true c1
      have c2 := of_decide_eq_true c2
      have c3 := of_decide_eq_true c3
      subst c2
      exact ps_ost (pe_var (i := 0) (by rw [hN]; exact c1) (.inl (loc _ (List.mem_of_getElem? c1))) (plain_of c4).1 (plain_of c4).2) (pe_var (i := i) (by rw [hN]; exact c3) (.inl (loc _ (List.mem_of_getElem? c3))) (plain_of c5).1 (plain_of c5).2)
    · cases h1
end

theorem scope_of {ps : List Str} {sc : Scope} (h : scopeB ps sc = true) : SupScope ps ps sc := by
  unfold scopeB at h
  simp only [Bool.and_eq_true, decide_eq_true_eq, Bool.not_eq_true', List.all_eq_true, Bool.or_eq_true] at h
  obtain ⟨h1, h2, h3, h4, h5, h6, h7, h8, h9⟩ := h
  refine ⟨h1, h2, h3, h4, List.take_length, h5, h6, fun y hy => ?_, h8, h9⟩
  rcases h7 _ (PySem.mem_of_lookup hy) with z | z
  · simp at z
  · exact z
/-- the text of a program, as far as super() asks for it -/
class PgOk (P : Program) (file : Str) : Prop where
  file : ((P.main.file : Str) == file) = true
  top : (P.main.scope.names.lookup ("super" : Str)).isSome = false
end

/-! MiniE8 -/
/-! MiniE8: the class and its __init__, found in the written part. -/
section
open PySem PySem.Spec PyProof.Rows L2

theorem oexB_ok {K : PySem.W.Frag} {C : Addr} (h : oexB K C = true) : OexC K C := by
  unfold oexB at h
  obtain ⟨h1, h⟩ := Bool.and_eq_true_iff.mp h
  obtain ⟨h2, h⟩ := Bool.and_eq_true_iff.mp h
  obtain ⟨h3, h⟩ := Bool.and_eq_true_iff.mp h
  obtain ⟨h4, h5⟩ := Bool.and_eq_true_iff.mp h
  refine ⟨?_, of_decide_eq_true h2, of_decide_eq_true h3, of_decide_eq_true h4, h5⟩
  split at h1
  · rename_i t dd cd sl ho
    split at h1
    · rename_i C' bm k0 k1 k2 k3 n k5 hm hs
      simp only [Bool.and_eq_true, decide_eq_true_eq, Bool.not_eq_true'] at h1
      obtain ⟨rfl, rfl, rfl, hdel, hdict, hbm⟩ := h1
      obtain ⟨nm, bs, mro, ns, qn, hd, sn, sub, ab, col, del⟩ := cd
      dsimp only at hm hdel hdict
      subst hm hdel hdict
      have hsl : sl = #[k0, k1, k2, k3, some (.builtin "ValueError.__new__"), k5] := by
        obtain ⟨l⟩ := sl
        simp only at hs
        rw [hs]
      subst hsl
      exact ⟨nm, qn, ns, bs, bm, sn, sub, ab, col, dd, k0, k1, k2, k3, k5, ho, hbm⟩
    · cases h1
  · cases h1

theorem args_head {ps : List Str} {a : Arguments} (h : argsB ps a = true) : ∃ ar, (a.posonlyargs ++ a.args).head? = some ar ∧ ps.head? = some ar.arg := by
  unfold argsB at h
  split at h
  · rename_i n0 n1 a0 a1
    simp only [Bool.and_eq_true, decide_eq_true_eq] at h
    obtain ⟨rfl, rfl⟩ := h
    exact ⟨a0, rfl, rfl⟩
  · rename_i n0 n1 n2 n3 a0 a1 a2 a3
    simp only [Bool.and_eq_true, decide_eq_true_eq] at h
    obtain ⟨rfl, rfl, rfl, rfl⟩ := h
    exact ⟨a0, rfl, rfl⟩
  · cases h
theorem args_line {K : PySem.W.Frag} {fd : FuncData} (h : argsB ["self", "line"] fd.params = true) (hd : fd.defaults = .none) (hk : fd.kwdefaults = .none) : L2.Binds K fd ["self", "line"] [] := by
  obtain ⟨name, qual, params, body, scope, gl, cl, dfl, kw, doc, pm, an, cd, ct, bl⟩ := fd
  dsimp only at h hd hk
  subst hd hk
  unfold argsB at h
  split at h
  · rename_i n0 n1 a0 a1 e
    cases e
    obtain ⟨b0, t0, q0⟩ := a0
    obtain ⟨b1, t1, q1⟩ := a1
    simp only [Bool.and_eq_true, decide_eq_true_eq] at h
    obtain ⟨rfl, rfl⟩ := h
    exact .all fun us hl => match us, hl with | [_, _], _ => rfl
  · rename_i e
    cases e
  · cases h
theorem args_prog {K : PySem.W.Frag} {fd : FuncData} (h : argsB ["self", "word", "number", "row"] fd.params = true) (hd : fd.defaults = .none) (hk : fd.kwdefaults = .none) : L2.Binds K fd ["self", "word", "number", "row"] [] := by
  obtain ⟨name, qual, params, body, scope, gl, cl, dfl, kw, doc, pm, an, cd, ct, bl⟩ := fd
  dsimp only at h hd hk
  subst hd hk
  unfold argsB at h
  split at h
  · rename_i e
    cases e
  · rename_i n0 n1 n2 n3 a0 a1 a2 a3 e
    cases e
    obtain ⟨b0, t0, q0⟩ := a0
    obtain ⟨b1, t1, q1⟩ := a1
    obtain ⟨b2, t2, q2⟩ := a2
    obtain ⟨b3, t3, q3⟩ := a3
    simp only [Bool.and_eq_true, decide_eq_true_eq] at h
    obtain ⟨rfl, rfl, rfl, rfl⟩ := h
    exact .all fun us hl => match us, hl with | [_, _, _, _], _ => rfl
  · cases h
end

/-! MiniE9 -/
/-! MiniE9: .. and what such a class keeps. -/
section
open PySem PySem.Spec PyProof.Rows L2




theorem ev_super {p0 p1 ap cp jp : Pos} {e1 e2 : Expr} {es : List Expr} (hl : (ap.endLine == cp.line) = true) (env : PySem.Env) : eval (.Call (.Attribute (.Call (.Name "super" p0) [] [] p1) "__init__" ap) [.JoinedStr (e1 :: e2 :: es) jp] [] cp) env = (do
      let ov ← attributeBase (.Call (.Name "super" p0) [] [] p1) "__init__" env (eval (.Call (.Name "super" p0) [] [] p1) env)
      standAt ap.atName
      let (f, first) ← holding [ov] (getMethod ov "__init__" (L2.plainOf (.Call (.Name "super" p0) [] [] p1) env))
      callWith cp f first (backTo cp (starEach [.JoinedStr (e1 :: e2 :: es) jp] env)) []) := by
  have e : ∀ ov, methodCall (.Call (.Name "super" p0) [] [] p1) "__init__" ap cp env ov 1 (backTo cp (starEach [.JoinedStr (e1 :: e2 :: es) jp] env)) [] = _ := fun ov => L2.mcall_line rfl hl
  show (attributeBase (.Call (.Name "super" p0) [] [] p1) "__init__" env (eval (.Call (.Name "super" p0) [] [] p1) env) >>= fun ov => standAt ap.atName >>= fun _ => methodCall (.Call (.Name "super" p0) [] [] p1) "__init__" ap cp env ov 1 (backTo cp (starEach [.JoinedStr (e1 :: e2 :: es) jp] env)) []) = _
  simp only [e]
theorem sup_of {P : Program} {K : PySem.W.Frag} {mg : Str → Option Value} {C : Addr} {ps fs : List Str} {parts : List (Sum Str Nat)} {file : Str} [pg : PgOk P file] (h : supB K C ps fs parts file = true) (hm : mg "super" = none) :
    ∃ fI fd, OexC K C ∧ fs ≠ [] ∧ fs.length ≤ 900 ∧ PySem.W.findIn K (.ref C) "__init__" = some (some (.ref fI)) ∧ PySem.W.typeIn K (.ref fI) = some (.type "function") ∧ (argsB ps fd.params = true ∧ fd.defaults = .none ∧ fd.kwdefaults = .none) ∧
      ∀ (CX : CXT) (w : World) (base : Heap) (k : Nat), FnOk P w K mg base CX (k + 1) fI fd ps (spSup C parts fs) := by
  unfold supB at h
  simp only [Bool.and_eq_true, decide_eq_true_eq, List.all_eq_true] at h
  obtain ⟨h1, h2, h3, h4, h5, h6, h7, h8, h9, h⟩ := h
  have T := oexB_ok h1
  split at h
  · rename_i fI hfI
    obtain ⟨ht, h⟩ := Bool.and_eq_true_iff.mp h
    split at h
    · rename_i oc od fd osl lk
      refine ⟨fI, fd, T, h8, h9, hfI, of_decide_eq_true ht, ?_⟩
      unfold supFB at h
      split at h
      · rename_i s1 p0 p1 s2 ap e1 e2 es jp cp ep rest n cc cda hb hc hd
        simp only [Bool.and_eq_true, decide_eq_true_eq] at h
        obtain ⟨gl0, rfl, rfl, rfl, g1, g2, g3, g4, g5, g6, g7, g8, g9, ga, gb⟩ := h
        have S := scope_of g3
        refine ⟨⟨g9, ga, gb⟩, fun CX w base k => ?_⟩
        obtain ⟨ar, ar1, ar2⟩ := args_head g9
        obtain ⟨name, qual, params, body, scope, gl, cl, dfl, kw, doc, pm, an, cd, ct, bl⟩ := fd
        dsimp only at hb hc hd g3 g4 g5 g6 g9 ga gb S ar1
        subst hb hc hd g4 g5
        have B : SupC P K mg C cc cda := by
          unfold cellB at g7
          unfold fileB at g8
          split at g7
          · rename_i D z1
            have z2 := of_decide_eq_true g7
            subst z2
            split at g8
            · rename_i vs z3
              split at g8
              · rename_i f t z4
                have z5 := of_decide_eq_true g8
                subst z5
                exact ⟨T, ⟨_, _, _, _, _, _, z3, z4, pg.file⟩, pg.top, ⟨_, _, _, z1⟩, hm, h2, h3, h4, h5⟩
              · cases g8
            · cases g8
          · cases g7
        exact sup_init lk g6 B S ar1 ar2 _ (fun env => rfl) (fun env => ev_super gl0 env) h7 h8 h9 h6 fun A outer s H E => ⟨parts_pj rfl S.par g1, sets_of rfl S.par g2⟩
      · cases h
    · cases h
  · cases h
end

/-! MiniEA -/
/-! MiniEA: raise C(..) by the look alone; the two classes. -/
section
open PySem PySem.Spec PyProof.Rows L2
section
variable {G : Gx} {E : XK} {X : Cx} {x : Str} {ps fs : List Str} {parts : List (Sum Str Nat)} {file : Str} {e : Expr} {es : List Expr} {ma : XA} {pos p pos' : Pos}
theorem s_raiseOB [pg : PgOk X.prog file] (h : supB X.K (He.ga X.K x) ps fs parts file = true) (hms : X.mg "super" = none) (hbind : ∀ fd : FuncData, argsB ps fd.params = true → fd.defaults = .none → fd.kwdefaults = .none → L2.Binds X.K fd ps []) (hr : Room 2 X.A) (hc : X.calm = true) (tk : Takes X fun cls d _ H => E cls d H) (hg : Gl X x)
    (hm : X.mg x = some (.ref (He.ga X.K x))) (hxc : G.xc x = some (.ref (He.ga X.K x))) (hK : X.K = G.K) (ha : PA X (e :: es) (tIA G E ma))
    (hdb : (x == ("__debug__" : Str)) = false := by decide) (he : starEach (e :: es) X.env = (false, eval e X.env) :: starEach es X.env := by rfl) (hpl : (backTo pos (starEach es X.env)).any (·.1) = false := by rfl) :
    PS X (.Raise (some (.Call (.Name x p) (e :: es) [] pos)) none pos') (tIS G E (sRaiseO x parts fs ma)) := by
  obtain ⟨fI, fd, T, f0, f9, iC, tI', ⟨a1, a2, a3⟩, F⟩ := sup_of (P := X.prog) (mg := X.mg) h hms
  exact s_raiseO T iC tI' (F (L2.CX X.prog X.w) X.w X.base 0) hr (hbind fd a1 a2 a3) (passes_call tk fun _ _ _ _ z => z.elim) hc tk hg hm hxc hK f0 f9 ha hdb he hpl
end



theorem fldB_ok {K : PySem.W.Frag} {w : Str} {j : Nat} {fs : List Str} (h : fldB K w j fs = true) : FldC K w j fs := by
  unfold fldB at h
  obtain ⟨h1, h⟩ := Bool.and_eq_true_iff.mp h
  obtain ⟨h2, h3⟩ := Bool.and_eq_true_iff.mp h
  exact ⟨kindB_ok h1, xfB_ok h2, fun f hf => of_decide_eq_true (List.all_eq_true.mp h3 f hf)⟩

theorem fldsB_prog {K : PySem.W.Frag} (h : fldsB K = true) : supB K (He.ga K "BadProgram") ["self", "word", "number", "row"] ["word", "number", "row"] progParts "/claim/cut.py" = true := (Bool.and_eq_true_iff.mp h).1
theorem fldsB_text {K : PySem.W.Frag} (h : fldsB K = true) : supB K (He.ga K "BadText") ["self", "line"] ["line"] textParts "/claim/cut.py" = true := (Bool.and_eq_true_iff.mp (Bool.and_eq_true_iff.mp h).2).1
theorem fldsB_kP {K : PySem.W.Frag} (h : fldsB K = true) : FldC K "BadProgram" 0 ["word", "number", "row"] := fldB_ok (Bool.and_eq_true_iff.mp (Bool.and_eq_true_iff.mp (Bool.and_eq_true_iff.mp h).2).2).1
theorem fldsB_kT {K : PySem.W.Frag} (h : fldsB K = true) : FldC K "BadText" 9 ["line"] := fldB_ok (Bool.and_eq_true_iff.mp (Bool.and_eq_true_iff.mp (Bool.and_eq_true_iff.mp h).2).2).2
section
variable {G : Gx} {E : XK} {X : Cx} {e : Expr} {es : List Expr} {ma : XA} {pos p pos' : Pos}
theorem s_raiseP [pg : PgOk X.prog "/claim/cut.py"] (h : fldsB X.K = true) (hms : X.mg "super" = none) (hr : Room 2 X.A) (hc : X.calm = true) (tk : Takes X fun cls d _ H => E cls d H) (hg : Gl X "BadProgram") (hm : X.mg "BadProgram" = some (.ref (He.ga X.K "BadProgram"))) (hxc : G.xc "BadProgram" = some (.ref (He.ga X.K "BadProgram"))) (hK : X.K = G.K) (ha : PA X (e :: es) (tIA G E ma))
    (he : starEach (e :: es) X.env = (false, eval e X.env) :: starEach es X.env := by rfl) (hpl : (backTo pos (starEach es X.env)).any (·.1) = false := by rfl) :
    PS X (.Raise (some (.Call (.Name "BadProgram" p) (e :: es) [] pos)) none pos') (tIS G E (sRaiseO "BadProgram" progParts ["word", "number", "row"] ma)) :=
  s_raiseOB (pg := pg) (fldsB_prog h) hms (fun fd a1 a2 a3 => args_prog a1 a2 a3) hr hc tk hg hm hxc hK ha (by decide) he hpl
theorem s_raiseT [pg : PgOk X.prog "/claim/cut.py"] (h : fldsB X.K = true) (hms : X.mg "super" = none) (hr : Room 2 X.A) (hc : X.calm = true) (tk : Takes X fun cls d _ H => E cls d H) (hg : Gl X "BadText") (hm : X.mg "BadText" = some (.ref (He.ga X.K "BadText"))) (hxc : G.xc "BadText" = some (.ref (He.ga X.K "BadText"))) (hK : X.K = G.K) (ha : PA X (e :: es) (tIA G E ma))
    (he : starEach (e :: es) X.env = (false, eval e X.env) :: starEach es X.env := by rfl) (hpl : (backTo pos (starEach es X.env)).any (·.1) = false := by rfl) :
    PS X (.Raise (some (.Call (.Name "BadText" p) (e :: es) [] pos)) none pos') (tIS G E (sRaiseO "BadText" textParts ["line"] ma)) :=
  s_raiseOB (pg := pg) (fldsB_text h) hms (fun fd a1 a2 a3 => args_line a1 a2 a3) hr hc tk hg hm hxc hK ha (by decide) he hpl
end
end

/-! MiniEB -/
/-! MiniEB: a call with nothing, a sign that isn't in a text, a part of a text. -/
section
open PySem PySem.Spec PyProof.Rows L2
section
variable {G : Gx} {E : XK} {X : Cx} {x : Str} {ps : List Str} {k : Nat} {mf : XF} {xc : Str → Option Value} {p pos p2 : Pos} {e : Expr} {me : XE}
theorem i_callC0 (c : Cl X.prog X.w X.K X.mg X.base xc x ps k mf) (hr : Room k X.A) (hg : Gl X x) (hx : Passes (L2.CX X.prog X.w) X E) (hdb : (x == ("__debug__" : Str)) = false := by decide) :
    PE X (.Call (.Name x p) [] [] pos) (tI ⟨X.K, xc, X.w⟩ E (eCall mf aNil)) := by
  obtain ⟨fd, h1, h2, h3, h4, _⟩ := c
  exact (pe_call0 h1 hr hg h2 h3 h4 .nil hx hdb).imp fun σ H Q h => by
    obtain ⟨ρ, S, env, hR, hE, h⟩ := h
    exact ⟨ρ, S, [], hR, .nil, h⟩
/-- s not in z, s a sign -/
def oNotInC : Op2 := fun x y S => match x, y with
  | .str s, .str z => match s.cps.toList with
    | [c] => .ok (.bl (!decide (c ∈ z.cps.toList))) S
    | _ => .bad
  | _, _ => .bad
def rNotInC : R2 := fun x y H Q => ∃ (c : Nat) (z : Str), x = .str ⟨#[c]⟩ ∧ y = .str z ∧ Q (.bl (!decide (c ∈ z.cps.toList))) H
theorem op_notInC : OpR X (compareOp .NotIn) rNotInC := op_notIn_sign
theorem sd_notInC : Sd2 G E rNotInC oNotInC := fun ρ S H x y v u Q q rx ry h => by
  unfold oNotInC at h
  split at h
  · rename_i s z
    split at h
    · rename_i c hc
      rw [rx.str_of, ry.str_of]
      have e : s = ⟨#[c]⟩ := by
        obtain ⟨⟨l⟩⟩ := s
        have hc : l = [c] := hc
        rw [hc]
      rw [e]
      exact ⟨c, z, rfl, rfl, h.ok q _ Rep.bl⟩
    · exact h.elim
  · exact h.elim
/-- a part of a text -/
def eCutS (o : XE) (lo hi : Option XE) : XE := fun env S => (o env S).bind fun x S => (ePart lo env S).bind fun i S => (ePart hi env S).bind fun j S => match x with
  | .str z => if z.length ≤ lim then .ok (.str (Txt.slice z i j)) S else .bad
  | _ => .bad
theorem i_cutS {lo hi : Option Expr} {ml mh : Option XE} (he : PE X e (tI G E me)) (hl : PO X lo (tIO G E ml)) (hh : PO X hi (tIO G E mh)) : PE X (.Subscript e (.Slice lo hi none p2) pos) (tI G E (eCutS me ml mh)) :=
  (pe_slice C8.sl_txt he hl hh).imp fun σ H Q h => by
    obtain ⟨ρ, S, env, hR, hE, h⟩ := h
    refine ⟨ρ, S, env, hR, hE, h.step fun ρ1 S1 H1 x e1 hR1 h1 v rv => ?_⟩
    refine ⟨ρ1, S1, env, hR1, hE.ext e1, h1.step fun ρ2 S2 H2 i e2 hR2 h2 => ?_⟩
    refine ⟨ρ2, S2, env, hR2, (hE.ext e1).ext e2, h2.step fun ρ3 S3 H3 j e3 hR3 h3 => ?_⟩
    split at h3
    · split at h3
      · rename_i hz
        exact ⟨_, rv.str_of, lim_le hz, h3.ok hR3 _ Rep.str⟩
      · exact h3.elim
    · exact h3.elim
end
end

/-! MiniEC -/
/-! MiniEC: a head's look that also reaches the interpreter's own table (super() asks it). -/
section
open PySem PySem.Spec PyProof.Rows L2





end

/-! Gk20_m -/
/-! what the program and the law do, as the small machine's text; written by gen.py -/
section
open PySem PySem.Spec PyProof.Rows L2
def m_is_tuple_of : XF := fnP 3 3 (sRet (eAnd (eIsa .tuple (eVar 0)) (eChain oLe oLe (eVar 1) (eBf bLen (aCons (eVar 0) (aNil))) (eVar 2))))
def m_is_below : XF := fnP 2 2 (sRet (eAnd (eIsa .int (eVar 0)) (eAnd (eNot (eIsa .bool (eVar 0))) (eChain oLe oLt (eC (.int 0)) (eVar 0) (eVar 1)))))
def m_are_rising_boxes : XF := fnP 1 4 (sSeq (sIf (bOr (bNot (bVal (eIsa .tuple (eVar 0)))) (bNot (bVal (eBf bAll (aCons (eLc (iSeq (eVar 0)) (gNm 1) (bYes) (eCall (m_is_below) (aCons (eVar 1) (aCons (eC (.int 6)) (aNil)))) [1]) (aNil)))))) (sRet (eC (.bl false))) (sNil)) (sRet (eBf bAll (aCons (eLc (iZip (eVar 0) (eCut (eVar 0) (some (eC (.int 1))) (none))) (gTp [gNm 2, gNm 3]) (bYes) (eOp oLt (eVar 2) (eVar 3)) [2, 3]) (aNil)))))
def m_is_house : XF := fnP 1 5 (sSeq (sIf (bNot (bVal (eCall (m_is_tuple_of) (aCons (eVar 0) (aCons (eC (.int 3)) (aCons (eC (.int 3)) (aNil))))))) (sRet (eC (.bl false))) (sNil)) (sSeq (sAsg (eVar 0) (gTp [gNm 1, gNm 2, gNm 3])) (sSeq (sIf (bOr (bNot (bVal (eCall (m_are_rising_boxes) (aCons (eVar 1) (aNil))))) (bOr (bNot (bVal (eCall (m_is_below) (aCons (eVar 2) (aCons (eC (.int 6)) (aNil)))))) (bNot (bVal (eCall (m_are_rising_boxes) (aCons (eVar 3) (aNil))))))) (sRet (eC (.bl false))) (sNil)) (sRet (eNot (eBf bAny (aCons (eLc (iSeq (eVar 3)) (gNm 4) (bYes) (eOr (eOp oIn (eVar 4) (eVar 1)) (eOp oEq (eVar 4) (eVar 2))) [4]) (aNil))))))))
def m_check_houses : XF := fnP 1 3 (sSeq (sIf (bNot (bVal (eCall (m_is_tuple_of) (aCons (eVar 0) (aCons (eC (.int 1)) (aCons (eC (.int 3)) (aNil))))))) (sRaiseO "BadProgram" progParts ["word", "number", "row"] (aCons (eC (.str "houses")) (aCons (eC (.int 0)) (aCons (eUn oNeg (eC (.int 1))) (aNil))))) (sNil)) (sFor (iEnum (eVar 0)) (gTp [gNm 1, gNm 2]) (sIf (bNot (bVal (eCall (m_is_house) (aCons (eVar 2) (aNil))))) (sRaiseO "BadProgram" progParts ["word", "number", "row"] (aCons (eC (.str "house")) (aCons (eVar 1) (aCons (eUn oNeg (eC (.int 1))) (aNil))))) (sNil))))
def m_is_row : XF := fnP 2 5 (sSeq (sIf (bOr (bNot (bVal (eIsa .tuple (eVar 0)))) (bOr (bVal (eOp oEq (eBf bLen (aCons (eVar 0) (aNil))) (eC (.int 0)))) (bNot (bVal (eIsa .str (eOp oIx (eVar 0) (eC (.int 0)))))))) (sRet (eC (.bl false))) (sNil)) (sSeq (sAsg (eGetS K_PLACES V_PLACES (eOp oIx (eVar 0) (eC (.int 0)))) (gNm 2)) (sSeq (sIf (bOr (bVal (eOp oIsN (eVar 2) (eC .non))) (bVal (eOp oNe (eBf bLen (aCons (eVar 0) (aNil))) (eOp oAdd (eBf bLen (aCons (eVar 2) (aNil))) (eC (.int 1)))))) (sRet (eC (.bl false))) (sNil)) (sRet (eBf bAll (aCons (eLc (iZip (eCut (eVar 0) (some (eC (.int 1))) (none)) (eVar 2)) (gTp [gNm 3, gNm 4]) (bYes) (eCall (m_is_below) (aCons (eVar 3) (aCons (eOp oIx (eVar 1) (eVar 4)) (aNil)))) [3, 4]) (aNil)))))))
def m_check_rows : XF := fnP 3 6 (sSeq (sAsg (eDks ["box", "number", "row", "routine"] (aCons (eC (.int 6)) (aCons (eC (.int 1000)) (aCons (eBf bLen (aCons (eVar 0) (aNil))) (aCons (eVar 2) (aNil)))))) (gNm 3)) (sSeq (sFor (iEnum (eVar 0)) (gTp [gNm 4, gNm 5]) (sIf (bNot (bVal (eCall (m_is_row) (aCons (eVar 5) (aCons (eVar 3) (aNil)))))) (sRaiseO "BadProgram" progParts ["word", "number", "row"] (aCons (eC (.str "row")) (aCons (eVar 1) (aCons (eVar 4) (aNil))))) (sNil))) (sIf (bVal (eOp oNotIn (eOp oIx (eOp oIx (eVar 0) (eUn oNeg (eC (.int 1)))) (eC (.int 0))) (eTup (aCons (eC (.str "go")) (aCons (eC (.str "back")) (aNil)))))) (sRaiseO "BadProgram" progParts ["word", "number", "row"] (aCons (eC (.str "end")) (aCons (eVar 1) (aCons (eUn oNeg (eC (.int 1))) (aNil))))) (sNil))))
def m_check_routines : XF := fnP 2 6 (sSeq (sIf (bNot (bVal (eCall (m_is_tuple_of) (aCons (eVar 0) (aCons (eC (.int 1)) (aCons (eC (.int 6)) (aNil))))))) (sRaiseO "BadProgram" progParts ["word", "number", "row"] (aCons (eC (.str "routines")) (aCons (eC (.int 0)) (aCons (eUn oNeg (eC (.int 1))) (aNil))))) (sNil)) (sFor (iEnum (eVar 0)) (gTp [gNm 2, gNm 3]) (sSeq (sIf (bNot (bVal (eCall (m_is_tuple_of) (aCons (eVar 3) (aCons (eC (.int 2)) (aCons (eC (.int 2)) (aNil))))))) (sRaiseO "BadProgram" progParts ["word", "number", "row"] (aCons (eC (.str "routine")) (aCons (eVar 2) (aCons (eUn oNeg (eC (.int 1))) (aNil))))) (sNil)) (sSeq (sAsg (eVar 3) (gTp [gNm 4, gNm 5])) (sSeq (sIf (bOr (bNot (bVal (eCall (m_is_below) (aCons (eVar 4) (aCons (eVar 1) (aNil)))))) (bNot (bVal (eCall (m_is_tuple_of) (aCons (eVar 5) (aCons (eC (.int 1)) (aCons (eC (.int 32)) (aNil)))))))) (sRaiseO "BadProgram" progParts ["word", "number", "row"] (aCons (eC (.str "routine")) (aCons (eVar 2) (aCons (eUn oNeg (eC (.int 1))) (aNil))))) (sNil)) (sDrop (eCall (m_check_rows) (aCons (eVar 5) (aCons (eVar 2) (aCons (eBf bLen (aCons (eVar 0) (aNil))) (aNil)))))))))))
def m_check_program : XF := fnP 1 3 (sSeq (sIf (bNot (bVal (eCall (m_is_tuple_of) (aCons (eVar 0) (aCons (eC (.int 2)) (aCons (eC (.int 2)) (aNil))))))) (sRaiseO "BadProgram" progParts ["word", "number", "row"] (aCons (eC (.str "houses")) (aCons (eC (.int 0)) (aCons (eUn oNeg (eC (.int 1))) (aNil))))) (sNil)) (sSeq (sAsg (eVar 0) (gTp [gNm 1, gNm 2])) (sSeq (sDrop (eCall (m_check_houses) (aCons (eVar 1) (aNil)))) (sDrop (eCall (m_check_routines) (aCons (eVar 2) (aCons (eBf bLen (aCons (eVar 1) (aNil))) (aNil))))))))
def m_boxes_word : XF := fnP 1 2 (sSeq (sIf (bVal (eOp oEq (eBf bLen (aCons (eVar 0) (aNil))) (eC (.int 0)))) (sRet (eC (.str "-"))) (sNil)) (sRet (eJoinS (eC (.str "")) (eLc (iSeq (eVar 0)) (gNm 1) (bYes) (eBf bStr (aCons (eVar 1) (aNil))) [1]))))
def m_house_line : XF := fnP 1 4 (sSeq (sAsg (eVar 0) (gTp [gNm 1, gNm 2, gNm 3])) (sRet (eJoin [eC (.str "house "), eFmt (eCall (m_boxes_word) (aCons (eVar 1) (aNil))), eC (.str " "), eFmt (eVar 2), eC (.str " "), eFmt (eCall (m_boxes_word) (aCons (eVar 3) (aNil)))])))
def m_routine_lines : XF := fnP 1 5 (sSeq (sAsg (eVar 0) (gTp [gNm 1, gNm 2])) (sRet (eOp oAdd (eLs (aCons (eJoin [eC (.str "routine "), eFmt (eVar 1)]) (aNil))) (eLc (iSeq (eVar 2)) (gNm 3) (bYes) (eJoinS (eC (.str " ")) (eLc (iSeq (eVar 3)) (gNm 4) (bYes) (eBf bStrS (aCons (eVar 4) (aNil))) [4])) [3]))))
def m_written : XF := fnP 1 6 (sSeq (sDrop (eCall (m_check_program) (aCons (eVar 0) (aNil)))) (sSeq (sAsg (eVar 0) (gTp [gNm 1, gNm 2])) (sSeq (sAsg (eLcN (iSeq (eVar 1)) (gNm 4) (bYes) (eCall (m_house_line) (aCons (eVar 4) (aNil))) [4]) (gNm 3)) (sSeq (sFor (iSeq (eVar 2)) (gNm 5) (sDrop (eMeth1 mExtend (eVar 3) (eCall (m_routine_lines) (aCons (eVar 5) (aNil)))))) (sRet (eJoinS (eC (.str "\n")) (eVar 3)))))))
def m_are_figures : XF := fnP 1 2 (sRet (eAnd (eOp oGt (eBf bLenS (aCons (eVar 0) (aNil))) (eC (.int 0))) (eBf bAll (aCons (eLc (iChs (eVar 0)) (gNm 1) (bYes) (eOp oInC (eVar 1) (eC (.str "0123456789"))) [1]) (aNil)))))
def m_is_number_word : XF := fnP 1 1 (sSeq (sIf (bOr (bNot (bVal (eCall (m_are_figures) (aCons (eVar 0) (aNil))))) (bVal (eOp oGt (eBf bLenS (aCons (eVar 0) (aNil))) (eC (.int 3))))) (sRet (eC (.bl false))) (sNil)) (sRet (eOr (eOp oEq (eVar 0) (eC (.str "0"))) (eOp oNe (eOp oIxC (eVar 0) (eC (.int 0))) (eC (.str "0"))))))
def m_is_boxes_word : XF := fnP 1 1 (sRet (eOr (eOp oEq (eVar 0) (eC (.str "-"))) (eCall (m_are_figures) (aCons (eVar 0) (aNil)))))
def m_is_house_line : XF := fnP 1 1 (sSeq (sIf (bOr (bVal (eOp oNe (eBf bLen (aCons (eVar 0) (aNil))) (eC (.int 4)))) (bVal (eOp oNe (eOp oIx (eVar 0) (eC (.int 0))) (eC (.str "house"))))) (sRet (eC (.bl false))) (sNil)) (sRet (eAnd (eCall (m_is_boxes_word) (aCons (eOp oIx (eVar 0) (eC (.int 1))) (aNil))) (eAnd (eCall (m_is_number_word) (aCons (eOp oIx (eVar 0) (eC (.int 2))) (aNil))) (eCall (m_is_boxes_word) (aCons (eOp oIx (eVar 0) (eC (.int 3))) (aNil)))))))
def m_is_routine_line : XF := fnP 1 1 (sRet (eAnd (eOp oEq (eBf bLen (aCons (eVar 0) (aNil))) (eC (.int 2))) (eAnd (eOp oEq (eOp oIx (eVar 0) (eC (.int 0))) (eC (.str "routine"))) (eCall (m_is_number_word) (aCons (eOp oIx (eVar 0) (eC (.int 1))) (aNil))))))
def m_is_row_line : XF := fnP 1 3 (sSeq (sAsg (eGetS K_PLACES V_PLACES (eOp oIx (eVar 0) (eC (.int 0)))) (gNm 1)) (sSeq (sIf (bOr (bVal (eOp oIsN (eVar 1) (eC .non))) (bVal (eOp oNe (eBf bLen (aCons (eVar 0) (aNil))) (eOp oAdd (eBf bLen (aCons (eVar 1) (aNil))) (eC (.int 1)))))) (sRet (eC (.bl false))) (sNil)) (sRet (eBf bAll (aCons (eLc (iSeq (eCut (eVar 0) (some (eC (.int 1))) (none))) (gNm 2) (bYes) (eCall (m_is_number_word) (aCons (eVar 2) (aNil))) [2]) (aNil))))))
def m_boxes_read : XF := fnP 1 2 (sSeq (sIf (bVal (eOp oEq (eVar 0) (eC (.str "-")))) (sRet (eTup (aNil))) (sNil)) (sRet (eBf bTuple (aCons (eLc (iChs (eVar 0)) (gNm 1) (bYes) (eBf bIntS (aCons (eVar 1) (aNil))) [1]) (aNil)))))
def m_house_read : XF := fnP 1 1 (sRet (eTup (aCons (eCall (m_boxes_read) (aCons (eOp oIx (eVar 0) (eC (.int 1))) (aNil))) (aCons (eBf bIntS (aCons (eOp oIx (eVar 0) (eC (.int 2))) (aNil))) (aCons (eCall (m_boxes_read) (aCons (eOp oIx (eVar 0) (eC (.int 3))) (aNil))) (aNil))))))
def m_row_read : XF := fnP 1 2 (sRet (eTup (aCons (eOp oIx (eVar 0) (eC (.int 0))) (aStar (eLc (iSeq (eCut (eVar 0) (some (eC (.int 1))) (none))) (gNm 1) (bYes) (eBf bIntS (aCons (eVar 1) (aNil))) [1]) (aNil)))))
def m_read : XF := fnP 1 10 (sSeq (sAsg (eNew (aNil)) (gNm 1)) (sSeq (sAsg (eNew (aNil)) (gNm 2)) (sSeq (sFor (iEnum (eSplitS (eVar 0) (eC (.str "\n")))) (gTp [gNm 3, gNm 4]) (sSeq (sAsg (eSplitS (eVar 4) (eC (.str " "))) (gNm 5)) (sIf (bAnd (bVal (eCall (m_is_house_line) (aCons (eVar 5) (aNil)))) (bVal (eOp oEq (eBf bLen (aCons (eVar 2) (aNil))) (eC (.int 0))))) (sDrop (eMeth1 mAppend (eVar 1) (eCall (m_house_read) (aCons (eVar 5) (aNil))))) (sIf (bVal (eCall (m_is_routine_line) (aCons (eVar 5) (aNil)))) (sDrop (eMeth1 mAppend (eVar 2) (eTup (aCons (eBf bIntS (aCons (eOp oIx (eVar 5) (eC (.int 1))) (aNil))) (aCons (eNew (aNil)) (aNil)))))) (sIf (bAnd (bVal (eCall (m_is_row_line) (aCons (eVar 5) (aNil)))) (bVal (eOp oGt (eBf bLen (aCons (eVar 2) (aNil))) (eC (.int 0))))) (sSeq (sAsg (eOp oIx (eVar 2) (eUn oNeg (eC (.int 1)))) (gTp [gNm 6, gNm 7])) (sDrop (eMeth1 mAppend (eVar 7) (eCall (m_row_read) (aCons (eVar 5) (aNil)))))) (sRaiseO "BadText" textParts ["line"] (aCons (eVar 3) (aNil)))))))) (sSeq (sAsg (eTup (aCons (eBf bTuple (aCons (eVar 1) (aNil))) (aCons (eBf bTuple (aCons (eLc (iSeq (eVar 2)) (gTp [gNm 9, gNm 7]) (bYes) (eTup (aCons (eVar 9) (aCons (eBf bTuple (aCons (eVar 7) (aNil))) (aNil)))) [9, 7]) (aNil))) (aNil)))) (gNm 8)) (sSeq (sDrop (eCall (m_check_program) (aCons (eVar 8) (aNil)))) (sRet (eVar 8)))))))
def m_mix : XF := fnK 2 4 (sSeq (sAsg (eVar 1) (gNm 2)) (sSeq (sFor (iSeq (eVar 0)) (gNm 3) (sAsg (eOp oMod (eOp oAdd (eOp oAdd (eOp oMul (eVar 2) (eC (.int 48271))) (eOp oMod (eVar 3) (eC (.int 2147483629)))) (eC (.int 1))) (eC (.int 2147483647))) (gNm 2))) (sRet (eNew (aCons (eVar 2) (aCons (eBf bListN (aCons (eVar 0) (aNil))) (aCons (eC (.int 0)) (aNil))))))))
def m_next : XF := fnP 2 4 (sSeq (sAsg (eOp oMod (eOp oIx (eVar 0) (eC (.int 2))) (eBf bMax (aCons (eC (.int 1)) (aCons (eBf bLen (aCons (eOp oIx (eVar 0) (eC (.int 1))) (aNil))) (aNil))))) (gNm 2)) (sSeq (sAsg (eIf (bVal (eOp oNe (eOp oIx (eVar 0) (eC (.int 1))) (eLs (aNil)))) (eOp oIx (eOp oIx (eVar 0) (eC (.int 1))) (eVar 2)) (eC (.int 0))) (gNm 3)) (sSeq (sIf (bVal (eOp oGe (eVar 3) (eOp oPow (eC (.int 10)) (eC (.int 18))))) (sSeq (sAsg (eOp oDiv (eVar 3) (eVar 1)) (gSb (eOp oIx (eVar 0) (eC (.int 1))) (eVar 2))) (sRet (eOp oMod (eVar 3) (eVar 1)))) (sNil)) (sSeq (sAsg (eOp oMod (eOp oAdd (eOp oAdd (eOp oMul (eOp oIx (eVar 0) (eC (.int 0))) (eC (.int 48271))) (eOp oMul (eVar 3) (eC (.int 69621)))) (eC (.int 11))) (eC (.int 2147483647))) (gSb (eVar 0) (eC (.int 0)))) (sSeq (sAsg (eOp oAdd (eOp oIx (eVar 0) (eC (.int 2))) (eC (.int 1))) (gSb (eVar 0) (eC (.int 2)))) (sRet (eOp oMod (eOp oDiv (eOp oIx (eVar 0) (eC (.int 0))) (eC (.int 7))) (eVar 1))))))))
def mm_alike : Nat → XF
  | 0 => fun _ _ => .bad
  | n + 1 => fnP 2 3 (sSeq (sIf (bVal (eIsa2 .tuple .list (eVar 1))) (sSeq (sIf (bOr (bNot (bVal (eIsa2 .tuple .list (eVar 0)))) (bVal (eOp oNe (eIsa .list (eVar 0)) (eIsa .list (eVar 1))))) (sRet (eC (.bl false))) (sNil)) (sSeq (sIf (bVal (eOp oNe (eBf bLen (aCons (eVar 0) (aNil))) (eBf bLen (aCons (eVar 1) (aNil))))) (sRet (eC (.bl false))) (sNil)) (sRet (eOp oEq (eLc (iRng (eBf bLen (aCons (eVar 1) (aNil)))) (gNm 2) (bNot (bVal (eCall (mm_alike n) (aCons (eOp oIx (eVar 0) (eVar 2)) (aCons (eOp oIx (eVar 1) (eVar 2)) (aNil)))))) (eVar 2) [2]) (eLs (aNil)))))) (sNil)) (sSeq (sIf (bVal (eOp oIsN (eVar 1) (eC .non))) (sRet (eOp oIsN (eVar 0) (eC .non))) (sNil)) (sSeq (sIf (bVal (eIsa .str (eVar 1))) (sRet (eAnd (eIsa .str (eVar 0)) (eOp oEq (eVar 0) (eVar 1)))) (sNil)) (sSeq (sIf (bOr (bVal (eIsa .bool (eVar 1))) (bVal (eIsa .bool (eVar 0)))) (sRet (eAnd (eIsa .bool (eVar 1)) (eAnd (eIsa .bool (eVar 0)) (eOp oEq (eVar 0) (eVar 1))))) (sNil)) (sRet (eAnd (eIsa .int (eVar 0)) (eOp oEq (eVar 0) (eVar 1))))))))
def m_alike : XF := mm_alike 7
def m_house : XF := fnP 1 6 (sSeq (sAsg (eOp oIx (eLs (aCons (eC (.int 3)) (aCons (eC (.int 3)) (aCons (eC (.int 3)) (aCons (eC (.int 2)) (aNil)))))) (eCall (m_next) (aCons (eVar 0) (aCons (eC (.int 4)) (aNil))))) (gNm 1)) (sSeq (sAsg (eLc (iRng (eC (.int 6))) (gNm 3) (bYes) (eOp oMul (eCall (m_next) (aCons (eVar 0) (aCons (eVar 1) (aNil)))) (eBf bInt (aCons (eOr (eOp oEq (eVar 1) (eC (.int 3))) (eOp oEq (eCall (m_next) (aCons (eVar 0) (aCons (eC (.int 3)) (aNil)))) (eC (.int 0)))) (aNil)))) [3]) (gNm 2)) (sSeq (sAsg (eCall (m_next) (aCons (eVar 0) (aCons (eC (.int 6)) (aNil)))) (gNm 4)) (sSeq (sAsg (eBf bTuple (aCons (eCut (eLc (iRng (eC (.int 6))) (gNm 3) (bVal (eOp oEq (eOp oIx (eVar 2) (eVar 3)) (eC (.int 0)))) (eVar 3) [3]) (none) (some (eOp oAdd (eC (.int 1)) (eCall (m_next) (aCons (eVar 0) (aCons (eOp oIx (eLs (aCons (eC (.int 3)) (aCons (eC (.int 6)) (aNil)))) (eCall (m_next) (aCons (eVar 0) (aCons (eC (.int 2)) (aNil))))) (aNil))))))) (aNil))) (gNm 5)) (sRet (eTup (aCons (eVar 5) (aCons (eVar 4) (aCons (eBf bTuple (aCons (eLc (iRng (eC (.int 6))) (gNm 3) (bAnd (bVal (eOp oEq (eOp oIx (eVar 2) (eVar 3)) (eC (.int 1)))) (bVal (eOp oNe (eVar 3) (eVar 4)))) (eVar 3) [3]) (aNil))) (aNil))))))))))
def m_number : XF := fnP 1 1 (sRet (eOp oIx (eLs (aCons (eCall (m_next) (aCons (eVar 0) (aCons (eC (.int 4)) (aNil)))) (aCons (eCall (m_next) (aCons (eVar 0) (aCons (eC (.int 1000)) (aNil)))) (aNil)))) (eCall (m_next) (aCons (eVar 0) (aCons (eC (.int 2)) (aNil))))))
def m_simple : XF := fnP 2 10 (sSeq (sAsg (eLc (iRng (eC (.int 6))) (gNm 3) (bVal (eOp oEq (eOp oIx (eOp oIx (eVar 1) (eC (.str "boxes"))) (eVar 3)) (eC (.str "good")))) (eVar 3) [3]) (gNm 2)) (sSeq (sAsg (eOp oIx (eOp oIx (eVar 1) (eC (.str "free"))) (eCall (m_next) (aCons (eVar 0) (aCons (eBf bLen (aCons (eOp oIx (eVar 1) (eC (.str "free"))) (aNil))) (aNil))))) (gNm 4)) (sSeq (sAsg (eCall (m_next) (aCons (eVar 0) (aCons (eC (.int 6)) (aNil)))) (gNm 5)) (sSeq (sIf (bOr (bVal (eOp oEq (eVar 2) (eLs (aNil)))) (bVal (eOp oEq (eVar 5) (eC (.int 0))))) (sAsg (eTup (aCons (eC (.str "put")) (aCons (eVar 4) (aCons (eCall (m_number) (aCons (eVar 0) (aNil))) (aNil))))) (gNm 6)) (sIf (bVal (eOp oEq (eVar 5) (eC (.int 1)))) (sAsg (eTup (aCons (eC (.str "say")) (aCons (eOp oIx (eVar 2) (eCall (m_next) (aCons (eVar 0) (aCons (eBf bLen (aCons (eVar 2) (aNil))) (aNil))))) (aNil)))) (gNm 6)) (sIf (bVal (eOp oEq (eVar 5) (eC (.int 2)))) (sSeq (sAsg (eLc (iRng (eC (.int 6))) (gNm 3) (bVal (eOp oNe (eOp oIx (eOp oIx (eVar 1) (eC (.str "boxes"))) (eVar 3)) (eC (.str "loose")))) (eVar 3) [3]) (gNm 7)) (sAsg (eTup (aCons (eC (.str "move")) (aCons (eVar 4) (aCons (eOp oIx (eVar 7) (eCall (m_next) (aCons (eVar 0) (aCons (eBf bLen (aCons (eVar 7) (aNil))) (aNil))))) (aNil))))) (gNm 6))) (sSeq (sPar 8 9 (aCons (eOp oIx (eVar 2) (eCall (m_next) (aCons (eVar 0) (aCons (eBf bLen (aCons (eVar 2) (aNil))) (aNil))))) (aCons (eOp oIx (eVar 2) (eCall (m_next) (aCons (eVar 0) (aCons (eBf bLen (aCons (eVar 2) (aNil))) (aNil))))) (aNil)))) (sAsg (eTup (aCons (eOp oIx (eLs (aCons (eC (.str "add")) (aCons (eC (.str "take")) (aNil)))) (eOp oMod (eVar 5) (eC (.int 2)))) (aCons (eVar 4) (aCons (eVar 8) (aCons (eVar 9) (aNil)))))) (gNm 6)))))) (sSeq (sDrop (eMeth1 mAppend (eOp oIx (eVar 1) (eC (.str "rows"))) (eVar 6))) (sIf (bVal (eOp oNe (eOp oIx (eVar 6) (eC (.int 0))) (eC (.str "say")))) (sAsg (eIf (bVal (eOp oEq (eOp oIx (eVar 6) (eC (.int 0))) (eC (.str "move")))) (eOp oIx (eOp oIx (eVar 1) (eC (.str "boxes"))) (eOp oIx (eVar 6) (eC (.int 2)))) (eC (.str "good"))) (gSb (eOp oIx (eVar 1) (eC (.str "boxes"))) (eVar 4))) (sNil)))))))
def m_calling : XF := fnP 2 10 (sSeq (sAsg (eCall (m_next) (aCons (eVar 0) (aCons (eBf bLen (aCons (eOp oIx (eVar 1) (eC (.str "owners"))) (aNil))) (aNil)))) (gNm 2)) (sSeq (sAsg (eOp oIx (eOp oIx (eVar 1) (eC (.str "houses"))) (eOp oIx (eOp oIx (eVar 1) (eC (.str "owners"))) (eVar 2))) (gTp [gNm 3, gNm 4, gNm 5])) (sSeq (sAsg (eLc (iRng (eC (.int 6))) (gNm 7) (bVal (eOp oNotIn (eVar 7) (eOp oIx (eVar 1) (eC (.str "free"))))) (eVar 7) [7]) (gNm 6)) (sSeq (sIf (bVal (eOp oNe (eLc (iSeq (eOp oAdd (eVar 3) (eTup (aCons (eVar 4) (aNil))))) (gNm 7) (bVal (eOp oIn (eVar 7) (eVar 6))) (eVar 7) [7]) (eLs (aNil)))) (sRetN) (sNil)) (sSeq (sFor (iSeq (eVar 3)) (gNm 7) (sIf (bVal (eOp oNe (eOp oIx (eOp oIx (eVar 1) (eC (.str "boxes"))) (eVar 7)) (eC (.str "good")))) (sSeq (sDrop (eMeth1 mAppend (eOp oIx (eVar 1) (eC (.str "rows"))) (eTup (aCons (eC (.str "put")) (aCons (eVar 7) (aCons (eCall (m_number) (aCons (eVar 0) (aNil))) (aNil))))))) (sAsg (eC (.str "good")) (gSb (eOp oIx (eVar 1) (eC (.str "boxes"))) (eVar 7)))) (sNil))) (sSeq (sAsg (eLc (iRng (eC (.int 6))) (gNm 7) (bAnd (bVal (eOp oNotIn (eVar 7) (eVar 5))) (bAnd (bVal (eOp oNe (eOp oIx (eOp oIx (eVar 1) (eC (.str "boxes"))) (eVar 7)) (eC (.str "loose")))) (bVal (eOp oNe (eVar 7) (eVar 4))))) (eVar 7) [7]) (gNm 8)) (sSeq (sAsg (eLc (iSeq (eVar 8)) (gNm 7) (bOr (bVal (eOp oIn (eVar 7) (eVar 6))) (bVal (eOp oEq (eCall (m_next) (aCons (eVar 0) (aCons (eC (.int 3)) (aNil)))) (eC (.int 0))))) (eVar 7) [7]) (gNm 9)) (sSeq (sDrop (eMeth1 mExtend (eOp oIx (eVar 1) (eC (.str "rows"))) (eLc (iSeq (eVar 9)) (gNm 7) (bYes) (eTup (aCons (eC (.str "push")) (aCons (eVar 7) (aNil)))) [7]))) (sSeq (sDrop (eMeth1 mAppend (eOp oIx (eVar 1) (eC (.str "rows"))) (eTup (aCons (eC (.str "call")) (aCons (eVar 2) (aNil)))))) (sSeq (sDrop (eMeth1 mExtend (eOp oIx (eVar 1) (eC (.str "rows"))) (eLc (iRev (eVar 9)) (gNm 7) (bYes) (eTup (aCons (eC (.str "pop")) (aCons (eVar 7) (aNil)))) [7]))) (sSeq (sFor (iSeq (eVar 8)) (gNm 7) (sAsg (eIf (bVal (eOp oIn (eVar 7) (eVar 9))) (eOp oIx (eOp oIx (eVar 1) (eC (.str "boxes"))) (eVar 7)) (eC (.str "loose"))) (gSb (eOp oIx (eVar 1) (eC (.str "boxes"))) (eVar 7)))) (sAsg (eC (.str "good")) (gSb (eOp oIx (eVar 1) (eC (.str "boxes"))) (eVar 4))))))))))))))
def m_zeroed : XF := fnP 2 8 (sSeq (sAsg (eLc (iRng (eC (.int 6))) (gNm 3) (bVal (eOp oEq (eOp oIx (eOp oIx (eVar 1) (eC (.str "boxes"))) (eVar 3)) (eC (.str "good")))) (eVar 3) [3]) (gNm 2)) (sSeq (sIf (bVal (eOp oEq (eVar 2) (eLs (aNil)))) (sRetN) (sNil)) (sSeq (sAsg (eOp oIx (eVar 2) (eCall (m_next) (aCons (eVar 0) (aCons (eBf bLen (aCons (eVar 2) (aNil))) (aNil))))) (gNm 4)) (sSeq (sAsg (eBf bLen (aCons (eOp oIx (eVar 1) (eC (.str "rows"))) (aNil))) (gNm 5)) (sSeq (sDrop (eMeth1 mAppend (eOp oIx (eVar 1) (eC (.str "rows"))) (eTup (aCons (eC (.str "zero")) (aCons (eVar 4) (aCons (eC (.int 0)) (aNil))))))) (sSeq (sAsg (eBf bList (aCons (eOp oIx (eVar 1) (eC (.str "boxes"))) (aNil))) (gNm 6)) (sSeq (sFor (iRng (eOp oAdd (eC (.int 1)) (eCall (m_next) (aCons (eVar 0) (aCons (eC (.int 2)) (aNil)))))) (gNm 7) (sDrop (eCall (m_simple) (aCons (eVar 0) (aCons (eVar 1) (aNil)))))) (sSeq (sIf (bAnd (bVal (eOp oEq (eCall (m_next) (aCons (eVar 0) (aCons (eC (.int 4)) (aNil)))) (eC (.int 0)))) (bAnd (bVal (eOp oEq (eOp oIx (eOp oIx (eVar 1) (eC (.str "boxes"))) (eVar 4)) (eC (.str "good")))) (bVal (eOp oEq (eVar 6) (eOp oIx (eVar 1) (eC (.str "boxes"))))))) (sDrop (eMeth1 mAppend (eOp oIx (eVar 1) (eC (.str "rows"))) (eTup (aCons (eC (.str "go")) (aCons (eVar 5) (aNil)))))) (sNil)) (sSeq (sAsg (eTup (aCons (eC (.str "zero")) (aCons (eVar 4) (aCons (eBf bLen (aCons (eOp oIx (eVar 1) (eC (.str "rows"))) (aNil))) (aNil))))) (gSb (eOp oIx (eVar 1) (eC (.str "rows"))) (eVar 5))) (sFor (iRng (eC (.int 6))) (gNm 3) (sIf (bVal (eOp oNe (eOp oIx (eOp oIx (eVar 1) (eC (.str "boxes"))) (eVar 3)) (eOp oIx (eVar 6) (eVar 3)))) (sAsg (eC (.str "loose")) (gSb (eOp oIx (eVar 1) (eC (.str "boxes"))) (eVar 3))) (sNil))))))))))))
def m_kept : XF := fnP 5 14 (sSeq (sAsg (eOp oIx (eVar 1) (eOp oIx (eVar 2) (eVar 3))) (gTp [gNm 5, gNm 6, gNm 7])) (sSeq (sAsg (eLc (iSeq (eVar 7)) (gNm 9) (bVal (eOp oEq (eCall (m_next) (aCons (eVar 0) (aCons (eC (.int 2)) (aNil)))) (eC (.int 0)))) (eVar 9) [9]) (gNm 8)) (sSeq (sAsg (eDks ["rows", "houses", "owners"] (aCons (eLcN (iSeq (eVar 8)) (gNm 9) (bYes) (eTup (aCons (eC (.str "push")) (aCons (eVar 9) (aNil)))) [9]) (aCons (eVar 1) (aCons (eVar 2) (aNil))))) (gNm 10)) (sSeq (sAsg (eLcN (iRng (eC (.int 6))) (gNm 9) (bYes) (eIf (bVal (eOp oIn (eVar 9) (eVar 5))) (eC (.str "good")) (eIf (bVal (eOp oIn (eVar 9) (eVar 7))) (eBf bStr (aCons (eVar 9) (aNil))) (eC (.str "loose")))) [9]) (gSb (eVar 10) (eC (.str "boxes")))) (sSeq (sAsg (eLc (iRng (eC (.int 6))) (gNm 9) (bOr (bVal (eOp oNotIn (eVar 9) (eVar 7))) (bVal (eOp oIn (eVar 9) (eVar 8)))) (eVar 9) [9]) (gSb (eVar 10) (eC (.str "free")))) (sSeq (sFor (iRng (eCall (m_next) (aCons (eVar 0) (aCons (eOp oAdd (eVar 4) (eC (.int 1))) (aNil))))) (gNm 11) (sSeq (sAsg (eCall (m_next) (aCons (eVar 0) (aCons (eC (.int 8)) (aNil)))) (gNm 12)) (sIf (bVal (eOp oLt (eVar 12) (eC (.int 2)))) (sDrop (eCall (m_calling) (aCons (eVar 0) (aCons (eVar 10) (aNil))))) (sIf (bVal (eOp oEq (eVar 12) (eC (.int 2)))) (sDrop (eCall (m_zeroed) (aCons (eVar 0) (aCons (eVar 10) (aNil))))) (sDrop (eCall (m_simple) (aCons (eVar 0) (aCons (eVar 10) (aNil))))))))) (sSeq (sIf (bVal (eOp oNe (eOp oIx (eOp oIx (eVar 10) (eC (.str "boxes"))) (eVar 6)) (eC (.str "good")))) (sDrop (eMeth1 mAppend (eOp oIx (eVar 10) (eC (.str "rows"))) (eTup (aCons (eC (.str "put")) (aCons (eVar 6) (aCons (eCall (m_number) (aCons (eVar 0) (aNil))) (aNil))))))) (sNil)) (sSeq (sAsg (eOp oAdd (eOp oAdd (eOp oIx (eVar 10) (eC (.str "rows"))) (eLc (iRev (eVar 8)) (gNm 9) (bYes) (eTup (aCons (eC (.str "pop")) (aCons (eVar 9) (aNil)))) [9])) (eLs (aCons (eTup (aCons (eC (.str "back")) (aNil))) (aNil)))) (gNm 13)) (sSeq (sIf (bVal (eOp oGt (eBf bLen (aCons (eVar 13) (aNil))) (eC (.int 32)))) (sAsg (eLs (aCons (eTup (aCons (eC (.str "put")) (aCons (eVar 6) (aCons (eC (.int 1)) (aNil))))) (aCons (eTup (aCons (eC (.str "back")) (aNil))) (aNil)))) (gNm 13)) (sNil)) (sRet (eTup (aCons (eOp oIx (eVar 2) (eVar 3)) (aCons (eBf bTuple (aCons (eVar 13) (aNil))) (aNil))))))))))))))
def m_program : XF := fnP 2 7 (sSeq (sAsg (eBf bTuple (aCons (eLc (iRng (eOp oAdd (eC (.int 1)) (eCall (m_next) (aCons (eVar 0) (aCons (eC (.int 3)) (aNil)))))) (gNm 3) (bYes) (eCall (m_house) (aCons (eVar 0) (aNil))) [3]) (aNil))) (gNm 2)) (sSeq (sAsg (eLc (iRng (eOp oAdd (eC (.int 1)) (eCall (m_next) (aCons (eVar 0) (aCons (eVar 1) (aNil)))))) (gNm 3) (bYes) (eCall (m_next) (aCons (eVar 0) (aCons (eBf bLen (aCons (eVar 2) (aNil))) (aNil)))) [3]) (gNm 4)) (sSeq (sAsg (eOp oIx (eLs (aCons (eC (.int 6)) (aCons (eC (.int 14)) (aNil)))) (eCall (m_next) (aCons (eVar 0) (aCons (eC (.int 2)) (aNil))))) (gNm 5)) (sRet (eTup (aCons (eVar 2) (aCons (eBf bTuple (aCons (eLc (iRng (eBf bLen (aCons (eVar 4) (aNil)))) (gNm 6) (bYes) (eCall (m_kept) (aCons (eVar 0) (aCons (eVar 2) (aCons (eVar 4) (aCons (eVar 6) (aCons (eVar 5) (aNil))))))) [6]) (aNil))) (aNil))))))))
def m_wild_row : XF := fnP 3 6 (sSeq (sAsg (eLs (aCons (eC (.str "put")) (aCons (eC (.str "move")) (aCons (eC (.str "add")) (aCons (eC (.str "take")) (aCons (eC (.str "push")) (aCons (eC (.str "push")) (aCons (eC (.str "pop")) (aCons (eC (.str "pop")) (aCons (eC (.str "say")) (aCons (eC (.str "zero")) (aCons (eC (.str "zero")) (aCons (eC (.str "go")) (aCons (eC (.str "call")) (aCons (eC (.str "back")) (aNil)))))))))))))))) (gNm 3)) (sSeq (sAsg (eOp oIx (eVar 3) (eCall (m_next) (aCons (eVar 0) (aCons (eC (.int 14)) (aNil))))) (gNm 3)) (sSeq (sAsg (eLc (iRng (eC (.int 3))) (gNm 5) (bYes) (eCall (m_next) (aCons (eVar 0) (aCons (eC (.int 6)) (aNil)))) [5]) (gNm 4)) (sSeq (sIf (bVal (eOp oIn (eVar 3) (eTup (aCons (eC (.str "move")) (aCons (eC (.str "push")) (aCons (eC (.str "pop")) (aCons (eC (.str "say")) (aCons (eC (.str "add")) (aCons (eC (.str "take")) (aNil)))))))))) (sRet (eOp oAdd (eTup (aCons (eVar 3) (aNil))) (eBf bTuple (aCons (eCut (eVar 4) (none) (some (eGet2 (eDc ["move", "add", "take"] (aCons (eC (.int 2)) (aCons (eC (.int 3)) (aCons (eC (.int 3)) (aNil))))) (eVar 3) (eC (.int 1))))) (aNil))))) (sNil)) (sSeq (sIf (bVal (eOp oEq (eVar 3) (eC (.str "put")))) (sRet (eTup (aCons (eVar 3) (aCons (eOp oIx (eVar 4) (eC (.int 0))) (aCons (eCall (m_number) (aCons (eVar 0) (aNil))) (aNil)))))) (sNil)) (sSeq (sIf (bVal (eOp oEq (eVar 3) (eC (.str "zero")))) (sRet (eTup (aCons (eVar 3) (aCons (eOp oIx (eVar 4) (eC (.int 0))) (aCons (eCall (m_next) (aCons (eVar 0) (aCons (eVar 1) (aNil)))) (aNil)))))) (sNil)) (sRet (eOp oIx (eDc ["go", "call", "back"] (aCons (eTup (aCons (eC (.str "go")) (aCons (eCall (m_next) (aCons (eVar 0) (aCons (eVar 1) (aNil)))) (aNil)))) (aCons (eTup (aCons (eC (.str "call")) (aCons (eCall (m_next) (aCons (eVar 0) (aCons (eVar 2) (aNil)))) (aNil)))) (aCons (eTup (aCons (eC (.str "back")) (aNil))) (aNil))))) (eVar 3)))))))))
def m_odd : XF := fnP 3 15 (sSeq (sAsg (eVar 1) (gTp [gNm 3, gNm 4])) (sSeq (sFor (iRng (eVar 2)) (gNm 5) (sSeq (sAsg (eCall (m_next) (aCons (eVar 0) (aCons (eBf bLen (aCons (eVar 4) (aNil))) (aNil)))) (gNm 6)) (sSeq (sAsg (eOp oIx (eVar 4) (eVar 6)) (gTp [gNm 7, gNm 8])) (sSeq (sAsg (eCall (m_next) (aCons (eVar 0) (aCons (eBf bLen (aCons (eVar 8) (aNil))) (aNil)))) (gNm 9)) (sSeq (sAsg (eCall (m_wild_row) (aCons (eVar 0) (aCons (eBf bLen (aCons (eVar 8) (aNil))) (aCons (eBf bLen (aCons (eVar 4) (aNil))) (aNil))))) (gNm 10)) (sSeq (sAsg (eCall (m_next) (aCons (eVar 0) (aCons (eC (.int 4)) (aNil)))) (gNm 11)) (sSeq (sAsg (eLs (aCons (eOp oAdd (eOp oAdd (eCut (eVar 8) (none) (some (eVar 9))) (eTup (aCons (eVar 10) (aNil)))) (eCut (eVar 8) (some (eOp oAdd (eVar 9) (eC (.int 1)))) (none))) (aCons (eOp oAdd (eOp oAdd (eCut (eVar 8) (none) (some (eVar 9))) (eTup (aCons (eVar 10) (aNil)))) (eCut (eVar 8) (some (eVar 9)) (none))) (aCons (eOp oAdd (eCut (eVar 8) (none) (some (eVar 9))) (eCut (eVar 8) (some (eOp oAdd (eVar 9) (eC (.int 1)))) (none))) (aCons (eVar 8) (aNil)))))) (gNm 12)) (sSeq (sAsg (eOp oIx (eVar 12) (eVar 11)) (gNm 12)) (sSeq (sAsg (eBf bLen (aCons (eVar 12) (aNil))) (gNm 13)) (sSeq (sAsg (eBf bTuple (aCons (eLc (iSeq (eVar 12)) (gNm 14) (bYes) (eIf (bVal (eOp oIn (eOp oIx (eVar 14) (eC (.int 0))) (eTup (aCons (eC (.str "go")) (aCons (eC (.str "zero")) (aNil)))))) (eOp oAdd (eCut (eVar 14) (none) (some (eUn oNeg (eC (.int 1))))) (eTup (aCons (eBf bMin (aCons (eOp oIx (eVar 14) (eUn oNeg (eC (.int 1)))) (aCons (eOp oSub (eVar 13) (eC (.int 1))) (aNil)))) (aNil)))) (eVar 14)) [14]) (aNil))) (gNm 12)) (sSeq (sIf (bAnd (bVal (eOp oEq (eVar 11) (eC (.int 3)))) (bVal (eOp oGt (eBf bLen (aCons (eVar 3) (aNil))) (eC (.int 1))))) (sAsg (eCall (m_next) (aCons (eVar 0) (aCons (eBf bLen (aCons (eVar 3) (aNil))) (aNil)))) (gNm 7)) (sNil)) (sIf (bAnd (bVal (eChain oLt oLt (eC (.int 0)) (eVar 13) (eC (.int 33)))) (bVal (eOp oIn (eOp oIx (eOp oIx (eVar 12) (eUn oNeg (eC (.int 1)))) (eC (.int 0))) (eTup (aCons (eC (.str "go")) (aCons (eC (.str "back")) (aNil))))))) (sAsg (eOp oAdd (eOp oAdd (eCut (eVar 4) (none) (some (eVar 6))) (eTup (aCons (eTup (aCons (eVar 7) (aCons (eVar 12) (aNil)))) (aNil)))) (eCut (eVar 4) (some (eOp oAdd (eVar 6) (eC (.int 1)))) (none))) (gNm 4)) (sNil))))))))))))) (sRet (eTup (aCons (eVar 3) (aCons (eVar 4) (aNil)))))))
def m_wild : XF := fnP 2 9 (sSeq (sAsg (eBf bTuple (aCons (eLc (iRng (eOp oAdd (eC (.int 1)) (eCall (m_next) (aCons (eVar 0) (aCons (eC (.int 3)) (aNil)))))) (gNm 3) (bYes) (eCall (m_house) (aCons (eVar 0) (aNil))) [3]) (aNil))) (gNm 2)) (sSeq (sAsg (eOp oAdd (eC (.int 1)) (eCall (m_next) (aCons (eVar 0) (aCons (eC (.int 3)) (aNil))))) (gNm 4)) (sSeq (sAsg (eNew (aNil)) (gNm 5)) (sSeq (sFor (iRng (eVar 4)) (gNm 3) (sSeq (sAsg (eOp oAdd (eC (.int 1)) (eCall (m_next) (aCons (eVar 0) (aCons (eVar 1) (aNil))))) (gNm 6)) (sSeq (sAsg (eOp oAdd (eLc (iRng (eOp oSub (eVar 6) (eC (.int 1)))) (gNm 8) (bYes) (eCall (m_wild_row) (aCons (eVar 0) (aCons (eVar 6) (aCons (eVar 4) (aNil))))) [8]) (eLs (aCons (eOp oIx (eLs (aCons (eTup (aCons (eC (.str "back")) (aNil))) (aCons (eTup (aCons (eC (.str "go")) (aCons (eC (.int 0)) (aNil)))) (aNil)))) (eCall (m_next) (aCons (eVar 0) (aCons (eC (.int 2)) (aNil))))) (aNil)))) (gNm 7)) (sDrop (eMeth1 mAppend (eVar 5) (eTup (aCons (eCall (m_next) (aCons (eVar 0) (aCons (eBf bLen (aCons (eVar 2) (aNil))) (aNil)))) (aCons (eBf bTuple (aCons (eVar 7) (aNil))) (aNil))))))))) (sRet (eTup (aCons (eVar 2) (aCons (eBf bTuple (aCons (eVar 5) (aNil))) (aNil)))))))))
def m_any : XF := fnP 1 3 (sSeq (sAsg (eCall (m_next) (aCons (eVar 0) (aCons (eC (.int 5)) (aNil)))) (gNm 1)) (sSeq (sIf (bVal (eOp oEq (eVar 1) (eC (.int 4)))) (sRet (eCall (m_wild) (aCons (eVar 0) (aCons (eOp oIx (eLs (aCons (eC (.int 6)) (aCons (eC (.int 20)) (aCons (eC (.int 32)) (aNil))))) (eCall (m_next) (aCons (eVar 0) (aCons (eC (.int 3)) (aNil))))) (aNil))))) (sNil)) (sSeq (sAsg (eCall (m_program) (aCons (eVar 0) (aCons (eC (.int 6)) (aNil)))) (gNm 2)) (sRet (eIf (bVal (eOp oEq (eVar 1) (eC (.int 0)))) (eVar 2) (eCall (m_odd) (aCons (eVar 0) (aCons (eVar 2) (aCons (eOp oAdd (eC (.int 1)) (eCall (m_next) (aCons (eVar 0) (aCons (eC (.int 2)) (aNil))))) (aNil))))))))))
def m_forms : XF := fnK 0 1 (sSeq (sAsg (eDks ["put", "move", "add", "take", "push", "pop", "say", "zero", "go", "call"] (aCons (eC (.int 2)) (aCons (eC (.int 2)) (aCons (eC (.int 3)) (aCons (eC (.int 3)) (aCons (eC (.int 1)) (aCons (eC (.int 1)) (aCons (eC (.int 1)) (aCons (eC (.int 2)) (aCons (eC (.int 1)) (aCons (eC (.int 1)) (aNil)))))))))))) (gNm 0)) (sSeq (sAsg (eC (.int 0)) (gSb (eVar 0) (eC (.str "back")))) (sRet (eVar 0))))
def m_figures : XF := fnP 1 2 (sSeq (sIf (bOr (bNot (bVal (eChain oLt oLt (eC (.int 0)) (eBf bLenS (aCons (eVar 0) (aNil))) (eC (.int 4))))) (bVal (eOp oNe (eLc (iChs (eVar 0)) (gNm 1) (bVal (eOp oNotInC (eVar 1) (eC (.str "0123456789")))) (eVar 1) [1]) (eLs (aNil))))) (sRet (eC (.bl false))) (sNil)) (sRet (eOr (eOp oEq (eVar 0) (eC (.str "0"))) (eOp oNe (eOp oIxC (eVar 0) (eC (.int 0))) (eC (.str "0"))))))
def m_boxes : XF := fnP 1 2 (sRet (eOr (eOp oEq (eVar 0) (eC (.str "-"))) (eAnd (eOp oNe (eVar 0) (eC (.str ""))) (eOp oEq (eLc (iChs (eVar 0)) (gNm 1) (bVal (eOp oNotInC (eVar 1) (eC (.str "0123456789")))) (eVar 1) [1]) (eLs (aNil))))))
def m_line : XF := fnP 2 5 (sSeq (sIf (bVal (eOp oEq (eOp oIx (eVar 0) (eC (.int 0))) (eC (.str "house")))) (sSeq (sAsg (eAnd (eOp oEq (eBf bLen (aCons (eVar 0) (aNil))) (eC (.int 4))) (eNot (eVar 1))) (gNm 2)) (sRet (eAnd (eVar 2) (eAnd (eCall (m_boxes) (aCons (eOp oIx (eVar 0) (eC (.int 1))) (aNil))) (eAnd (eCall (m_figures) (aCons (eOp oIx (eVar 0) (eC (.int 2))) (aNil))) (eCall (m_boxes) (aCons (eOp oIx (eVar 0) (eC (.int 3))) (aNil)))))))) (sNil)) (sSeq (sIf (bVal (eOp oEq (eOp oIx (eVar 0) (eC (.int 0))) (eC (.str "routine")))) (sRet (eAnd (eOp oEq (eBf bLen (aCons (eVar 0) (aNil))) (eC (.int 2))) (eCall (m_figures) (aCons (eOp oIx (eVar 0) (eC (.int 1))) (aNil))))) (sNil)) (sSeq (sAsg (eGet2 (eCall (m_forms) (aNil)) (eOp oIx (eVar 0) (eC (.int 0))) (eUn oNeg (eC (.int 1)))) (gNm 3)) (sRet (eAnd (eVar 1) (eAnd (eOp oEq (eVar 3) (eOp oSub (eBf bLen (aCons (eVar 0) (aNil))) (eC (.int 1)))) (eOp oEq (eLc (iSeq (eCut (eVar 0) (some (eC (.int 1))) (none))) (gNm 4) (bNot (bVal (eCall (m_figures) (aCons (eVar 4) (aNil))))) (eVar 4) [4]) (eLs (aNil)))))))))
def m_made : XF := fnP 1 11 (sSeq (sAsg (eNew (aNil)) (gNm 1)) (sSeq (sAsg (eNew (aNil)) (gNm 2)) (sSeq (sFor (iSeq (eVar 0)) (gNm 3) (sSeq (sAsg (eSplitS (eVar 3) (eC (.str " "))) (gNm 4)) (sIf (bVal (eOp oEq (eOp oIx (eVar 4) (eC (.int 0))) (eC (.str "house")))) (sSeq (sAsg (eLc (iSeq (eTup (aCons (eOp oIx (eVar 4) (eC (.int 1))) (aCons (eOp oIx (eVar 4) (eC (.int 3))) (aNil))))) (gNm 9) (bYes) (eBf bTuple (aCons (eLc (iChs (eVar 9)) (gNm 10) (bVal (eOp oNe (eVar 10) (eC (.str "-")))) (eBf bIntS (aCons (eVar 10) (aNil))) [10]) (aNil))) [9]) (gTp [gNm 5, gNm 6])) (sDrop (eMeth1 mAppend (eVar 1) (eTup (aCons (eVar 5) (aCons (eBf bIntS (aCons (eOp oIx (eVar 4) (eC (.int 2))) (aNil))) (aCons (eVar 6) (aNil)))))))) (sIf (bVal (eOp oEq (eOp oIx (eVar 4) (eC (.int 0))) (eC (.str "routine")))) (sDrop (eMeth1 mAppend (eVar 2) (eTup (aCons (eBf bIntS (aCons (eOp oIx (eVar 4) (eC (.int 1))) (aNil))) (aCons (eTup (aNil)) (aNil)))))) (sSeq (sAsg (eMeth0 mPop (eVar 2)) (gTp [gNm 7, gNm 8])) (sDrop (eMeth1 mAppend (eVar 2) (eTup (aCons (eVar 7) (aCons (eOp oAdd (eVar 8) (eTup (aCons (eOp oAdd (eTup (aCons (eOp oIx (eVar 4) (eC (.int 0))) (aNil))) (eBf bTuple (aCons (eLc (iSeq (eCut (eVar 4) (some (eC (.int 1))) (none))) (gNm 9) (bYes) (eBf bIntS (aCons (eVar 9) (aNil))) [9]) (aNil)))) (aNil)))) (aNil))))))))))) (sRet (eTup (aCons (eBf bTuple (aCons (eVar 1) (aNil))) (aCons (eBf bTuple (aCons (eVar 2) (aNil))) (aNil))))))))
def m_spoilt : XF := fnP 2 11 (sSeq (sAsg (eCall (m_next) (aCons (eVar 0) (aCons (eC (.int 9)) (aNil)))) (gNm 2)) (sSeq (sAsg (eCall (m_next) (aCons (eVar 0) (aCons (eOp oAdd (eBf bLenS (aCons (eVar 1) (aNil))) (eC (.int 1))) (aNil)))) (gNm 3)) (sSeq (sAsg (eC (.str "0123456789 -\nabcdefghijklmnopqrstuvwxyz!#$&'()*+,./:;<=>?@ABCDEFGHIJKLMNOPQRSTUVWXYZ[]^_{|}~")) (gNm 4)) (sSeq (sAsg (eOp oIxC (eVar 4) (eCall (m_next) (aCons (eVar 0) (aCons (eOp oIx (eLs (aCons (eC (.int 13)) (aCons (eBf bLenS (aCons (eVar 4) (aNil))) (aNil)))) (eCall (m_next) (aCons (eVar 0) (aCons (eC (.int 2)) (aNil))))) (aNil))))) (gNm 5)) (sSeq (sIf (bVal (eOp oLt (eVar 2) (eC (.int 3)))) (sRet (eOp oAddS (eOp oAddS (eCutS (eVar 1) (none) (some (eVar 3))) (eOp oIx (eLs (aCons (eVar 5) (aCons (eC (.str "")) (aCons (eVar 5) (aNil))))) (eVar 2))) (eCutS (eVar 1) (some (eOp oAdd (eVar 3) (eBf bInt (aCons (eOp oGt (eVar 2) (eC (.int 0))) (aNil))))) (none)))) (sNil)) (sSeq (sAsg (eSplitS (eVar 1) (eC (.str "\n"))) (gNm 6)) (sSeq (sAsg (eCall (m_next) (aCons (eVar 0) (aCons (eBf bLenS (aCons (eVar 6) (aNil))) (aNil)))) (gNm 7)) (sSeq (sIf (bVal (eOp oLt (eVar 2) (eC (.int 6)))) (sRet (eJoinS (eC (.str "\n")) (eOp oIx (eLs (aCons (eOp oAdd (eCut (eVar 6) (none) (some (eVar 7))) (eCut (eVar 6) (some (eOp oAdd (eVar 7) (eC (.int 1)))) (none))) (aCons (eOp oAdd (eCut (eVar 6) (none) (some (eOp oAdd (eVar 7) (eC (.int 1))))) (eCut (eVar 6) (some (eVar 7)) (none))) (aCons (eOp oAdd (eCut (eVar 6) (some (eVar 7)) (none)) (eCut (eVar 6) (none) (some (eVar 7)))) (aNil))))) (eOp oSub (eVar 2) (eC (.int 3)))))) (sNil)) (sSeq (sAsg (eSplitS (eOp oIx (eVar 6) (eVar 7)) (eC (.str " "))) (gNm 8)) (sSeq (sAsg (eCall (m_next) (aCons (eVar 0) (aCons (eBf bLenS (aCons (eVar 8) (aNil))) (aNil)))) (gNm 9)) (sSeq (sAsg (eLs (aCons (eC (.str "")) (aCons (eC (.str "0")) (aCons (eC (.str "00")) (aCons (eC (.str "07")) (aCons (eC (.str "5")) (aCons (eC (.str "6")) (aCons (eC (.str "31")) (aCons (eC (.str "32")) (aCons (eC (.str "999")) (aCons (eC (.str "1000")) (aCons (eC (.str "-")) (aCons (eC (.str "--")) (aCons (eC (.str "-1")) (aCons (eC (.str "012345")) (aCons (eC (.str "10")) (aCons (eC (.str "house")) (aNil)))))))))))))))))) (gNm 10)) (sSeq (sAsg (eOp oAdd (eVar 10) (eLs (aCons (eC (.str "routine")) (aCons (eC (.str "put")) (aCons (eC (.str "back")) (aCons (eC (.str "go")) (aCons (eC (.str "zero")) (aCons (eC (.str "call")) (aCons (eC (.str "Put")) (aCons (eC (.str "say")) (aNil))))))))))) (gNm 10)) (sSeq (sAsg (eOp oAdd (eOp oAdd (eCut (eVar 8) (none) (some (eVar 9))) (eOp oIx (eLs (aCons (eLs (aNil)) (aCons (eOp oMul (eLs (aCons (eOp oIx (eVar 8) (eVar 9)) (aNil))) (eC (.int 2))) (aCons (eLs (aCons (eOp oIx (eVar 10) (eCall (m_next) (aCons (eVar 0) (aCons (eC (.int 24)) (aNil))))) (aNil))) (aNil))))) (eOp oSub (eVar 2) (eC (.int 6))))) (eCut (eVar 8) (some (eOp oAdd (eVar 9) (eC (.int 1)))) (none))) (gNm 8)) (sRet (eJoinS (eC (.str "\n")) (eOp oAdd (eOp oAdd (eCut (eVar 6) (none) (some (eVar 7))) (eLs (aCons (eJoinS (eC (.str " ")) (eVar 8)) (aNil)))) (eCut (eVar 6) (some (eOp oAdd (eVar 7) (eC (.int 1)))) (none))))))))))))))))))
def m_law : XF := fnK 1 12 (sSeq (sAsg (eCall (m_mix) (aCons (eVar 0) (aCons (eC (.int 73)) (aNil)))) (gNm 1)) (sSeq (sAsg (eLs (aCons (eC (.str "")) (aCons (eC (.str "\n")) (aCons (eC (.str "house")) (aCons (eC (.str "house - 0 -")) (aCons (eC (.str "routine 0")) (aCons (eC (.str "back")) (aCons (eC (.str "house - 0 -\nroutine 0\nback")) (aNil))))))))) (gNm 2)) (sSeq (sAsg (eOp oAdd (eVar 2) (eLs (aCons (eC (.str "house - 0 - \nroutine 0")) (aCons (eC (.str "house - 0 -\nroutine 0\nback\n")) (aNil))))) (gNm 2)) (sSeq (sAsg (eOp oAdd (eVar 2) (eLs (aCons (eC (.str "house - 0 -\nback\nroutine 0")) (aCons (eC (.str "routine 0\nback\nhouse - 0 -")) (aNil))))) (gNm 2)) (sSeq (sFor (iRng (eC (.int 5))) (gNm 3) (sSeq (sAsg (eCall (m_written) (aCons (eCall (m_any) (aCons (eVar 1) (aNil))) (aNil))) (gNm 4)) (sSeq (sFor (iRng (eCall (m_next) (aCons (eVar 1) (aCons (eC (.int 4)) (aNil))))) (gNm 5) (sAsg (eCall (m_spoilt) (aCons (eVar 1) (aCons (eVar 4) (aNil)))) (gNm 4))) (sFor (iSeq (eLs (aCons (eVar 4) (aCons (eOp oIx (eVar 2) (eCall (m_next) (aCons (eVar 1) (aCons (eC (.int 11)) (aNil))))) (aNil))))) (gNm 6) (sSeq (sAsg (eSplitS (eVar 6) (eC (.str "\n"))) (gNm 7)) (sSeq (sAsg (eOp oAdd (eLc (iRng (eBf bLen (aCons (eVar 7) (aNil)))) (gNm 11) (bVal (eOp oEq (eOp oIx (eSplitS (eOp oIx (eVar 7) (eVar 11)) (eC (.str " "))) (eC (.int 0))) (eC (.str "routine")))) (eVar 11) [11]) (eLs (aCons (eBf bLen (aCons (eVar 7) (aNil))) (aNil)))) (gNm 8)) (sSeq (sAsg (eLc (iRng (eBf bLen (aCons (eVar 7) (aNil)))) (gNm 11) (bNot (bVal (eCall (m_line) (aCons (eSplitS (eOp oIx (eVar 7) (eVar 11)) (eC (.str " "))) (aCons (eOp oGt (eVar 11) (eOp oIx (eVar 8) (eC (.int 0)))) (aNil)))))) (eVar 11) [11]) (gNm 9)) (sSeq (sAsg (eIf (bVal (eOp oNe (eVar 9) (eLs (aNil)))) (eTup (aCons (eC (.str "BadText")) (aCons (eOp oIx (eVar 9) (eC (.int 0))) (aNil)))) (eKindF (eCall (m_written) (aCons (eCall (m_made) (aCons (eVar 7) (aNil))) (aNil))))) (gNm 10)) (sSeq (sIf (bVal (eOp oNe (eKindF (eCall (m_read) (aCons (eVar 6) (aNil)))) (eVar 10))) (sRet (eC (.bl false))) (sNil)) (sIf (bAnd (bVal (eOp oEq (eVar 10) (eC (.str "")))) (bNot (bVal (eCall (m_alike) (aCons (eCall (m_read) (aCons (eVar 6) (aNil))) (aCons (eCall (m_made) (aCons (eVar 7) (aNil))) (aNil))))))) (sRet (eC (.bl false))) (sNil))))))))))) (sRet (eC (.bl true))))))))
end

/-! Gk20 -/
/-! .. and that the text does it; written by gen.py -/
section
open PySem PySem.Spec PyProof.Rows L2
structure Top (w : World) (K : PySem.W.Frag) (mg : Str → Option Value) : Prop where
  ns : ∃ h : Heap, K.In h ∧ h.Ns mainGlobals mg ∧ He.SaysX fal fnl tbl [("law", none)] exB w h K
section
variable {w : World} {K : PySem.W.Frag} {mg : Str → Option Value}
theorem Top.c (T : Top w K mg) : He.SaysD fal fnl K := by obtain ⟨h, X, G, c⟩ := T.ns; exact c.t.d
theorem t_ValueError (T : Top w K mg) : mg "ValueError" = none := by obtain ⟨h, X, G, _⟩ := T.ns; exact He.free_ok X G (T.c.fact 25 (f := .free "ValueError") rfl)
theorem t_all (T : Top w K mg) : mg "all" = none := by obtain ⟨h, X, G, _⟩ := T.ns; exact He.free_ok X G (T.c.fact 0 (f := .free "all") rfl)
theorem t_any (T : Top w K mg) : mg "any" = none := by obtain ⟨h, X, G, _⟩ := T.ns; exact He.free_ok X G (T.c.fact 1 (f := .free "any") rfl)
theorem t_bool (T : Top w K mg) : mg "bool" = none := by obtain ⟨h, X, G, _⟩ := T.ns; exact He.free_ok X G (T.c.fact 2 (f := .free "bool") rfl)
theorem t_enumerate (T : Top w K mg) : mg "enumerate" = none := by obtain ⟨h, X, G, _⟩ := T.ns; exact He.free_ok X G (T.c.fact 3 (f := .free "enumerate") rfl)
theorem t_int (T : Top w K mg) : mg "int" = none := by obtain ⟨h, X, G, _⟩ := T.ns; exact He.free_ok X G (T.c.fact 4 (f := .free "int") rfl)
theorem t_isinstance (T : Top w K mg) : mg "isinstance" = none := by obtain ⟨h, X, G, _⟩ := T.ns; exact He.free_ok X G (T.c.fact 5 (f := .free "isinstance") rfl)
theorem t_len (T : Top w K mg) : mg "len" = none := by obtain ⟨h, X, G, _⟩ := T.ns; exact He.free_ok X G (T.c.fact 6 (f := .free "len") rfl)
theorem t_list (T : Top w K mg) : mg "list" = none := by obtain ⟨h, X, G, _⟩ := T.ns; exact He.free_ok X G (T.c.fact 7 (f := .free "list") rfl)
theorem t_max (T : Top w K mg) : mg "max" = none := by obtain ⟨h, X, G, _⟩ := T.ns; exact He.free_ok X G (T.c.fact 8 (f := .free "max") rfl)
theorem t_min (T : Top w K mg) : mg "min" = none := by obtain ⟨h, X, G, _⟩ := T.ns; exact He.free_ok X G (T.c.fact 9 (f := .free "min") rfl)
theorem t_range (T : Top w K mg) : mg "range" = none := by obtain ⟨h, X, G, _⟩ := T.ns; exact He.free_ok X G (T.c.fact 10 (f := .free "range") rfl)
theorem t_reversed (T : Top w K mg) : mg "reversed" = none := by obtain ⟨h, X, G, _⟩ := T.ns; exact He.free_ok X G (T.c.fact 11 (f := .free "reversed") rfl)
theorem t_str (T : Top w K mg) : mg "str" = none := by obtain ⟨h, X, G, _⟩ := T.ns; exact He.free_ok X G (T.c.fact 12 (f := .free "str") rfl)
theorem t_super (T : Top w K mg) : mg "super" = none := by obtain ⟨h, X, G, _⟩ := T.ns; exact He.free_ok X G (T.c.fact 13 (f := .free "super") rfl)
theorem t_tuple (T : Top w K mg) : mg "tuple" = none := by obtain ⟨h, X, G, _⟩ := T.ns; exact He.free_ok X G (T.c.fact 14 (f := .free "tuple") rfl)
theorem t_zip (T : Top w K mg) : mg "zip" = none := by obtain ⟨h, X, G, _⟩ := T.ns; exact He.free_ok X G (T.c.fact 15 (f := .free "zip") rfl)
theorem t_FIGURES (T : Top w K mg) : ∃ t, mg "FIGURES" = some (.str "0123456789" t) := by obtain ⟨h, X, G, _⟩ := T.ns; exact He.str_ok X G (T.c.fact 17 (f := .str "FIGURES" "0123456789") rfl)
theorem t_NO_BOXES (T : Top w K mg) : ∃ t, mg "NO_BOXES" = some (.str "-" t) := by obtain ⟨h, X, G, _⟩ := T.ns; exact He.str_ok X G (T.c.fact 18 (f := .str "NO_BOXES" "-") rfl)
theorem t_BOXES (T : Top w K mg) : ∃ t, mg "BOXES" = some (.int 6 t) := by obtain ⟨h, X, G, _⟩ := T.ns; exact He.int_ok X G (T.c.fact 19 (f := .int "BOXES" 6) rfl)
theorem t_MOST_FIGURES (T : Top w K mg) : ∃ t, mg "MOST_FIGURES" = some (.int 3 t) := by obtain ⟨h, X, G, _⟩ := T.ns; exact He.int_ok X G (T.c.fact 20 (f := .int "MOST_FIGURES" 3) rfl)
theorem t_MOST_HOUSES (T : Top w K mg) : ∃ t, mg "MOST_HOUSES" = some (.int 3 t) := by obtain ⟨h, X, G, _⟩ := T.ns; exact He.int_ok X G (T.c.fact 21 (f := .int "MOST_HOUSES" 3) rfl)
theorem t_MOST_ROUTINES (T : Top w K mg) : ∃ t, mg "MOST_ROUTINES" = some (.int 6 t) := by obtain ⟨h, X, G, _⟩ := T.ns; exact He.int_ok X G (T.c.fact 22 (f := .int "MOST_ROUTINES" 6) rfl)
theorem t_MOST_ROWS (T : Top w K mg) : ∃ t, mg "MOST_ROWS" = some (.int 32 t) := by obtain ⟨h, X, G, _⟩ := T.ns; exact He.int_ok X G (T.c.fact 23 (f := .int "MOST_ROWS" 32) rfl)
theorem t_NUMBERS (T : Top w K mg) : ∃ t, mg "NUMBERS" = some (.int 1000 t) := by obtain ⟨h, X, G, _⟩ := T.ns; exact He.int_ok X G (T.c.fact 24 (f := .int "NUMBERS" 1000) rfl)
theorem t_glo_is_tuple_of (T : Top w K mg) : mg "is_tuple_of" = some (.ref (He.ga K "is_tuple_of")) := by obtain ⟨h, X, G, _⟩ := T.ns; exact He.glo_ok X G (T.c.fact 38 (f := .glo "is_tuple_of") rfl)
theorem t_glo_is_below (T : Top w K mg) : mg "is_below" = some (.ref (He.ga K "is_below")) := by obtain ⟨h, X, G, _⟩ := T.ns; exact He.glo_ok X G (T.c.fact 39 (f := .glo "is_below") rfl)
theorem t_glo_are_rising_boxes (T : Top w K mg) : mg "are_rising_boxes" = some (.ref (He.ga K "are_rising_boxes")) := by obtain ⟨h, X, G, _⟩ := T.ns; exact He.glo_ok X G (T.c.fact 40 (f := .glo "are_rising_boxes") rfl)
theorem t_glo_is_house (T : Top w K mg) : mg "is_house" = some (.ref (He.ga K "is_house")) := by obtain ⟨h, X, G, _⟩ := T.ns; exact He.glo_ok X G (T.c.fact 41 (f := .glo "is_house") rfl)
theorem t_glo_check_houses (T : Top w K mg) : mg "check_houses" = some (.ref (He.ga K "check_houses")) := by obtain ⟨h, X, G, _⟩ := T.ns; exact He.glo_ok X G (T.c.fact 42 (f := .glo "check_houses") rfl)
theorem t_glo_is_row (T : Top w K mg) : mg "is_row" = some (.ref (He.ga K "is_row")) := by obtain ⟨h, X, G, _⟩ := T.ns; exact He.glo_ok X G (T.c.fact 43 (f := .glo "is_row") rfl)
theorem t_glo_check_rows (T : Top w K mg) : mg "check_rows" = some (.ref (He.ga K "check_rows")) := by obtain ⟨h, X, G, _⟩ := T.ns; exact He.glo_ok X G (T.c.fact 44 (f := .glo "check_rows") rfl)
theorem t_glo_check_routines (T : Top w K mg) : mg "check_routines" = some (.ref (He.ga K "check_routines")) := by obtain ⟨h, X, G, _⟩ := T.ns; exact He.glo_ok X G (T.c.fact 45 (f := .glo "check_routines") rfl)
theorem t_glo_check_program (T : Top w K mg) : mg "check_program" = some (.ref (He.ga K "check_program")) := by obtain ⟨h, X, G, _⟩ := T.ns; exact He.glo_ok X G (T.c.fact 46 (f := .glo "check_program") rfl)
theorem t_glo_boxes_word (T : Top w K mg) : mg "boxes_word" = some (.ref (He.ga K "boxes_word")) := by obtain ⟨h, X, G, _⟩ := T.ns; exact He.glo_ok X G (T.c.fact 47 (f := .glo "boxes_word") rfl)
theorem t_glo_house_line (T : Top w K mg) : mg "house_line" = some (.ref (He.ga K "house_line")) := by obtain ⟨h, X, G, _⟩ := T.ns; exact He.glo_ok X G (T.c.fact 48 (f := .glo "house_line") rfl)
theorem t_glo_routine_lines (T : Top w K mg) : mg "routine_lines" = some (.ref (He.ga K "routine_lines")) := by obtain ⟨h, X, G, _⟩ := T.ns; exact He.glo_ok X G (T.c.fact 49 (f := .glo "routine_lines") rfl)
theorem t_glo_written (T : Top w K mg) : mg "written" = some (.ref (He.ga K "written")) := by obtain ⟨h, X, G, _⟩ := T.ns; exact He.glo_ok X G (T.c.fact 50 (f := .glo "written") rfl)
theorem t_glo_are_figures (T : Top w K mg) : mg "are_figures" = some (.ref (He.ga K "are_figures")) := by obtain ⟨h, X, G, _⟩ := T.ns; exact He.glo_ok X G (T.c.fact 51 (f := .glo "are_figures") rfl)
theorem t_glo_is_number_word (T : Top w K mg) : mg "is_number_word" = some (.ref (He.ga K "is_number_word")) := by obtain ⟨h, X, G, _⟩ := T.ns; exact He.glo_ok X G (T.c.fact 52 (f := .glo "is_number_word") rfl)
theorem t_glo_is_boxes_word (T : Top w K mg) : mg "is_boxes_word" = some (.ref (He.ga K "is_boxes_word")) := by obtain ⟨h, X, G, _⟩ := T.ns; exact He.glo_ok X G (T.c.fact 53 (f := .glo "is_boxes_word") rfl)
theorem t_glo_is_house_line (T : Top w K mg) : mg "is_house_line" = some (.ref (He.ga K "is_house_line")) := by obtain ⟨h, X, G, _⟩ := T.ns; exact He.glo_ok X G (T.c.fact 54 (f := .glo "is_house_line") rfl)
theorem t_glo_is_routine_line (T : Top w K mg) : mg "is_routine_line" = some (.ref (He.ga K "is_routine_line")) := by obtain ⟨h, X, G, _⟩ := T.ns; exact He.glo_ok X G (T.c.fact 55 (f := .glo "is_routine_line") rfl)
theorem t_glo_is_row_line (T : Top w K mg) : mg "is_row_line" = some (.ref (He.ga K "is_row_line")) := by obtain ⟨h, X, G, _⟩ := T.ns; exact He.glo_ok X G (T.c.fact 56 (f := .glo "is_row_line") rfl)
theorem t_glo_boxes_read (T : Top w K mg) : mg "boxes_read" = some (.ref (He.ga K "boxes_read")) := by obtain ⟨h, X, G, _⟩ := T.ns; exact He.glo_ok X G (T.c.fact 57 (f := .glo "boxes_read") rfl)
theorem t_glo_house_read (T : Top w K mg) : mg "house_read" = some (.ref (He.ga K "house_read")) := by obtain ⟨h, X, G, _⟩ := T.ns; exact He.glo_ok X G (T.c.fact 58 (f := .glo "house_read") rfl)
theorem t_glo_row_read (T : Top w K mg) : mg "row_read" = some (.ref (He.ga K "row_read")) := by obtain ⟨h, X, G, _⟩ := T.ns; exact He.glo_ok X G (T.c.fact 59 (f := .glo "row_read") rfl)
theorem t_glo_read (T : Top w K mg) : mg "read" = some (.ref (He.ga K "read")) := by obtain ⟨h, X, G, _⟩ := T.ns; exact He.glo_ok X G (T.c.fact 60 (f := .glo "read") rfl)
theorem t_glo_mix (T : Top w K mg) : mg "_law_mix" = some (.ref (He.ga K "_law_mix")) := by obtain ⟨h, X, G, _⟩ := T.ns; exact He.glo_ok X G (T.c.fact 61 (f := .glo "_law_mix") rfl)
theorem t_glo_next (T : Top w K mg) : mg "_law_next" = some (.ref (He.ga K "_law_next")) := by obtain ⟨h, X, G, _⟩ := T.ns; exact He.glo_ok X G (T.c.fact 62 (f := .glo "_law_next") rfl)
theorem t_glo_alike (T : Top w K mg) : mg "_law_alike" = some (.ref (He.ga K "_law_alike")) := by obtain ⟨h, X, G, _⟩ := T.ns; exact He.glo_ok X G (T.c.fact 63 (f := .glo "_law_alike") rfl)
theorem t_glo_house (T : Top w K mg) : mg "_law_house" = some (.ref (He.ga K "_law_house")) := by obtain ⟨h, X, G, _⟩ := T.ns; exact He.glo_ok X G (T.c.fact 64 (f := .glo "_law_house") rfl)
theorem t_glo_number (T : Top w K mg) : mg "_law_number" = some (.ref (He.ga K "_law_number")) := by obtain ⟨h, X, G, _⟩ := T.ns; exact He.glo_ok X G (T.c.fact 65 (f := .glo "_law_number") rfl)
theorem t_glo_simple (T : Top w K mg) : mg "_law_simple" = some (.ref (He.ga K "_law_simple")) := by obtain ⟨h, X, G, _⟩ := T.ns; exact He.glo_ok X G (T.c.fact 66 (f := .glo "_law_simple") rfl)
theorem t_glo_calling (T : Top w K mg) : mg "_law_calling" = some (.ref (He.ga K "_law_calling")) := by obtain ⟨h, X, G, _⟩ := T.ns; exact He.glo_ok X G (T.c.fact 67 (f := .glo "_law_calling") rfl)
theorem t_glo_zeroed (T : Top w K mg) : mg "_law_zeroed" = some (.ref (He.ga K "_law_zeroed")) := by obtain ⟨h, X, G, _⟩ := T.ns; exact He.glo_ok X G (T.c.fact 68 (f := .glo "_law_zeroed") rfl)
theorem t_glo_kept (T : Top w K mg) : mg "_law_kept" = some (.ref (He.ga K "_law_kept")) := by obtain ⟨h, X, G, _⟩ := T.ns; exact He.glo_ok X G (T.c.fact 69 (f := .glo "_law_kept") rfl)
theorem t_glo_program (T : Top w K mg) : mg "_law_program" = some (.ref (He.ga K "_law_program")) := by obtain ⟨h, X, G, _⟩ := T.ns; exact He.glo_ok X G (T.c.fact 70 (f := .glo "_law_program") rfl)
theorem t_glo_wild_row (T : Top w K mg) : mg "_law_wild_row" = some (.ref (He.ga K "_law_wild_row")) := by obtain ⟨h, X, G, _⟩ := T.ns; exact He.glo_ok X G (T.c.fact 71 (f := .glo "_law_wild_row") rfl)
theorem t_glo_odd (T : Top w K mg) : mg "_law_odd" = some (.ref (He.ga K "_law_odd")) := by obtain ⟨h, X, G, _⟩ := T.ns; exact He.glo_ok X G (T.c.fact 72 (f := .glo "_law_odd") rfl)
theorem t_glo_wild (T : Top w K mg) : mg "_law_wild" = some (.ref (He.ga K "_law_wild")) := by obtain ⟨h, X, G, _⟩ := T.ns; exact He.glo_ok X G (T.c.fact 73 (f := .glo "_law_wild") rfl)
theorem t_glo_any (T : Top w K mg) : mg "_law_any" = some (.ref (He.ga K "_law_any")) := by obtain ⟨h, X, G, _⟩ := T.ns; exact He.glo_ok X G (T.c.fact 74 (f := .glo "_law_any") rfl)
theorem t_glo_forms (T : Top w K mg) : mg "_law_forms" = some (.ref (He.ga K "_law_forms")) := by obtain ⟨h, X, G, _⟩ := T.ns; exact He.glo_ok X G (T.c.fact 75 (f := .glo "_law_forms") rfl)
theorem t_glo_figures (T : Top w K mg) : mg "_law_figures" = some (.ref (He.ga K "_law_figures")) := by obtain ⟨h, X, G, _⟩ := T.ns; exact He.glo_ok X G (T.c.fact 76 (f := .glo "_law_figures") rfl)
theorem t_glo_boxes (T : Top w K mg) : mg "_law_boxes" = some (.ref (He.ga K "_law_boxes")) := by obtain ⟨h, X, G, _⟩ := T.ns; exact He.glo_ok X G (T.c.fact 77 (f := .glo "_law_boxes") rfl)
theorem t_glo_line (T : Top w K mg) : mg "_law_line" = some (.ref (He.ga K "_law_line")) := by obtain ⟨h, X, G, _⟩ := T.ns; exact He.glo_ok X G (T.c.fact 78 (f := .glo "_law_line") rfl)
theorem t_glo_made (T : Top w K mg) : mg "_law_made" = some (.ref (He.ga K "_law_made")) := by obtain ⟨h, X, G, _⟩ := T.ns; exact He.glo_ok X G (T.c.fact 79 (f := .glo "_law_made") rfl)
theorem t_glo_spoilt (T : Top w K mg) : mg "_law_spoilt" = some (.ref (He.ga K "_law_spoilt")) := by obtain ⟨h, X, G, _⟩ := T.ns; exact He.glo_ok X G (T.c.fact 80 (f := .glo "_law_spoilt") rfl)
theorem t_glo_law (T : Top w K mg) : mg "law" = some (.ref (He.ga K "law")) := by obtain ⟨h, X, G, _⟩ := T.ns; exact He.glo_ok X G (T.c.fact 81 (f := .glo "law") rfl)
theorem t_PLACES (T : Top w K mg) : ∃ a es n, mg "PLACES" = some (.ref a) ∧ KDict K w a es n ∧ Tab K es K_PLACES V_PLACES := by
  obtain ⟨h, X, G, c⟩ := T.ns
  obtain ⟨es, n, D⟩ := c.t.tab 0 (t := (fun K => He.ga K "PLACES", K_PLACES)) rfl
  have e := c.more
  unfold exB at e
  simp only [Bool.and_eq_true] at e
  exact ⟨_, es, n, He.glo_ok X G (T.c.fact 16 (f := .glo "PLACES") rfl), D, dictP_ok D e.1.1⟩
theorem t_glo_BadProgram (T : Top w K mg) : mg "BadProgram" = some (.ref (He.ga K "BadProgram")) := by obtain ⟨h, X, G, _⟩ := T.ns; exact He.glo_ok X G (T.c.fact 26 (f := .glo "BadProgram") rfl)
theorem t_glo_BadNumber (T : Top w K mg) : mg "BadNumber" = some (.ref (He.ga K "BadNumber")) := by obtain ⟨h, X, G, _⟩ := T.ns; exact He.glo_ok X G (T.c.fact 27 (f := .glo "BadNumber") rfl)
theorem t_glo_TooMany (T : Top w K mg) : mg "TooMany" = some (.ref (He.ga K "TooMany")) := by obtain ⟨h, X, G, _⟩ := T.ns; exact He.glo_ok X G (T.c.fact 28 (f := .glo "TooMany") rfl)
theorem t_glo_NotLet (T : Top w K mg) : mg "NotLet" = some (.ref (He.ga K "NotLet")) := by obtain ⟨h, X, G, _⟩ := T.ns; exact He.glo_ok X G (T.c.fact 29 (f := .glo "NotLet") rfl)
theorem t_glo_BadStates (T : Top w K mg) : mg "BadStates" = some (.ref (He.ga K "BadStates")) := by obtain ⟨h, X, G, _⟩ := T.ns; exact He.glo_ok X G (T.c.fact 30 (f := .glo "BadStates") rfl)
theorem t_glo_BadGiven (T : Top w K mg) : mg "BadGiven" = some (.ref (He.ga K "BadGiven")) := by obtain ⟨h, X, G, _⟩ := T.ns; exact He.glo_ok X G (T.c.fact 31 (f := .glo "BadGiven") rfl)
theorem t_glo_BadFuel (T : Top w K mg) : mg "BadFuel" = some (.ref (He.ga K "BadFuel")) := by obtain ⟨h, X, G, _⟩ := T.ns; exact He.glo_ok X G (T.c.fact 32 (f := .glo "BadFuel") rfl)
theorem t_glo_BadNoise (T : Top w K mg) : mg "BadNoise" = some (.ref (He.ga K "BadNoise")) := by obtain ⟨h, X, G, _⟩ := T.ns; exact He.glo_ok X G (T.c.fact 33 (f := .glo "BadNoise") rfl)
theorem t_glo_BadSaves (T : Top w K mg) : mg "BadSaves" = some (.ref (He.ga K "BadSaves")) := by obtain ⟨h, X, G, _⟩ := T.ns; exact He.glo_ok X G (T.c.fact 34 (f := .glo "BadSaves") rfl)
theorem t_glo_BadText (T : Top w K mg) : mg "BadText" = some (.ref (He.ga K "BadText")) := by obtain ⟨h, X, G, _⟩ := T.ns; exact He.glo_ok X G (T.c.fact 35 (f := .glo "BadText") rfl)
theorem t_glo_PactError (T : Top w K mg) : mg "PactError" = some (.ref (He.ga K "PactError")) := by obtain ⟨h, X, G, _⟩ := T.ns; exact He.glo_ok X G (T.c.fact 36 (f := .glo "PactError") rfl)
theorem t_glo__law_kind (T : Top w K mg) : mg "_law_kind" = some (.ref (He.ga K "_law_kind")) := by obtain ⟨h, X, G, _⟩ := T.ns; exact He.glo_ok X G (T.c.fact 37 (f := .glo "_law_kind") rfl)
theorem t_kinds (T : Top w K mg) : kindsB K = true := by
  obtain ⟨h, X, G, c⟩ := T.ns
  have e := c.more
  unfold exB at e
  simp only [Bool.and_eq_true] at e
  exact e.1.2
theorem t_flds (T : Top w K mg) : fldsB K = true := by
  obtain ⟨h, X, G, c⟩ := T.ns
  have e := c.more
  unfold exB at e
  simp only [Bool.and_eq_true] at e
  exact e.2
end
abbrev N_is_tuple_of : List Str := ["value", "least", "most"]
theorem sc_is_tuple_of : FnScope N_is_tuple_of ["value", "least", "most"] (defScope s_is_tuple_of) := ⟨rfl, rfl, rfl, by decide +kernel, rfl, by decide +kernel, by decide +kernel⟩
abbrev N_is_below : List Str := ["value", "limit"]
theorem sc_is_below : FnScope N_is_below ["value", "limit"] (defScope s_is_below) := ⟨rfl, rfl, rfl, by decide +kernel, rfl, by decide +kernel, by decide +kernel⟩
abbrev N_are_rising_boxes : List Str := ["value", "box", "low", "high"]
theorem sc_are_rising_boxes : FnScope N_are_rising_boxes ["value"] (defScope s_are_rising_boxes) := ⟨rfl, rfl, rfl, by decide +kernel, rfl, by decide +kernel, by decide +kernel⟩
abbrev N_is_house : List Str := ["house", "ins", "out", "kept", "box"]
theorem sc_is_house : FnScope N_is_house ["house"] (defScope s_is_house) := ⟨rfl, rfl, rfl, by decide +kernel, rfl, by decide +kernel, by decide +kernel⟩
abbrev N_check_houses : List Str := ["houses", "number", "house"]
theorem sc_check_houses : FnScope N_check_houses ["houses"] (defScope s_check_houses) := ⟨rfl, rfl, rfl, by decide +kernel, rfl, by decide +kernel, by decide +kernel⟩
abbrev N_is_row : List Str := ["row", "limits", "places", "value", "place"]
theorem sc_is_row : FnScope N_is_row ["row", "limits"] (defScope s_is_row) := ⟨rfl, rfl, rfl, by decide +kernel, rfl, by decide +kernel, by decide +kernel⟩
abbrev N_check_rows : List Str := ["rows", "number", "many_routines", "limits", "at", "row"]
theorem sc_check_rows : FnScope N_check_rows ["rows", "number", "many_routines"] (defScope s_check_rows) := ⟨rfl, rfl, rfl, by decide +kernel, rfl, by decide +kernel, by decide +kernel⟩
abbrev N_check_routines : List Str := ["routines", "many_houses", "number", "routine", "house", "rows"]
theorem sc_check_routines : FnScope N_check_routines ["routines", "many_houses"] (defScope s_check_routines) := ⟨rfl, rfl, rfl, by decide +kernel, rfl, by decide +kernel, by decide +kernel⟩
abbrev N_check_program : List Str := ["program", "houses", "routines"]
theorem sc_check_program : FnScope N_check_program ["program"] (defScope s_check_program) := ⟨rfl, rfl, rfl, by decide +kernel, rfl, by decide +kernel, by decide +kernel⟩
abbrev N_boxes_word : List Str := ["boxes", "box"]
theorem sc_boxes_word : FnScope N_boxes_word ["boxes"] (defScope s_boxes_word) := ⟨rfl, rfl, rfl, by decide +kernel, rfl, by decide +kernel, by decide +kernel⟩
abbrev N_house_line : List Str := ["house", "ins", "out", "kept"]
theorem sc_house_line : FnScope N_house_line ["house"] (defScope s_house_line) := ⟨rfl, rfl, rfl, by decide +kernel, rfl, by decide +kernel, by decide +kernel⟩
abbrev N_routine_lines : List Str := ["routine", "house", "rows", "row", "part"]
theorem sc_routine_lines : FnScope N_routine_lines ["routine"] (defScope s_routine_lines) := ⟨rfl, rfl, rfl, by decide +kernel, rfl, by decide +kernel, by decide +kernel⟩
abbrev N_written : List Str := ["program", "houses", "routines", "lines", "house", "routine"]
theorem sc_written : FnScope N_written ["program"] (defScope s_written) := ⟨rfl, rfl, rfl, by decide +kernel, rfl, by decide +kernel, by decide +kernel⟩
abbrev N_are_figures : List Str := ["word", "sign"]
theorem sc_are_figures : FnScope N_are_figures ["word"] (defScope s_are_figures) := ⟨rfl, rfl, rfl, by decide +kernel, rfl, by decide +kernel, by decide +kernel⟩
abbrev N_is_number_word : List Str := ["word"]
theorem sc_is_number_word : FnScope N_is_number_word ["word"] (defScope s_is_number_word) := ⟨rfl, rfl, rfl, by decide +kernel, rfl, by decide +kernel, by decide +kernel⟩
abbrev N_is_boxes_word : List Str := ["word"]
theorem sc_is_boxes_word : FnScope N_is_boxes_word ["word"] (defScope s_is_boxes_word) := ⟨rfl, rfl, rfl, by decide +kernel, rfl, by decide +kernel, by decide +kernel⟩
abbrev N_is_house_line : List Str := ["words"]
theorem sc_is_house_line : FnScope N_is_house_line ["words"] (defScope s_is_house_line) := ⟨rfl, rfl, rfl, by decide +kernel, rfl, by decide +kernel, by decide +kernel⟩
abbrev N_is_routine_line : List Str := ["words"]
theorem sc_is_routine_line : FnScope N_is_routine_line ["words"] (defScope s_is_routine_line) := ⟨rfl, rfl, rfl, by decide +kernel, rfl, by decide +kernel, by decide +kernel⟩
abbrev N_is_row_line : List Str := ["words", "places", "word"]
theorem sc_is_row_line : FnScope N_is_row_line ["words"] (defScope s_is_row_line) := ⟨rfl, rfl, rfl, by decide +kernel, rfl, by decide +kernel, by decide +kernel⟩
abbrev N_boxes_read : List Str := ["word", "figure"]
theorem sc_boxes_read : FnScope N_boxes_read ["word"] (defScope s_boxes_read) := ⟨rfl, rfl, rfl, by decide +kernel, rfl, by decide +kernel, by decide +kernel⟩
abbrev N_house_read : List Str := ["words"]
theorem sc_house_read : FnScope N_house_read ["words"] (defScope s_house_read) := ⟨rfl, rfl, rfl, by decide +kernel, rfl, by decide +kernel, by decide +kernel⟩
abbrev N_row_read : List Str := ["words", "word"]
theorem sc_row_read : FnScope N_row_read ["words"] (defScope s_row_read) := ⟨rfl, rfl, rfl, by decide +kernel, rfl, by decide +kernel, by decide +kernel⟩
abbrev N_read : List Str := ["text", "houses", "routines", "number", "line", "words", "_", "rows", "program", "house"]
theorem sc_read : FnScope N_read ["text"] (defScope s_read) := ⟨rfl, rfl, rfl, by decide +kernel, rfl, by decide +kernel, by decide +kernel⟩
abbrev N_mix : List Str := ["_law_script", "_law_seed", "_law_mixed", "_law_cell"]
theorem sc_mix : FnScope N_mix ["_law_script", "_law_seed"] (defScope s_mix) := ⟨rfl, rfl, rfl, by decide +kernel, rfl, by decide +kernel, by decide +kernel⟩
abbrev N_next : List Str := ["_law_h", "_law_many", "_law_at", "_law_cell"]
theorem sc_next : FnScope N_next ["_law_h", "_law_many"] (defScope s_next) := ⟨rfl, rfl, rfl, by decide +kernel, rfl, by decide +kernel, by decide +kernel⟩
abbrev N_alike : List Str := ["_law_found", "_law_due", "_law_k"]
theorem sc_alike : FnScope N_alike ["_law_found", "_law_due"] (defScope s_alike) := ⟨rfl, rfl, rfl, by decide +kernel, rfl, by decide +kernel, by decide +kernel⟩
abbrev N_house : List Str := ["_law_h", "_law_few", "_law_sorts", "_law_box", "_law_out", "_law_ins"]
theorem sc_house : FnScope N_house ["_law_h"] (defScope s_house) := ⟨rfl, rfl, rfl, by decide +kernel, rfl, by decide +kernel, by decide +kernel⟩
abbrev N_number : List Str := ["_law_h"]
theorem sc_number : FnScope N_number ["_law_h"] (defScope s_number) := ⟨rfl, rfl, rfl, by decide +kernel, rfl, by decide +kernel, by decide +kernel⟩
abbrev N_simple : List Str := ["_law_h", "_law_e", "_law_good", "_law_box", "_law_goal", "_law_turn", "_law_row", "_law_some", "_law_one", "_law_other"]
theorem sc_simple : FnScope N_simple ["_law_h", "_law_e"] (defScope s_simple) := ⟨rfl, rfl, rfl, by decide +kernel, rfl, by decide +kernel, by decide +kernel⟩
abbrev N_calling : List Str := ["_law_h", "_law_e", "_law_called", "_law_ins", "_law_out", "_law_kept_here", "_law_fixed", "_law_box", "_law_some", "_law_saved"]
theorem sc_calling : FnScope N_calling ["_law_h", "_law_e"] (defScope s_calling) := ⟨rfl, rfl, rfl, by decide +kernel, rfl, by decide +kernel, by decide +kernel⟩
abbrev N_zeroed : List Str := ["_law_h", "_law_e", "_law_good", "_law_box", "_law_test", "_law_place", "_law_before", "_law_k"]
theorem sc_zeroed : FnScope N_zeroed ["_law_h", "_law_e"] (defScope s_zeroed) := ⟨rfl, rfl, rfl, by decide +kernel, rfl, by decide +kernel, by decide +kernel⟩
abbrev N_kept : List Str := ["_law_h", "_law_houses", "_law_owners", "_law_number_here", "_law_most", "_law_ins", "_law_out", "_law_kept_here", "_law_saved", "_law_box", "_law_e", "_law_k", "_law_turn", "_law_rows"]
theorem sc_kept : FnScope N_kept ["_law_h", "_law_houses", "_law_owners", "_law_number_here", "_law_most"] (defScope s_kept) := ⟨rfl, rfl, rfl, by decide +kernel, rfl, by decide +kernel, by decide +kernel⟩
abbrev N_program : List Str := ["_law_h", "_law_most", "_law_houses", "_law_k", "_law_owners", "_law_size", "_law_number_here"]
theorem sc_program : FnScope N_program ["_law_h", "_law_most"] (defScope s_program) := ⟨rfl, rfl, rfl, by decide +kernel, rfl, by decide +kernel, by decide +kernel⟩
abbrev N_wild_row : List Str := ["_law_h", "_law_rows", "_law_routines", "_law_word", "_law_some", "_law_k"]
theorem sc_wild_row : FnScope N_wild_row ["_law_h", "_law_rows", "_law_routines"] (defScope s_wild_row) := ⟨rfl, rfl, rfl, by decide +kernel, rfl, by decide +kernel, by decide +kernel⟩
abbrev N_odd : List Str := ["_law_h", "_law_program_here", "_law_turns", "_law_houses", "_law_routines", "_law_turn", "_law_k", "_law_house_here", "_law_rows", "_law_at", "_law_row", "_law_sort", "_law_some", "_law_many", "_law_one"]
theorem sc_odd : FnScope N_odd ["_law_h", "_law_program_here", "_law_turns"] (defScope s_odd) := ⟨rfl, rfl, rfl, by decide +kernel, rfl, by decide +kernel, by decide +kernel⟩
abbrev N_wild : List Str := ["_law_h", "_law_most", "_law_houses", "_law_k", "_law_many", "_law_found", "_law_rows", "_law_some", "_law_row"]
theorem sc_wild : FnScope N_wild ["_law_h", "_law_most"] (defScope s_wild) := ⟨rfl, rfl, rfl, by decide +kernel, rfl, by decide +kernel, by decide +kernel⟩
abbrev N_any : List Str := ["_law_h", "_law_turn", "_law_program_here"]
theorem sc_any : FnScope N_any ["_law_h"] (defScope s_any) := ⟨rfl, rfl, rfl, by decide +kernel, rfl, by decide +kernel, by decide +kernel⟩
abbrev N_forms : List Str := ["_law_forms_here"]
theorem sc_forms : FnScope N_forms [] (defScope s_forms) := ⟨rfl, rfl, rfl, by decide +kernel, rfl, by decide +kernel, by decide +kernel⟩
abbrev N_figures : List Str := ["_law_word", "_law_sign"]
theorem sc_figures : FnScope N_figures ["_law_word"] (defScope s_figures) := ⟨rfl, rfl, rfl, by decide +kernel, rfl, by decide +kernel, by decide +kernel⟩
abbrev N_boxes : List Str := ["_law_word", "_law_sign"]
theorem sc_boxes : FnScope N_boxes ["_law_word"] (defScope s_boxes) := ⟨rfl, rfl, rfl, by decide +kernel, rfl, by decide +kernel, by decide +kernel⟩
abbrev N_line : List Str := ["_law_words", "_law_is_behind", "_law_good", "_law_many", "_law_word"]
theorem sc_line : FnScope N_line ["_law_words", "_law_is_behind"] (defScope s_line) := ⟨rfl, rfl, rfl, by decide +kernel, rfl, by decide +kernel, by decide +kernel⟩
abbrev N_made : List Str := ["_law_lines", "_law_houses", "_law_routines", "_law_line_here", "_law_words", "_law_ins", "_law_kept_here", "_law_house_here", "_law_rows", "_law_word", "_law_sign"]
theorem sc_made : FnScope N_made ["_law_lines"] (defScope s_made) := ⟨rfl, rfl, rfl, by decide +kernel, rfl, by decide +kernel, by decide +kernel⟩
abbrev N_spoilt : List Str := ["_law_h", "_law_text", "_law_turn", "_law_at", "_law_signs", "_law_sign", "_law_lines", "_law_k", "_law_words", "_law_j", "_law_odd_here"]
theorem sc_spoilt : FnScope N_spoilt ["_law_h", "_law_text"] (defScope s_spoilt) := ⟨rfl, rfl, rfl, by decide +kernel, rfl, by decide +kernel, by decide +kernel⟩
abbrev N_law : List Str := ["_law_script", "_law_h", "_law_some", "_law_turn", "_law_text", "_law_change", "_law_one", "_law_lines", "_law_heads", "_law_bad", "_law_due", "_law_k"]
theorem sc_law : FnScope N_law ["_law_script"] (defScope s_law) := ⟨rfl, rfl, rfl, by decide +kernel, rfl, by decide +kernel, by decide +kernel⟩
abbrev N_kind : List Str := ["_law_work", "_law_e", "_law_kinds", "_law_words"]
theorem sc_kind : FnScope N_kind ["_law_work"] (defScope s_kind) := ⟨rfl, rfl, rfl, by decide +kernel, rfl, by decide +kernel, by decide +kernel⟩
theorem kind_givesF {X : Cx} {g : Addr} {cdg : Value} {q : Str} (hmP : X.mg "PactError" = some (.ref (He.ga X.K "PactError"))) (hmc : ∀ (m : Nat) (c : Str), kindNames[m]? = some c → X.mg c = some (.ref (He.ga X.K c))) (hmi : X.mg "isinstance" = none) (hmv : X.mg "ValueError" = none)
    (hu : ∀ s : Shared, (X.A.deeper (envOfC "_law_kind" (defScope s_kind) s.heap.objs.size g cdg)).units + 1 < cLine) :
    LamX.GivesTo X N_kind "_law_kind" (defScope s_kind) g cdg (defBody s_kind) "_law_work" q (TKindF X.K) := by
  intro f c' s H Q tl act hc h
  refine ⟨_, pss_cons (ps_try_as (X := (cxOf C8.CX0 X.prog X.w X.K X.mg X.base N_kind "_law_kind" (defScope s_kind) g cdg X.A X.stack s H C8.E0).nox) (i := 1) (n := "_law_e") (c := .ref (He.ga X.K "PactError")) (Wout := fun _ _ _ _ => False)
    (tb := fun W D σ H => ∃ Ech : XK, (∀ cls d σ' H', Ech cls d H' → W cls d σ' H') ∧ σ[0]? = some (some (.ref f)) ∧ H c' = some (LamX.CodeO c' q) ∧ tl Ech H fun _ H' => D.nx σ H')
    (ts := fun a cls d D σ H => (∃ σ0 : L2.St, σ = σ0.set 1 (some (.ref a))) ∧ wKindF X.K D.rt cls d H)
    rfl rfl sc_kind.nd rfl rfl ⟨rfl, by decide, .inl hmP⟩ LamX.takes0 (fun W pn xe tk _ => ?_) (fun a oe cls d pn hz hf => ?_)) (pss_one (ps_ret pe_str)), ?_⟩
  · refine ⟨fun pins s' σ H' D I h' => ?_⟩
    obtain ⟨Ech, hW, h1, h2, h3⟩ := h'
    exact (pss_one (ps_expr (act W pn xe Ech _ _ tk hW))).run pins s' σ H' D I ⟨h1, h2, h3⟩
  · refine ⟨fun pins s' σ H' D I h' => ?_⟩
    obtain ⟨⟨σ0, rfl⟩, h'⟩ := h'
    have hl : (σ0.set 1 (some (V.ref a))).length = 4 := I.len
    rw [List.length_set] at hl
    rcases h' with ⟨C, j, w, rfl, rfl, hw, hj, kc, h2⟩ | ⟨C, dd, gs, v1, v2, v3, rfl, rfl, hx, kc, xf, no, l1, l2, l3, h2⟩ | ⟨C, dd, gs, v1, rfl, rfl, hx, kc, xf, no, l1, h2⟩
    · have E : ∀ {m : Nat} {c : Str} {p p1 p2 pos : Pos}, kindNames[m]? = some c → Gl (cxOf C8.CX0 X.prog X.w X.K X.mg X.base N_kind "_law_kind" (defScope s_kind) g cdg X.A X.stack s H C8.E0).nox c → (c == ("__debug__" : Str)) = false →
          PE ((cxOf C8.CX0 X.prog X.w X.K X.mg X.base N_kind "_law_kind" (defScope s_kind) g cdg X.A X.stack s H C8.E0).nox.suite a ((a, oe) :: pn)) (.Call (.Name "isinstance" p) [.Name "_law_e" p1, .Name c p2] [] pos) (tIsE a 1 (decide (m = j))) := fun {m c p p1 p2 pos} hc hg hd =>
        pe_isE kc.ex hz hf rfl hmi rfl (.inl rfl) hg (hmc m c hc) (kc.is_ m c hc) (by decide) (by decide) hd
      refine (pss_cons (st_newL (ik := 2) (isa_cons (E (m := 0) rfl rfl (by decide)) (isa_cons (E (m := 1) rfl rfl (by decide)) (isa_cons (E (m := 2) rfl rfl (by decide)) (isa_cons (E (m := 3) rfl rfl (by decide)) isa_nil)))) (Nat.le_of_ble_eq_true rfl) sc_kind.nd rfl (.inl rfl) (.inl rfl))
        (pss_cons (st_moreL (ik := 2) (isa_cons (E (m := 4) rfl rfl (by decide)) (isa_cons (E (m := 5) rfl rfl (by decide)) (isa_cons (E (m := 6) rfl rfl (by decide)) isa_nil))) (Nat.le_of_ble_eq_true rfl) sc_kind.nd rfl (.inl rfl) (.inl rfl) (.inl rfl))
        (pss_cons (st_moreL (ik := 2) (isa_cons (E (m := 7) rfl rfl (by decide)) (isa_cons (E (m := 8) rfl rfl (by decide)) (isa_cons (E (m := 9) rfl rfl (by decide)) isa_nil))) (Nat.le_of_ble_eq_true rfl) sc_kind.nd rfl (.inl rfl) (.inl rfl) (.inl rfl))
        (pss_cons (ps_if (pt_kinds (ik := 2) (.inl rfl) rfl (pt_val (pe_isV (ie := 1) kc.ex hz hf rfl hmi rfl (.inl rfl) rfl hmv kc.ve))) (pss_one (ps_ret pe_str)) pss_nil)
        (pss_cons (ps_no (ik := 2) (hu s) (.inl rfl) rfl)
        (pss_cons (ps_no (ik := 2) (hu s) (.inl rfl) rfl)
        (pss_cons (st_words (iw := 3) (ws_cons (ws_cons (ws_cons (ws_cons (ws_cons (ws_cons (ws_cons (ws_cons (ws_cons ws_nil))))))))) (by decide) sc_kind.nd rfl (.inl rfl) (.inl rfl))
        (pss_one (ps_word (ik := 2) (iw := 3) (.inl rfl) rfl (.inl rfl) rfl))))))))).run pins s' _ H' D I ?_
      have hj9 : j < 9 := (List.getElem?_eq_some_iff.mp hw).1
      have hj8 : j = 1 ∨ j = 2 ∨ j = 3 ∨ j = 4 ∨ j = 5 ∨ j = 6 ∨ j = 7 ∨ j = 8 := by omega
      match σ0, hl with
      | [x0, x1, x2, x3], _ =>
      dsimp only [tSeq, tNewL, tMoreL, tIfS, tRet, tNext]
      rcases hj8 with rfl | rfl | rfl | rfl | rfl | rfl | rfl | rfl
      all_goals
        refine ⟨rfl, fun p1 n1 => ⟨rfl, p1, _, rfl, upd_same, Nat.le_of_ble_eq_true rfl, fun q2 p2 n2 n3 => ⟨rfl, p2, _, rfl, upd_same, Nat.le_of_ble_eq_true rfl, fun q3 p3 n4 n5 => ⟨p3, _, rfl, upd_same, rfl, ?_⟩⟩⟩⟩
        refine ⟨p3, _, 0, rfl, upd_same, rfl, rfl, p3, _, 9, rfl, upd_same, rfl, rfl, fun p4 n6 => ?_⟩
        refine ⟨p3, p4, _, kindWords, _, w, rfl, by rw [upd_ne (ne_of_none upd_same n6)]; exact upd_same, rfl, upd_same, ?_, ?_, hw, h2 _ ?_⟩
        · rfl
        · decide
        · exact (((((Keeps.new (fun _ _ e => e) n1).new n2).new n3).new n4).new n5).new n6
    · have E : ∀ {m : Nat} {c : Str} {p p1 p2 pos : Pos}, kindNames[m]? = some c → Gl (cxOf C8.CX0 X.prog X.w X.K X.mg X.base N_kind "_law_kind" (defScope s_kind) g cdg X.A X.stack s H C8.E0).nox c → (c == ("__debug__" : Str)) = false →
          PE ((cxOf C8.CX0 X.prog X.w X.K X.mg X.base N_kind "_law_kind" (defScope s_kind) g cdg X.A X.stack s H C8.E0).nox.suite a ((a, oe) :: pn)) (.Call (.Name "isinstance" p) [.Name "_law_e" p1, .Name c p2] [] pos) (tIdE a 1 dd (decide (m = 0))) := fun {m c p p1 p2 pos} hc hg hd =>
        pe_isD kc.ex hz hf rfl hmi rfl (.inl rfl) hg (hmc m c hc) (kc.is_ m c hc) (by decide) (by decide) hd
      refine (pss_cons (st_newD (ik := 2) (isd_cons (E (m := 0) rfl rfl (by decide)) (isd_cons (E (m := 1) rfl rfl (by decide)) (isd_cons (E (m := 2) rfl rfl (by decide)) (isd_cons (E (m := 3) rfl rfl (by decide)) isd_nil)))) (Nat.le_of_ble_eq_true rfl) sc_kind.nd rfl (.inl rfl) (.inl rfl))
        (pss_cons (st_moreD (ik := 2) (isd_cons (E (m := 4) rfl rfl (by decide)) (isd_cons (E (m := 5) rfl rfl (by decide)) (isd_cons (E (m := 6) rfl rfl (by decide)) isd_nil))) (Nat.le_of_ble_eq_true rfl) sc_kind.nd rfl (.inl rfl) (.inl rfl) (.inl rfl))
        (pss_cons (st_moreD (ik := 2) (isd_cons (E (m := 7) rfl rfl (by decide)) (isd_cons (E (m := 8) rfl rfl (by decide)) (isd_cons (E (m := 9) rfl rfl (by decide)) isd_nil))) (Nat.le_of_ble_eq_true rfl) sc_kind.nd rfl (.inl rfl) (.inl rfl) (.inl rfl))
        (pss_cons (ps_if (pt_kindsD (ik := 2) (.inl rfl) rfl (pt_val (pe_isDV (ie := 1) kc.ex hz hf rfl hmi rfl (.inl rfl) rfl hmv kc.ve))) (pss_one (ps_ret pe_str)) pss_nil)
        (pss_cons (ps_yes (ik := 2) (pss_one (ps_ret (pe_tup (pa_cons pe_str (pa_cons (pe_fldE (ie := 1) xf (no _ (by decide)) hz hf rfl (.inl rfl)) (pa_cons (pe_fldE (ie := 1) xf (no _ (by decide)) hz hf rfl (.inl rfl)) (pa_cons (pe_fldE (ie := 1) xf (no _ (by decide)) hz hf rfl (.inl rfl)) pa_nil))))))) (.inl rfl) rfl)
        pss_never))))).run pins s' _ H' D I ?_
      match σ0, hl with
      | [x0, x1, x2, x3], _ =>
      refine ⟨rfl, ⟨gs, hx⟩, fun p1 n1 => ?_⟩
      have k1 := Keeps.new (fun _ _ e => e) n1 (o := HO.lst (List.map V.bl [true, false, false, false]))
      refine ⟨rfl, ⟨gs, k1 _ _ hx⟩, p1, _, rfl, upd_same, Nat.le_of_ble_eq_true rfl, fun q2 p2 n2 n3 => ?_⟩
      have k2 := (k1.new n2).new n3 (o := HO.lst (List.map V.bl ([true, false, false, false] ++ [false, false, false])))
      refine ⟨rfl, ⟨gs, k2 _ _ hx⟩, p2, _, rfl, upd_same, Nat.le_of_ble_eq_true rfl, fun q3 p3 n4 n5 => ?_⟩
      have k3 := (k2.new n4).new n5 (o := HO.lst (List.map V.bl (([true, false, false, false] ++ [false, false, false]) ++ [false, false, false])))
      refine ⟨p3, _, rfl, upd_same, rfl, ⟨gs, k3 _ _ hx⟩, ?_⟩
      refine ⟨p3, _, 0, rfl, upd_same, rfl, rfl, ?_⟩
      exact ⟨rfl, gs, v1, k3 _ _ hx, l1, rfl, gs, v2, k3 _ _ hx, l2, rfl, gs, v3, k3 _ _ hx, l3, by rw [sizeLine_eq]; exact Nat.le_of_ble_eq_true rfl, fun p hp => h2 _ k3 p hp⟩
    · have E : ∀ {m : Nat} {c : Str} {p p1 p2 pos : Pos}, kindNames[m]? = some c → Gl (cxOf C8.CX0 X.prog X.w X.K X.mg X.base N_kind "_law_kind" (defScope s_kind) g cdg X.A X.stack s H C8.E0).nox c → (c == ("__debug__" : Str)) = false →
          PE ((cxOf C8.CX0 X.prog X.w X.K X.mg X.base N_kind "_law_kind" (defScope s_kind) g cdg X.A X.stack s H C8.E0).nox.suite a ((a, oe) :: pn)) (.Call (.Name "isinstance" p) [.Name "_law_e" p1, .Name c p2] [] pos) (tIdE a 1 dd (decide (m = 9))) := fun {m c p p1 p2 pos} hc hg hd =>
        pe_isD kc.ex hz hf rfl hmi rfl (.inl rfl) hg (hmc m c hc) (kc.is_ m c hc) (by decide) (by decide) hd
      refine (pss_cons (st_newD (ik := 2) (isd_cons (E (m := 0) rfl rfl (by decide)) (isd_cons (E (m := 1) rfl rfl (by decide)) (isd_cons (E (m := 2) rfl rfl (by decide)) (isd_cons (E (m := 3) rfl rfl (by decide)) isd_nil)))) (Nat.le_of_ble_eq_true rfl) sc_kind.nd rfl (.inl rfl) (.inl rfl))
        (pss_cons (st_moreD (ik := 2) (isd_cons (E (m := 4) rfl rfl (by decide)) (isd_cons (E (m := 5) rfl rfl (by decide)) (isd_cons (E (m := 6) rfl rfl (by decide)) isd_nil))) (Nat.le_of_ble_eq_true rfl) sc_kind.nd rfl (.inl rfl) (.inl rfl) (.inl rfl))
        (pss_cons (st_moreD (ik := 2) (isd_cons (E (m := 7) rfl rfl (by decide)) (isd_cons (E (m := 8) rfl rfl (by decide)) (isd_cons (E (m := 9) rfl rfl (by decide)) isd_nil))) (Nat.le_of_ble_eq_true rfl) sc_kind.nd rfl (.inl rfl) (.inl rfl) (.inl rfl))
        (pss_cons (ps_if (pt_kindsD (ik := 2) (.inl rfl) rfl (pt_val (pe_isDV (ie := 1) kc.ex hz hf rfl hmi rfl (.inl rfl) rfl hmv kc.ve))) (pss_one (ps_ret pe_str)) pss_nil)
        (pss_cons (ps_no (ik := 2) (hu s) (.inl rfl) rfl)
        (pss_cons (ps_yes (ik := 2) (pss_one (ps_ret (pe_tup (pa_cons pe_str (pa_cons (pe_fldE (ie := 1) xf no hz hf rfl (.inl rfl)) pa_nil))))) (.inl rfl) rfl)
        pss_never)))))).run pins s' _ H' D I ?_
      match σ0, hl with
      | [x0, x1, x2, x3], _ =>
      refine ⟨rfl, ⟨gs, hx⟩, fun p1 n1 => ?_⟩
      have k1 := Keeps.new (fun _ _ e => e) n1 (o := HO.lst (List.map V.bl [false, false, false, false]))
      refine ⟨rfl, ⟨gs, k1 _ _ hx⟩, p1, _, rfl, upd_same, Nat.le_of_ble_eq_true rfl, fun q2 p2 n2 n3 => ?_⟩
      have k2 := (k1.new n2).new n3 (o := HO.lst (List.map V.bl ([false, false, false, false] ++ [false, false, false])))
      refine ⟨rfl, ⟨gs, k2 _ _ hx⟩, p2, _, rfl, upd_same, Nat.le_of_ble_eq_true rfl, fun q3 p3 n4 n5 => ?_⟩
      have k3 := (k2.new n4).new n5 (o := HO.lst (List.map V.bl (([false, false, false, false] ++ [false, false, false]) ++ [false, false, true])))
      refine ⟨p3, _, rfl, upd_same, rfl, ⟨gs, k3 _ _ hx⟩, ?_⟩
      refine ⟨p3, _, 0, rfl, upd_same, rfl, rfl, ?_⟩
      refine ⟨p3, _, 9, rfl, upd_same, rfl, rfl, ?_⟩
      exact ⟨rfl, gs, v1, k3 _ _ hx, l1, by rw [sizeLine_eq]; exact Nat.le_of_ble_eq_true rfl, fun p hp => h2 _ k3 p hp⟩
  · refine ⟨wKindF X.K Q, fun cls d σ' H' h' => ?_, rfl, hc, h⟩
    have pa : PySem.W.exmOne X.K cls (.ref (He.ga X.K "PactError")) = some true := by
      rcases h' with ⟨C, j, w, rfl, rfl, hw, hj, kc, h2⟩ | ⟨C, dd, gs, v1, v2, v3, rfl, rfl, hx, kc, _⟩ | ⟨C, dd, gs, v1, rfl, rfl, hx, kc, _⟩
      · exact kc.pa
      · exact kc.pa
      · exact kc.pa
    exact ⟨true, pa, fun _ a na => ⟨⟨σ', rfl⟩, h'⟩, fun z => nomatch z⟩
theorem i_kindF {X : Cx} {E : XK} {c P : Addr} {k : Nat} {params : Arguments} {body : Expr} {scope : Scope} {mb : XE} {p lpos pos : Pos}
    (F : ∃ fd, FunD X.K "_law_kind" "_law_kind" (defArgs s_kind) (defBody s_kind) (defScope s_kind) [] [] (He.ga X.K "_law_kind") fd) (hg : Gl X "_law_kind") (hm : X.mg "_law_kind" = some (.ref (He.ga X.K "_law_kind")))
    (hmP : X.mg "PactError" = some (.ref (He.ga X.K "PactError"))) (hmc : ∀ (m : Nat) (c : Str), kindNames[m]? = some c → X.mg c = some (.ref (He.ga X.K c))) (hmi : X.mg "isinstance" = none) (hmv : X.mg "ValueError" = none)
    (hxc : ∀ (j : Nat) (w : Str), kindWords[j]? = some w → j ≠ 0 → xc w = some (.ref (He.ga X.K w)) ∧ KindC X.K (He.ga X.K w) j)
    (xP : xc "BadProgram" = some (.ref (He.ga X.K "BadProgram"))) (xT : xc "BadText" = some (.ref (He.ga X.K "BadText"))) (cP : FldC X.K "BadProgram" 0 ["word", "number", "row"]) (cT : FldC X.K "BadText" 9 ["line"])
    (TB : LamX.TabB X.base X.mg c P) (hcode : X.env.code = .ref c) (hmT : (P, X.env.qual ++ "<lambda>") ∈ KT X.K) (hu : ∀ p ∈ KT X.K, p.1 = P → p.2 = X.env.qual ++ "<lambda>") (hr : Room (k + 2) X.A) (L : LamX.LamS X.env.scope scope) (hdef : defaultsOf params X.env = ([], []))
    (hbind : ∀ (q : Str) (cl : List (Str × Addr)) (pm cv ctv : Value), bindArgs (PySem.W.kla_fn "<lambda>" q params body scope cl pm cv ctv) ⟨[], []⟩ = pure [])
    (hbody : ∀ (A : Around) (outer : List PySem.Env) (s : Shared) (H : Hp) (E : XK) (f c' : Addr), Room k (A.deeper (LamX.lamEnv X scope s.heap.objs.size f c')) → PE (LamX.lamCx X A outer s H E scope f c') body (tI ⟨X.K, xc, X.w⟩ E mb)) :
    PE X (.Call (.Name "_law_kind" p) [.Lambda params body scope lpos] [] pos) (tI ⟨X.K, xc, X.w⟩ E (eKindF mb)) := by
  obtain ⟨fd, F⟩ := F
  have hb : L2.Binds X.K fd ["_law_work"] [] := F.bindsN fun _ _ _ _ _ _ us hl => match us, hl with | [_], _ => rfl
  obtain ⟨oc, od, dV, kV, doc, pm, an, cdv, ct, osl, rfl, lk, hcd, _, _⟩ := F.ex
  refine (LamX.pe_lamcall (T := KT X.K) (TT := TKindF X.K) (t := fun E => tI ⟨X.K, xc, X.w⟩ E mb) hg hm F.kp lk hcd hb sc_kind rfl (.inl rfl) (kind_givesF hmP hmc hmi hmv fun s => hu_of (hr.deeper _)) TB hcode hmT hu hr L hdef hbind hbody).imp fun σ H Q h => kind_readF (G := ⟨X.K, xc, X.w⟩) hxc xP xT cP cT h
theorem i_kindTF {P : Program} {w : World} {K : PySem.W.Frag} {mg : Str → Option Value} {base : Heap} {N : List Str} {sc : Scope} {A : Around} {outer : List PySem.Env} {s : Shared} {H : Hp} {E E0 : XK} {k : Nat} {params : Arguments} {body : Expr} {scope : Scope} {mb : XE} {p lpos pos : Pos} (T : Top w K mg)
    (tb : LamX.TabB base mg (He.cT K ("law", none)).1 (He.cT K ("law", none)).2) (hr : Room (k + 2) (cxOf (L2.CX P w) P w K mg base N "law" sc (He.fAd K ("law", none)) (.ref (He.codeOf K ("law", none))) A outer s H E0).A)
    (hbody : ∀ (A1 : Around) (outer1 : List PySem.Env) (s1 : Shared) (H1 : Hp) (E : XK) (f c' : Addr), Room k (A1.deeper (LamX.lamEnv (cxOf (L2.CX P w) P w K mg base N "law" sc (He.fAd K ("law", none)) (.ref (He.codeOf K ("law", none))) A outer s H E0) scope s1.heap.objs.size f c')) → PE (LamX.lamCx (cxOf (L2.CX P w) P w K mg base N "law" sc (He.fAd K ("law", none)) (.ref (He.codeOf K ("law", none))) A outer s H E0) A1 outer1 s1 H1 E scope f c') body (tI ⟨K, xcK K, w⟩ E mb))
    (hg : Gl (cxOf (L2.CX P w) P w K mg base N "law" sc (He.fAd K ("law", none)) (.ref (He.codeOf K ("law", none))) A outer s H E0) "_law_kind" := by rfl) (L : LamX.LamS sc scope := by exact LamX.lamS_by (by decide +kernel))
    (hdef : defaultsOf params (cxOf (L2.CX P w) P w K mg base N "law" sc (He.fAd K ("law", none)) (.ref (He.codeOf K ("law", none))) A outer s H E0).env = ([], []) := by rfl)
    (hbind : ∀ (q : Str) (cl : List (Str × Addr)) (pm cv ctv : Value), bindArgs (PySem.W.kla_fn "<lambda>" q params body scope cl pm cv ctv) ⟨[], []⟩ = pure [] := by intros; rfl) :
    PE (cxOf (L2.CX P w) P w K mg base N "law" sc (He.fAd K ("law", none)) (.ref (He.codeOf K ("law", none))) A outer s H E0) (.Call (.Name "_law_kind" p) [.Lambda params body scope lpos] [] pos) (tI ⟨K, xcK K, w⟩ E (eKindF mb)) :=
  i_kindF (T.c.def_ 44 (d := d_kind) rfl) hg (t_glo__law_kind T) (t_glo_PactError T) (fun m c hc => by
    match m, hc with
    | 0, h => cases h; exact t_glo_BadProgram T
    | 1, h => cases h; exact t_glo_BadNumber T
    | 2, h => cases h; exact t_glo_TooMany T
    | 3, h => cases h; exact t_glo_NotLet T
    | 4, h => cases h; exact t_glo_BadStates T
    | 5, h => cases h; exact t_glo_BadGiven T
    | 6, h => cases h; exact t_glo_BadFuel T
    | 7, h => cases h; exact t_glo_BadNoise T
    | 8, h => cases h; exact t_glo_BadSaves T
    | 9, h => cases h; exact t_glo_BadText T
    | n + 10, h => cases h) (t_isinstance T) (t_ValueError T) (kindsB_ok (t_kinds T)) rfl rfl (fldsB_kP (t_flds T)) (fldsB_kT (t_flds T)) tb rfl (List.mem_singleton.mpr rfl) (fun p hp _ => by rw [List.mem_singleton.mp hp]; rfl) hr L hdef hbind hbody
section
variable {P : Program} {w : World} {K : PySem.W.Frag} {mg : Str → Option Value} {base : Heap} [pgI : PgOk P "/claim/cut.py"]
theorem ok_is_tuple_of (T : Top w K mg)  : Cl P w K mg base (xcK K) "is_tuple_of" ["value", "least", "most"] 1 (m_is_tuple_of) := by
  obtain ⟨fd, F⟩ := T.c.def_ 0 (d := d_is_tuple_of) rfl
  refine ⟨fd, def_PD (N := N_is_tuple_of) F sc_is_tuple_of (fun cdv A outer s H E hr => ?_), t_glo_is_tuple_of T, F.kp, F.bindsN fun _ _ _ _ _ _ us hl => match us, hl with | [_, _, _], _ => rfl, lkF F⟩
  exact s_one (s_ret (i_and (i_isa (t := .tuple) rfl (t_isinstance T) rfl (t_tuple T) rfl (iv 0)) (i_one (i_chain op_le sd_le op_le sd_le (iv 1) (i_bf call_lenU sd_len rfl (t_len T) rfl (i_cons (iv 0) (i_nil))) (iv 2)))))
theorem ok_is_below (T : Top w K mg)  : Cl P w K mg base (xcK K) "is_below" ["value", "limit"] 1 (m_is_below) := by
  obtain ⟨fd, F⟩ := T.c.def_ 1 (d := d_is_below) rfl
  refine ⟨fd, def_PD (N := N_is_below) F sc_is_below (fun cdv A outer s H E hr => ?_), t_glo_is_below T, F.kp, F.bindsN fun _ _ _ _ _ _ us hl => match us, hl with | [_, _], _ => rfl, lkF F⟩
  exact s_one (s_ret (i_and (i_isa (t := .int) rfl (t_isinstance T) rfl (t_int T) rfl (iv 0)) (i_and (i_not (i_isa (t := .bool) rfl (t_isinstance T) rfl (t_bool T) rfl (iv 0))) (i_one (i_chain op_le sd_le op_lt sd_lt (i_int) (iv 0) (iv 1))))))
theorem ok_are_rising_boxes (T : Top w K mg) (c_is_below : Cl P w K mg base (xcK K) "is_below" ["value", "limit"] 1 (m_is_below)) : Cl P w K mg base (xcK K) "are_rising_boxes" ["value"] 2 (m_are_rising_boxes) := by
  obtain ⟨fd, F⟩ := T.c.def_ 2 (d := d_are_rising_boxes) rfl
  refine ⟨fd, def_PD (N := N_are_rising_boxes) F sc_are_rising_boxes (fun cdv A outer s H E hr => ?_), t_glo_are_rising_boxes T, F.kp, F.bindsN fun _ _ _ _ _ _ us hl => match us, hl with | [_], _ => rfl, lkF F⟩
  exact s_seq (s_if (PW.pt (j_or (j_not (j_val (i_isa (t := .tuple) rfl (t_isinstance T) rfl (t_tuple T) rfl (iv 0)))) (j_or1 (j_not (j_val (i_bf (cr_all rfl) sd_all rfl (t_all T) rfl (i_cons (i_lc (own := [("box", 1)]) rfl sc_are_rising_boxes.nd (i_seq (iv 0)) (blkOk_by (own := [("box", 1)]) (N := N_are_rising_boxes) (sc := defScope s_are_rising_boxes) (by decide +kernel)) (fun _ _ _ _ _ => gn (i := 1) sc_are_rising_boxes.nd) (fun _ _ _ _ _ => ts_nil) (fun _ _ _ _ _ => i_callC c_is_below (hr.mono (by omega)) rfl (passes_call takes0 (fun _ _ _ _ h => h)) (i_cons (iv 1) (i_cons (i_gi (t_BOXES T)) (i_nil))))) (i_nil)))))))) (s_one (s_ret (i_bl))) (s_nil)) (s_one (s_ret (i_bf (cr_all rfl) sd_all rfl (t_all T) rfl (i_cons (i_lc (own := [("low", 2), ("high", 3)]) rfl sc_are_rising_boxes.nd (i_zip rfl (t_zip T) (iv 0) (i_cut (iv 0) (o_some (i_int)) (o_none))) (blkOk_by (own := [("low", 2), ("high", 3)]) (N := N_are_rising_boxes) (sc := defScope s_are_rising_boxes) (by decide +kernel)) (fun _ _ _ _ _ => g_tup rfl (gs_cons (gn (i := 2) sc_are_rising_boxes.nd) (gs_cons (gn (i := 3) sc_are_rising_boxes.nd) (gs_nil)))) (fun _ _ _ _ _ => ts_nil) (fun _ _ _ _ _ => i_cmp op_lt sd_lt (iv 2) (iv 3) (nomark _))) (i_nil)))))
theorem ok_is_house (T : Top w K mg) (c_are_rising_boxes : Cl P w K mg base (xcK K) "are_rising_boxes" ["value"] 2 (m_are_rising_boxes)) (c_is_below : Cl P w K mg base (xcK K) "is_below" ["value", "limit"] 1 (m_is_below)) (c_is_tuple_of : Cl P w K mg base (xcK K) "is_tuple_of" ["value", "least", "most"] 1 (m_is_tuple_of)) : Cl P w K mg base (xcK K) "is_house" ["house"] 3 (m_is_house) := by
  obtain ⟨fd, F⟩ := T.c.def_ 3 (d := d_is_house) rfl
  refine ⟨fd, def_PD (N := N_is_house) F sc_is_house (fun cdv A outer s H E hr => ?_), t_glo_is_house T, F.kp, F.bindsN fun _ _ _ _ _ _ us hl => match us, hl with | [_], _ => rfl, lkF F⟩
  exact s_seq (s_if (j_not (j_val (i_callC c_is_tuple_of (hr.mono (by omega)) rfl (passes_call (takes_of rfl rfl rfl rfl) (fun _ _ _ _ h => h)) (i_cons (iv 0) (i_cons (i_int) (i_cons (i_int) (i_nil))))))) (s_one (s_ret (i_bl))) (s_nil)) (s_seq (s_asg (iv 0) (g_tup rfl (gs_cons (gn (i := 1) sc_is_house.nd) (gs_cons (gn (i := 2) sc_is_house.nd) (gs_cons (gn (i := 3) sc_is_house.nd) (gs_nil)))))) (s_seq (s_if (PW.pt (j_or (j_not (j_val (i_callC c_are_rising_boxes (hr.mono (by omega)) rfl (passes_call (takes_of rfl rfl rfl rfl) (fun _ _ _ _ h => h)) (i_cons (iv 1) (i_nil))))) (j_or (j_not (j_val (i_callC c_is_below (hr.mono (by omega)) rfl (passes_call (takes_of rfl rfl rfl rfl) (fun _ _ _ _ h => h)) (i_cons (iv 2) (i_cons (i_gi (t_BOXES T)) (i_nil)))))) (j_or1 (j_not (j_val (i_callC c_are_rising_boxes (hr.mono (by omega)) rfl (passes_call (takes_of rfl rfl rfl rfl) (fun _ _ _ _ h => h)) (i_cons (iv 3) (i_nil))))))))) (s_one (s_ret (i_bl))) (s_nil)) (s_one (s_ret (i_not (i_bf (cr_any rfl) sd_any rfl (t_any T) rfl (i_cons (i_lc (own := [("box", 4)]) rfl sc_is_house.nd (i_seq (iv 3)) (blkOk_by (own := [("box", 4)]) (N := N_is_house) (sc := defScope s_is_house) (by decide +kernel)) (fun _ _ _ _ _ => gn (i := 4) sc_is_house.nd) (fun _ _ _ _ _ => ts_nil) (fun _ _ _ _ _ => i_or (i_cmp op_in_seq sd_in (iv 4) (iv 1) rfl) (i_one (i_cmp (op_eqD (hu64 hr)) sd_eq (iv 4) (iv 2) (nomark _))))) (i_nil))))))))
theorem ok_check_houses (T : Top w K mg) (c_is_house : Cl P w K mg base (xcK K) "is_house" ["house"] 3 (m_is_house)) (c_is_tuple_of : Cl P w K mg base (xcK K) "is_tuple_of" ["value", "least", "most"] 1 (m_is_tuple_of)) : Cl P w K mg base (xcK K) "check_houses" ["houses"] 4 (m_check_houses) := by
  obtain ⟨fd, F⟩ := T.c.def_ 4 (d := d_check_houses) rfl
  refine ⟨fd, def_PD (N := N_check_houses) F sc_check_houses (fun cdv A outer s H E hr => ?_), t_glo_check_houses T, F.kp, F.bindsN fun _ _ _ _ _ _ us hl => match us, hl with | [_], _ => rfl, lkF F⟩
  exact s_seq (s_if (j_not (j_val (i_callC c_is_tuple_of (hr.mono (by omega)) rfl (passes_call (takes_of rfl rfl rfl rfl) (fun _ _ _ _ h => h)) (i_cons (iv 0) (i_cons (i_int) (i_cons (i_gi (t_MOST_HOUSES T)) (i_nil))))))) (s_one (s_raiseP (pg := pgI) (t_flds T) (t_super T) (hr.mono (by omega)) rfl (takes_of rfl rfl rfl rfl) rfl (t_glo_BadProgram T) rfl rfl (i_cons (i_str) (i_cons (i_int) (i_cons (i_un un_neg sd_neg (i_int)) (i_nil)))))) (s_nil)) (s_one (s_for (passes_of rfl) rfl (i_enum rfl (t_enumerate T) (iv 0)) (g_tup rfl (gs_cons (gn (i := 1) sc_check_houses.nd) (gs_cons (gn (i := 2) sc_check_houses.nd) (gs_nil)))) (s_one (s_if (j_not (j_val (i_callC c_is_house (hr.mono (by omega)) rfl (passes_call (takes_of rfl rfl rfl rfl) (fun _ _ _ _ h => h)) (i_cons (iv 2) (i_nil))))) (s_one (s_raiseP (pg := pgI) (t_flds T) (t_super T) (hr.mono (by omega)) rfl (takes_of rfl rfl rfl rfl) rfl (t_glo_BadProgram T) rfl rfl (i_cons (i_str) (i_cons (iv 1) (i_cons (i_un un_neg sd_neg (i_int)) (i_nil)))))) (s_nil)))))
theorem ok_is_row (T : Top w K mg) (c_is_below : Cl P w K mg base (xcK K) "is_below" ["value", "limit"] 1 (m_is_below)) : Cl P w K mg base (xcK K) "is_row" ["row", "limits"] 2 (m_is_row) := by
  obtain ⟨fd, F⟩ := T.c.def_ 5 (d := d_is_row) rfl
  refine ⟨fd, def_PD (N := N_is_row) F sc_is_row (fun cdv A outer s H E hr => ?_), t_glo_is_row T, F.kp, F.bindsN fun _ _ _ _ _ _ us hl => match us, hl with | [_, _], _ => rfl, lkF F⟩
  exact s_seq (s_if (PW.pt (j_or (j_not (j_val (i_isa (t := .tuple) rfl (t_isinstance T) rfl (t_tuple T) rfl (iv 0)))) (j_or (j_cmp (op_eqD (hu64 hr)) sd_eq (i_bf call_lenU sd_len rfl (t_len T) rfl (i_cons (iv 0) (i_nil))) (i_int) (nomark _)) (j_or1 (j_not (j_val (i_isa (t := .str) rfl (t_isinstance T) rfl (t_str T) rfl (i_ix (hu_of hr) (iv 0) (i_int))))))))) (s_one (s_ret (i_bl))) (s_nil)) (s_seq (s_set (i := 2) sc_is_row.nd rfl (.inl rfl) (i_kgetT (t_PLACES T) rfl (i_ix (hu_of hr) (iv 0) (i_int)) (m1_of rfl rfl rfl))) (s_seq (s_if (PW.pt (j_or (j_cmp op_isNU sd_isN (iv 2) (i_non) (nomark _)) (j_or1 (j_cmp (op_neD (hu64 hr)) sd_ne (i_bf call_lenU sd_len rfl (t_len T) rfl (i_cons (iv 0) (i_nil))) (i_op op_addU sd_add (i_bf call_lenU sd_len rfl (t_len T) rfl (i_cons (iv 2) (i_nil))) (i_int)) (nomark _))))) (s_one (s_ret (i_bl))) (s_nil)) (s_one (s_ret (i_bf (cr_all rfl) sd_all rfl (t_all T) rfl (i_cons (i_lc (own := [("value", 3), ("place", 4)]) rfl sc_is_row.nd (i_zip rfl (t_zip T) (i_cut (iv 0) (o_some (i_int)) (o_none)) (iv 2)) (blkOk_by (own := [("value", 3), ("place", 4)]) (N := N_is_row) (sc := defScope s_is_row) (by decide +kernel)) (fun _ _ _ _ _ => g_tup rfl (gs_cons (gn (i := 3) sc_is_row.nd) (gs_cons (gn (i := 4) sc_is_row.nd) (gs_nil)))) (fun _ _ _ _ _ => ts_nil) (fun _ _ _ _ _ => i_callC c_is_below (hr.mono (by omega)) rfl (passes_call takes0 (fun _ _ _ _ h => h)) (i_cons (iv 3) (i_cons (i_ix (hu_of hr) (iv 1) (iv 4)) (i_nil))))) (i_nil)))))))
theorem ok_check_rows (T : Top w K mg) (c_is_row : Cl P w K mg base (xcK K) "is_row" ["row", "limits"] 2 (m_is_row)) : Cl P w K mg base (xcK K) "check_rows" ["rows", "number", "many_routines"] 3 (m_check_rows) := by
  obtain ⟨fd, F⟩ := T.c.def_ 6 (d := d_check_rows) rfl
  refine ⟨fd, def_PD (N := N_check_rows) F sc_check_rows (fun cdv A outer s H E hr => ?_), t_glo_check_rows T, F.kp, F.bindsN fun _ _ _ _ _ _ us hl => match us, hl with | [_, _, _], _ => rfl, lkF F⟩
  exact s_seq (s_set (i := 3) sc_check_rows.nd rfl (.inl rfl) (i_dks (d_cons (i_gi (t_BOXES T)) (d_cons (i_gi (t_NUMBERS T)) (d_cons (i_bf call_lenU sd_len rfl (t_len T) rfl (i_cons (iv 0) (i_nil))) (d_cons (iv 2) (d_nil))))))) (s_seq (s_for (passes_of rfl) rfl (i_enum rfl (t_enumerate T) (iv 0)) (g_tup rfl (gs_cons (gn (i := 4) sc_check_rows.nd) (gs_cons (gn (i := 5) sc_check_rows.nd) (gs_nil)))) (s_one (s_if (j_not (j_val (i_callC c_is_row (hr.mono (by omega)) rfl (passes_call (takes_of rfl rfl rfl rfl) (fun _ _ _ _ h => h)) (i_cons (iv 5) (i_cons (iv 3) (i_nil)))))) (s_one (s_raiseP (pg := pgI) (t_flds T) (t_super T) (hr.mono (by omega)) rfl (takes_of rfl rfl rfl rfl) rfl (t_glo_BadProgram T) rfl rfl (i_cons (i_str) (i_cons (iv 1) (i_cons (iv 4) (i_nil)))))) (s_nil)))) (s_one (s_if (j_cmp op_notIn_seq sd_notIn (i_ix (hu_of hr) (i_ix (hu_of hr) (iv 0) (i_un un_neg sd_neg (i_int))) (i_int)) (i_tup (i_cons (i_str) (i_cons (i_str) (i_nil)))) rfl) (s_one (s_raiseP (pg := pgI) (t_flds T) (t_super T) (hr.mono (by omega)) rfl (takes_of rfl rfl rfl rfl) rfl (t_glo_BadProgram T) rfl rfl (i_cons (i_str) (i_cons (iv 1) (i_cons (i_un un_neg sd_neg (i_int)) (i_nil)))))) (s_nil))))
theorem ok_check_routines (T : Top w K mg) (c_check_rows : Cl P w K mg base (xcK K) "check_rows" ["rows", "number", "many_routines"] 3 (m_check_rows)) (c_is_below : Cl P w K mg base (xcK K) "is_below" ["value", "limit"] 1 (m_is_below)) (c_is_tuple_of : Cl P w K mg base (xcK K) "is_tuple_of" ["value", "least", "most"] 1 (m_is_tuple_of)) : Cl P w K mg base (xcK K) "check_routines" ["routines", "many_houses"] 4 (m_check_routines) := by
  obtain ⟨fd, F⟩ := T.c.def_ 7 (d := d_check_routines) rfl
  refine ⟨fd, def_PD (N := N_check_routines) F sc_check_routines (fun cdv A outer s H E hr => ?_), t_glo_check_routines T, F.kp, F.bindsN fun _ _ _ _ _ _ us hl => match us, hl with | [_, _], _ => rfl, lkF F⟩
  exact s_seq (s_if (j_not (j_val (i_callC c_is_tuple_of (hr.mono (by omega)) rfl (passes_call (takes_of rfl rfl rfl rfl) (fun _ _ _ _ h => h)) (i_cons (iv 0) (i_cons (i_int) (i_cons (i_gi (t_MOST_ROUTINES T)) (i_nil))))))) (s_one (s_raiseP (pg := pgI) (t_flds T) (t_super T) (hr.mono (by omega)) rfl (takes_of rfl rfl rfl rfl) rfl (t_glo_BadProgram T) rfl rfl (i_cons (i_str) (i_cons (i_int) (i_cons (i_un un_neg sd_neg (i_int)) (i_nil)))))) (s_nil)) (s_one (s_for (passes_of rfl) rfl (i_enum rfl (t_enumerate T) (iv 0)) (g_tup rfl (gs_cons (gn (i := 2) sc_check_routines.nd) (gs_cons (gn (i := 3) sc_check_routines.nd) (gs_nil)))) (s_seq (s_if (j_not (j_val (i_callC c_is_tuple_of (hr.mono (by omega)) rfl (passes_call (takes_of rfl rfl rfl rfl) (fun _ _ _ _ h => h)) (i_cons (iv 3) (i_cons (i_int) (i_cons (i_int) (i_nil))))))) (s_one (s_raiseP (pg := pgI) (t_flds T) (t_super T) (hr.mono (by omega)) rfl (takes_of rfl rfl rfl rfl) rfl (t_glo_BadProgram T) rfl rfl (i_cons (i_str) (i_cons (iv 2) (i_cons (i_un un_neg sd_neg (i_int)) (i_nil)))))) (s_nil)) (s_seq (s_asg (iv 3) (g_tup rfl (gs_cons (gn (i := 4) sc_check_routines.nd) (gs_cons (gn (i := 5) sc_check_routines.nd) (gs_nil))))) (s_seq (s_if (PW.pt (j_or (j_not (j_val (i_callC c_is_below (hr.mono (by omega)) rfl (passes_call (takes_of rfl rfl rfl rfl) (fun _ _ _ _ h => h)) (i_cons (iv 4) (i_cons (iv 1) (i_nil)))))) (j_or1 (j_not (j_val (i_callC c_is_tuple_of (hr.mono (by omega)) rfl (passes_call (takes_of rfl rfl rfl rfl) (fun _ _ _ _ h => h)) (i_cons (iv 5) (i_cons (i_int) (i_cons (i_gi (t_MOST_ROWS T)) (i_nil)))))))))) (s_one (s_raiseP (pg := pgI) (t_flds T) (t_super T) (hr.mono (by omega)) rfl (takes_of rfl rfl rfl rfl) rfl (t_glo_BadProgram T) rfl rfl (i_cons (i_str) (i_cons (iv 2) (i_cons (i_un un_neg sd_neg (i_int)) (i_nil)))))) (s_nil)) (s_one (s_drop (i_callC c_check_rows (hr.mono (by omega)) rfl (passes_call (takes_of rfl rfl rfl rfl) (fun _ _ _ _ h => h)) (i_cons (iv 5) (i_cons (iv 2) (i_cons (i_bf call_lenU sd_len rfl (t_len T) rfl (i_cons (iv 0) (i_nil))) (i_nil))))))))))))
theorem ok_check_program (T : Top w K mg) (c_check_routines : Cl P w K mg base (xcK K) "check_routines" ["routines", "many_houses"] 4 (m_check_routines)) (c_check_houses : Cl P w K mg base (xcK K) "check_houses" ["houses"] 4 (m_check_houses)) (c_is_tuple_of : Cl P w K mg base (xcK K) "is_tuple_of" ["value", "least", "most"] 1 (m_is_tuple_of)) : Cl P w K mg base (xcK K) "check_program" ["program"] 5 (m_check_program) := by
  obtain ⟨fd, F⟩ := T.c.def_ 8 (d := d_check_program) rfl
  refine ⟨fd, def_PD (N := N_check_program) F sc_check_program (fun cdv A outer s H E hr => ?_), t_glo_check_program T, F.kp, F.bindsN fun _ _ _ _ _ _ us hl => match us, hl with | [_], _ => rfl, lkF F⟩
  exact s_seq (s_if (j_not (j_val (i_callC c_is_tuple_of (hr.mono (by omega)) rfl (passes_call (takes_of rfl rfl rfl rfl) (fun _ _ _ _ h => h)) (i_cons (iv 0) (i_cons (i_int) (i_cons (i_int) (i_nil))))))) (s_one (s_raiseP (pg := pgI) (t_flds T) (t_super T) (hr.mono (by omega)) rfl (takes_of rfl rfl rfl rfl) rfl (t_glo_BadProgram T) rfl rfl (i_cons (i_str) (i_cons (i_int) (i_cons (i_un un_neg sd_neg (i_int)) (i_nil)))))) (s_nil)) (s_seq (s_asg (iv 0) (g_tup rfl (gs_cons (gn (i := 1) sc_check_program.nd) (gs_cons (gn (i := 2) sc_check_program.nd) (gs_nil))))) (s_seq (s_drop (i_callC c_check_houses (hr.mono (by omega)) rfl (passes_call (takes_of rfl rfl rfl rfl) (fun _ _ _ _ h => h)) (i_cons (iv 1) (i_nil)))) (s_one (s_drop (i_callC c_check_routines (hr.mono (by omega)) rfl (passes_call (takes_of rfl rfl rfl rfl) (fun _ _ _ _ h => h)) (i_cons (iv 2) (i_cons (i_bf call_lenU sd_len rfl (t_len T) rfl (i_cons (iv 1) (i_nil))) (i_nil))))))))
theorem ok_boxes_word (T : Top w K mg)  : Cl P w K mg base (xcK K) "boxes_word" ["boxes"] 1 (m_boxes_word) := by
  obtain ⟨fd, F⟩ := T.c.def_ 9 (d := d_boxes_word) rfl
  refine ⟨fd, def_PD (N := N_boxes_word) F sc_boxes_word (fun cdv A outer s H E hr => ?_), t_glo_boxes_word T, F.kp, F.bindsN fun _ _ _ _ _ _ us hl => match us, hl with | [_], _ => rfl, lkF F⟩
  exact s_seq (s_if (j_cmp (op_eqD (hu64 hr)) sd_eq (i_bf call_lenU sd_len rfl (t_len T) rfl (i_cons (iv 0) (i_nil))) (i_int) (nomark _)) (s_one (s_ret (i_gs (t_NO_BOXES T)))) (s_nil)) (s_one (s_ret (i_joinS (i_str) (i_lc (own := [("box", 1)]) rfl sc_boxes_word.nd (i_seq (iv 0)) (blkOk_by (own := [("box", 1)]) (N := N_boxes_word) (sc := defScope s_boxes_word) (by decide +kernel)) (fun _ _ _ _ _ => gn (i := 1) sc_boxes_word.nd) (fun _ _ _ _ _ => ts_nil) (fun _ _ _ _ _ => i_ty call_strU sd_str rfl (t_str T) rfl (i_cons (iv 1) (i_nil)))))))
theorem ok_house_line (T : Top w K mg) (c_boxes_word : Cl P w K mg base (xcK K) "boxes_word" ["boxes"] 1 (m_boxes_word)) : Cl P w K mg base (xcK K) "house_line" ["house"] 2 (m_house_line) := by
  obtain ⟨fd, F⟩ := T.c.def_ 10 (d := d_house_line) rfl
  refine ⟨fd, def_PD (N := N_house_line) F sc_house_line (fun cdv A outer s H E hr => ?_), t_glo_house_line T, F.kp, F.bindsN fun _ _ _ _ _ _ us hl => match us, hl with | [_], _ => rfl, lkF F⟩
  exact s_seq (s_asg (iv 0) (g_tup rfl (gs_cons (gn (i := 1) sc_house_line.nd) (gs_cons (gn (i := 2) sc_house_line.nd) (gs_cons (gn (i := 3) sc_house_line.nd) (gs_nil)))))) (s_one (s_ret (i_join (.cons (i_str) (.cons (i_fmt (i_callC c_boxes_word (hr.mono (by omega)) rfl (passes_call (takes_of rfl rfl rfl rfl) (fun _ _ _ _ h => h)) (i_cons (iv 1) (i_nil)))) (.cons (i_str) (.cons (i_fmt (iv 2)) (.cons (i_str) (.cons (i_fmt (i_callC c_boxes_word (hr.mono (by omega)) rfl (passes_call (takes_of rfl rfl rfl rfl) (fun _ _ _ _ h => h)) (i_cons (iv 3) (i_nil)))) (.nil))))))))))
theorem ok_routine_lines (T : Top w K mg)  : Cl P w K mg base (xcK K) "routine_lines" ["routine"] 1 (m_routine_lines) := by
  obtain ⟨fd, F⟩ := T.c.def_ 11 (d := d_routine_lines) rfl
  refine ⟨fd, def_PD (N := N_routine_lines) F sc_routine_lines (fun cdv A outer s H E hr => ?_), t_glo_routine_lines T, F.kp, F.bindsN fun _ _ _ _ _ _ us hl => match us, hl with | [_], _ => rfl, lkF F⟩
  exact s_seq (s_asg (iv 0) (g_tup rfl (gs_cons (gn (i := 1) sc_routine_lines.nd) (gs_cons (gn (i := 2) sc_routine_lines.nd) (gs_nil))))) (s_one (s_ret (i_op op_addU sd_add (i_ls (i_cons (i_join (.cons (i_str) (.cons (i_fmt (iv 1)) (.nil)))) (i_nil))) (i_lc (own := [("row", 3)]) rfl sc_routine_lines.nd (i_seq (iv 2)) (blkOk_by (own := [("row", 3)]) (N := N_routine_lines) (sc := defScope s_routine_lines) (by decide +kernel)) (fun _ _ _ _ _ => gn (i := 3) sc_routine_lines.nd) (fun _ _ _ _ _ => ts_nil) (fun _ _ _ _ _ => i_joinS (i_str) (i_lc (own := [("part", 4)]) rfl sc_routine_lines.nd (i_seq (iv 3)) (blkOk_by (own := [("part", 4)]) (N := N_routine_lines) (by first | decide +kernel | (dsimp only [compEnvC]; decide +kernel) | (simp only [compEnvC]; decide +kernel) | rfl)) (fun _ _ _ _ _ => gn (i := 4) sc_routine_lines.nd) (fun _ _ _ _ _ => ts_nil) (fun _ _ _ _ _ => i_ty call_strS sd_strS rfl (t_str T) rfl (i_cons (iv 4) (i_nil)))))))))
theorem ok_written (T : Top w K mg) (c_routine_lines : Cl P w K mg base (xcK K) "routine_lines" ["routine"] 1 (m_routine_lines)) (c_house_line : Cl P w K mg base (xcK K) "house_line" ["house"] 2 (m_house_line)) (c_check_program : Cl P w K mg base (xcK K) "check_program" ["program"] 5 (m_check_program)) : Cl P w K mg base (xcK K) "written" ["program"] 6 (m_written) := by
  obtain ⟨fd, F⟩ := T.c.def_ 12 (d := d_written) rfl
  refine ⟨fd, def_PD (N := N_written) F sc_written (fun cdv A outer s H E hr => ?_), t_glo_written T, F.kp, F.bindsN fun _ _ _ _ _ _ us hl => match us, hl with | [_], _ => rfl, lkF F⟩
  exact s_seq (s_drop (i_callC c_check_program (hr.mono (by omega)) rfl (passes_call (takes_of rfl rfl rfl rfl) (fun _ _ _ _ h => h)) (i_cons (iv 0) (i_nil)))) (s_seq (s_asg (iv 0) (g_tup rfl (gs_cons (gn (i := 1) sc_written.nd) (gs_cons (gn (i := 2) sc_written.nd) (gs_nil))))) (s_seq (s_setLcN (i := 3) (own := [("house", 4)]) rfl sc_written.nd rfl rfl (sw_true rfl rfl rfl (by decide +kernel)) (i_seq (iv 1)) (blkOk_by (own := [("house", 4)]) (N := N_written) (sc := defScope s_written) (by decide +kernel)) (fun _ _ _ _ _ => gn (i := 4) sc_written.nd) (fun _ _ _ _ _ => ts_nil) (fun _ _ _ _ _ => i_callC c_house_line (hr.mono (by omega)) rfl (passes_call takes0 (fun _ _ _ _ h => h)) (i_cons (iv 4) (i_nil)))) (s_seq (s_for (passes_of rfl) rfl (i_seq (iv 2)) (gn (i := 5) sc_written.nd) (s_one (s_drop (i_extend (iv 3) (i_callC c_routine_lines (hr.mono (by omega)) rfl (passes_call (takes_of rfl rfl rfl rfl) (fun _ _ _ _ h => h)) (i_cons (iv 5) (i_nil))))))) (s_one (s_ret (i_joinS (i_str) (iv 3)))))))
theorem ok_are_figures (T : Top w K mg)  : Cl P w K mg base (xcK K) "are_figures" ["word"] 1 (m_are_figures) := by
  obtain ⟨fd, F⟩ := T.c.def_ 13 (d := d_are_figures) rfl
  refine ⟨fd, def_PD (N := N_are_figures) F sc_are_figures (fun cdv A outer s H E hr => ?_), t_glo_are_figures T, F.kp, F.bindsN fun _ _ _ _ _ _ us hl => match us, hl with | [_], _ => rfl, lkF F⟩
  exact s_one (s_ret (i_and (i_cmp op_gt sd_gt (i_bf call_lenS sd_lenS rfl (t_len T) rfl (i_cons (iv 0) (i_nil))) (i_int) (nomark _)) (i_one (i_bf (cr_all rfl) sd_all rfl (t_all T) rfl (i_cons (i_lc (own := [("sign", 1)]) rfl sc_are_figures.nd (i_chs (iv 0)) (blkOk_by (own := [("sign", 1)]) (N := N_are_figures) (sc := defScope s_are_figures) (by decide +kernel)) (fun _ _ _ _ _ => gn (i := 1) sc_are_figures.nd) (fun _ _ _ _ _ => ts_nil) (fun _ _ _ _ _ => i_cmp op_inC sd_inC (iv 1) (i_gs (t_FIGURES T)) rfl)) (i_nil))))))
theorem ok_is_number_word (T : Top w K mg) (c_are_figures : Cl P w K mg base (xcK K) "are_figures" ["word"] 1 (m_are_figures)) : Cl P w K mg base (xcK K) "is_number_word" ["word"] 2 (m_is_number_word) := by
  obtain ⟨fd, F⟩ := T.c.def_ 14 (d := d_is_number_word) rfl
  refine ⟨fd, def_PD (N := N_is_number_word) F sc_is_number_word (fun cdv A outer s H E hr => ?_), t_glo_is_number_word T, F.kp, F.bindsN fun _ _ _ _ _ _ us hl => match us, hl with | [_], _ => rfl, lkF F⟩
  exact s_seq (s_if (PW.pt (j_or (j_not (j_val (i_callC c_are_figures (hr.mono (by omega)) rfl (passes_call (takes_of rfl rfl rfl rfl) (fun _ _ _ _ h => h)) (i_cons (iv 0) (i_nil))))) (j_or1 (j_cmp op_gt sd_gt (i_bf call_lenS sd_lenS rfl (t_len T) rfl (i_cons (iv 0) (i_nil))) (i_gi (t_MOST_FIGURES T)) (nomark _))))) (s_one (s_ret (i_bl))) (s_nil)) (s_one (s_ret (i_or (i_cmp (op_eqD (hu64 hr)) sd_eq (iv 0) (i_str) (nomark _)) (i_one (i_cmp (op_neD (hu64 hr)) sd_ne (i_ixC (iv 0) (i_int)) (i_str) (nomark _))))))
theorem ok_is_boxes_word (T : Top w K mg) (c_are_figures : Cl P w K mg base (xcK K) "are_figures" ["word"] 1 (m_are_figures)) : Cl P w K mg base (xcK K) "is_boxes_word" ["word"] 2 (m_is_boxes_word) := by
  obtain ⟨fd, F⟩ := T.c.def_ 15 (d := d_is_boxes_word) rfl
  refine ⟨fd, def_PD (N := N_is_boxes_word) F sc_is_boxes_word (fun cdv A outer s H E hr => ?_), t_glo_is_boxes_word T, F.kp, F.bindsN fun _ _ _ _ _ _ us hl => match us, hl with | [_], _ => rfl, lkF F⟩
  exact s_one (s_ret (i_or (i_cmp (op_eqD (hu64 hr)) sd_eq (iv 0) (i_gs (t_NO_BOXES T)) (nomark _)) (i_one (i_callC c_are_figures (hr.mono (by omega)) rfl (passes_call (takes_of rfl rfl rfl rfl) (fun _ _ _ _ h => h)) (i_cons (iv 0) (i_nil))))))
theorem ok_is_house_line (T : Top w K mg) (c_is_boxes_word : Cl P w K mg base (xcK K) "is_boxes_word" ["word"] 2 (m_is_boxes_word)) (c_is_number_word : Cl P w K mg base (xcK K) "is_number_word" ["word"] 2 (m_is_number_word)) : Cl P w K mg base (xcK K) "is_house_line" ["words"] 3 (m_is_house_line) := by
  obtain ⟨fd, F⟩ := T.c.def_ 16 (d := d_is_house_line) rfl
  refine ⟨fd, def_PD (N := N_is_house_line) F sc_is_house_line (fun cdv A outer s H E hr => ?_), t_glo_is_house_line T, F.kp, F.bindsN fun _ _ _ _ _ _ us hl => match us, hl with | [_], _ => rfl, lkF F⟩
  exact s_seq (s_if (PW.pt (j_or (j_cmp (op_neD (hu64 hr)) sd_ne (i_bf call_lenU sd_len rfl (t_len T) rfl (i_cons (iv 0) (i_nil))) (i_int) (nomark _)) (j_or1 (j_cmp (op_neD (hu64 hr)) sd_ne (i_ix (hu_of hr) (iv 0) (i_int)) (i_str) (nomark _))))) (s_one (s_ret (i_bl))) (s_nil)) (s_one (s_ret (i_and (i_callC c_is_boxes_word (hr.mono (by omega)) rfl (passes_call (takes_of rfl rfl rfl rfl) (fun _ _ _ _ h => h)) (i_cons (i_ix (hu_of hr) (iv 0) (i_int)) (i_nil))) (i_and (i_callC c_is_number_word (hr.mono (by omega)) rfl (passes_call (takes_of rfl rfl rfl rfl) (fun _ _ _ _ h => h)) (i_cons (i_ix (hu_of hr) (iv 0) (i_int)) (i_nil))) (i_one (i_callC c_is_boxes_word (hr.mono (by omega)) rfl (passes_call (takes_of rfl rfl rfl rfl) (fun _ _ _ _ h => h)) (i_cons (i_ix (hu_of hr) (iv 0) (i_int)) (i_nil))))))))
theorem ok_is_routine_line (T : Top w K mg) (c_is_number_word : Cl P w K mg base (xcK K) "is_number_word" ["word"] 2 (m_is_number_word)) : Cl P w K mg base (xcK K) "is_routine_line" ["words"] 3 (m_is_routine_line) := by
  obtain ⟨fd, F⟩ := T.c.def_ 17 (d := d_is_routine_line) rfl
  refine ⟨fd, def_PD (N := N_is_routine_line) F sc_is_routine_line (fun cdv A outer s H E hr => ?_), t_glo_is_routine_line T, F.kp, F.bindsN fun _ _ _ _ _ _ us hl => match us, hl with | [_], _ => rfl, lkF F⟩
  exact s_one (s_ret (i_and (i_cmp (op_eqD (hu64 hr)) sd_eq (i_bf call_lenU sd_len rfl (t_len T) rfl (i_cons (iv 0) (i_nil))) (i_int) (nomark _)) (i_and (i_cmp (op_eqD (hu64 hr)) sd_eq (i_ix (hu_of hr) (iv 0) (i_int)) (i_str) (nomark _)) (i_one (i_callC c_is_number_word (hr.mono (by omega)) rfl (passes_call (takes_of rfl rfl rfl rfl) (fun _ _ _ _ h => h)) (i_cons (i_ix (hu_of hr) (iv 0) (i_int)) (i_nil)))))))
theorem ok_is_row_line (T : Top w K mg) (c_is_number_word : Cl P w K mg base (xcK K) "is_number_word" ["word"] 2 (m_is_number_word)) : Cl P w K mg base (xcK K) "is_row_line" ["words"] 3 (m_is_row_line) := by
  obtain ⟨fd, F⟩ := T.c.def_ 18 (d := d_is_row_line) rfl
  refine ⟨fd, def_PD (N := N_is_row_line) F sc_is_row_line (fun cdv A outer s H E hr => ?_), t_glo_is_row_line T, F.kp, F.bindsN fun _ _ _ _ _ _ us hl => match us, hl with | [_], _ => rfl, lkF F⟩
  exact s_seq (s_set (i := 1) sc_is_row_line.nd rfl (.inl rfl) (i_kgetT (t_PLACES T) rfl (i_ix (hu_of hr) (iv 0) (i_int)) (m1_of rfl rfl rfl))) (s_seq (s_if (PW.pt (j_or (j_cmp op_isNU sd_isN (iv 1) (i_non) (nomark _)) (j_or1 (j_cmp (op_neD (hu64 hr)) sd_ne (i_bf call_lenU sd_len rfl (t_len T) rfl (i_cons (iv 0) (i_nil))) (i_op op_addU sd_add (i_bf call_lenU sd_len rfl (t_len T) rfl (i_cons (iv 1) (i_nil))) (i_int)) (nomark _))))) (s_one (s_ret (i_bl))) (s_nil)) (s_one (s_ret (i_bf (cr_all rfl) sd_all rfl (t_all T) rfl (i_cons (i_lc (own := [("word", 2)]) rfl sc_is_row_line.nd (i_seq (i_cut (iv 0) (o_some (i_int)) (o_none))) (blkOk_by (own := [("word", 2)]) (N := N_is_row_line) (sc := defScope s_is_row_line) (by decide +kernel)) (fun _ _ _ _ _ => gn (i := 2) sc_is_row_line.nd) (fun _ _ _ _ _ => ts_nil) (fun _ _ _ _ _ => i_callC c_is_number_word (hr.mono (by omega)) rfl (passes_call takes0 (fun _ _ _ _ h => h)) (i_cons (iv 2) (i_nil)))) (i_nil))))))
theorem ok_boxes_read (T : Top w K mg)  : Cl P w K mg base (xcK K) "boxes_read" ["word"] 1 (m_boxes_read) := by
  obtain ⟨fd, F⟩ := T.c.def_ 19 (d := d_boxes_read) rfl
  refine ⟨fd, def_PD (N := N_boxes_read) F sc_boxes_read (fun cdv A outer s H E hr => ?_), t_glo_boxes_read T, F.kp, F.bindsN fun _ _ _ _ _ _ us hl => match us, hl with | [_], _ => rfl, lkF F⟩
  exact s_seq (s_if (j_cmp (op_eqD (hu64 hr)) sd_eq (iv 0) (i_gs (t_NO_BOXES T)) (nomark _)) (s_one (s_ret (i_tup (i_nil)))) (s_nil)) (s_one (s_ret (i_ty call_tupleU sd_tuple rfl (t_tuple T) rfl (i_cons (i_lc (own := [("figure", 1)]) rfl sc_boxes_read.nd (i_chs (iv 0)) (blkOk_by (own := [("figure", 1)]) (N := N_boxes_read) (sc := defScope s_boxes_read) (by decide +kernel)) (fun _ _ _ _ _ => gn (i := 1) sc_boxes_read.nd) (fun _ _ _ _ _ => ts_nil) (fun _ _ _ _ _ => i_ty call_intS sd_intS rfl (t_int T) rfl (i_cons (iv 1) (i_nil)))) (i_nil)))))
theorem ok_house_read (T : Top w K mg) (c_boxes_read : Cl P w K mg base (xcK K) "boxes_read" ["word"] 1 (m_boxes_read)) : Cl P w K mg base (xcK K) "house_read" ["words"] 2 (m_house_read) := by
  obtain ⟨fd, F⟩ := T.c.def_ 20 (d := d_house_read) rfl
  refine ⟨fd, def_PD (N := N_house_read) F sc_house_read (fun cdv A outer s H E hr => ?_), t_glo_house_read T, F.kp, F.bindsN fun _ _ _ _ _ _ us hl => match us, hl with | [_], _ => rfl, lkF F⟩
  exact s_one (s_ret (i_tup (i_cons (i_callC c_boxes_read (hr.mono (by omega)) rfl (passes_call (takes_of rfl rfl rfl rfl) (fun _ _ _ _ h => h)) (i_cons (i_ix (hu_of hr) (iv 0) (i_int)) (i_nil))) (i_cons (i_ty call_intS sd_intS rfl (t_int T) rfl (i_cons (i_ix (hu_of hr) (iv 0) (i_int)) (i_nil))) (i_cons (i_callC c_boxes_read (hr.mono (by omega)) rfl (passes_call (takes_of rfl rfl rfl rfl) (fun _ _ _ _ h => h)) (i_cons (i_ix (hu_of hr) (iv 0) (i_int)) (i_nil))) (i_nil))))))
theorem ok_row_read (T : Top w K mg)  : Cl P w K mg base (xcK K) "row_read" ["words"] 1 (m_row_read) := by
  obtain ⟨fd, F⟩ := T.c.def_ 21 (d := d_row_read) rfl
  refine ⟨fd, def_PD (N := N_row_read) F sc_row_read (fun cdv A outer s H E hr => ?_), t_glo_row_read T, F.kp, F.bindsN fun _ _ _ _ _ _ us hl => match us, hl with | [_], _ => rfl, lkF F⟩
  exact s_one (s_ret (i_tup (i_cons (i_ix (hu_of hr) (iv 0) (i_int)) (i_star (i_lc (own := [("word", 1)]) rfl sc_row_read.nd (i_seq (i_cut (iv 0) (o_some (i_int)) (o_none))) (blkOk_by (own := [("word", 1)]) (N := N_row_read) (sc := defScope s_row_read) (by decide +kernel)) (fun _ _ _ _ _ => gn (i := 1) sc_row_read.nd) (fun _ _ _ _ _ => ts_nil) (fun _ _ _ _ _ => i_ty call_intS sd_intS rfl (t_int T) rfl (i_cons (iv 1) (i_nil)))) (i_nil)))))
theorem ok_read (T : Top w K mg) (c_check_program : Cl P w K mg base (xcK K) "check_program" ["program"] 5 (m_check_program)) (c_is_house_line : Cl P w K mg base (xcK K) "is_house_line" ["words"] 3 (m_is_house_line)) (c_house_read : Cl P w K mg base (xcK K) "house_read" ["words"] 2 (m_house_read)) (c_is_routine_line : Cl P w K mg base (xcK K) "is_routine_line" ["words"] 3 (m_is_routine_line)) (c_is_row_line : Cl P w K mg base (xcK K) "is_row_line" ["words"] 3 (m_is_row_line)) (c_row_read : Cl P w K mg base (xcK K) "row_read" ["words"] 1 (m_row_read)) : Cl P w K mg base (xcK K) "read" ["text"] 6 (m_read) := by
  obtain ⟨fd, F⟩ := T.c.def_ 22 (d := d_read) rfl
  refine ⟨fd, def_PD (N := N_read) F sc_read (fun cdv A outer s H E hr => ?_), t_glo_read T, F.kp, F.bindsN fun _ _ _ _ _ _ us hl => match us, hl with | [_], _ => rfl, lkF F⟩
  exact s_seq (s_set (i := 1) sc_read.nd rfl (.inl rfl) (i_new (i_nil))) (s_seq (s_set (i := 2) sc_read.nd rfl (.inl rfl) (i_new (i_nil))) (s_seq (s_for (passes_of rfl) rfl (i_enum rfl (t_enumerate T) (i_splitS (iv 0) (i_str))) (g_tup rfl (gs_cons (gn (i := 3) sc_read.nd) (gs_cons (gn (i := 4) sc_read.nd) (gs_nil)))) (s_seq (s_set (i := 5) sc_read.nd rfl (.inl rfl) (i_splitS (iv 4) (i_str))) (s_one (s_if (PW.pt (j_and (j_val (i_callC c_is_house_line (hr.mono (by omega)) rfl (passes_call (takes_of rfl rfl rfl rfl) (fun _ _ _ _ h => h)) (i_cons (iv 5) (i_nil)))) (j_and1 (j_cmp (op_eqD (hu64 hr)) sd_eq (i_bf call_lenU sd_len rfl (t_len T) rfl (i_cons (iv 2) (i_nil))) (i_int) (nomark _))))) (s_one (s_drop (i_append (iv 1) (i_callC c_house_read (hr.mono (by omega)) rfl (passes_call (takes_of rfl rfl rfl rfl) (fun _ _ _ _ h => h)) (i_cons (iv 5) (i_nil)))))) (s_one (s_if (j_val (i_callC c_is_routine_line (hr.mono (by omega)) rfl (passes_call (takes_of rfl rfl rfl rfl) (fun _ _ _ _ h => h)) (i_cons (iv 5) (i_nil)))) (s_one (s_drop (i_append (iv 2) (i_tup (i_cons (i_ty call_intS sd_intS rfl (t_int T) rfl (i_cons (i_ix (hu_of hr) (iv 5) (i_int)) (i_nil))) (i_cons (i_new (i_nil)) (i_nil))))))) (s_one (s_if (PW.pt (j_and (j_val (i_callC c_is_row_line (hr.mono (by omega)) rfl (passes_call (takes_of rfl rfl rfl rfl) (fun _ _ _ _ h => h)) (i_cons (iv 5) (i_nil)))) (j_and1 (j_cmp op_gt sd_gt (i_bf call_lenU sd_len rfl (t_len T) rfl (i_cons (iv 2) (i_nil))) (i_int) (nomark _))))) (s_seq (s_asg (i_ix (hu_of hr) (iv 2) (i_un un_neg sd_neg (i_int))) (g_tup rfl (gs_cons (gn (i := 6) sc_read.nd) (gs_cons (gn (i := 7) sc_read.nd) (gs_nil))))) (s_one (s_drop (i_append (iv 7) (i_callC c_row_read (hr.mono (by omega)) rfl (passes_call (takes_of rfl rfl rfl rfl) (fun _ _ _ _ h => h)) (i_cons (iv 5) (i_nil))))))) (s_one (s_raiseT (pg := pgI) (t_flds T) (t_super T) (hr.mono (by omega)) rfl (takes_of rfl rfl rfl rfl) rfl (t_glo_BadText T) rfl rfl (i_cons (iv 3) (i_nil)))))))))))) (s_seq (s_set (i := 8) sc_read.nd rfl (.inl rfl) (i_tup (i_cons (i_ty call_tupleU sd_tuple rfl (t_tuple T) rfl (i_cons (iv 1) (i_nil))) (i_cons (i_ty call_tupleU sd_tuple rfl (t_tuple T) rfl (i_cons (i_lc (own := [("house", 9), ("rows", 7)]) rfl sc_read.nd (i_seq (iv 2)) (blkOk_by (own := [("house", 9), ("rows", 7)]) (N := N_read) (sc := defScope s_read) (by decide +kernel)) (fun _ _ _ _ _ => g_tup rfl (gs_cons (gn (i := 9) sc_read.nd) (gs_cons (gn (i := 7) sc_read.nd) (gs_nil)))) (fun _ _ _ _ _ => ts_nil) (fun _ _ _ _ _ => i_tup (i_cons (iv 9) (i_cons (i_ty call_tupleU sd_tuple rfl (t_tuple T) rfl (i_cons (iv 7) (i_nil))) (i_nil))))) (i_nil))) (i_nil))))) (s_seq (s_drop (i_callC c_check_program (hr.mono (by omega)) rfl (passes_call (takes_of rfl rfl rfl rfl) (fun _ _ _ _ h => h)) (i_cons (iv 8) (i_nil)))) (s_one (s_ret (iv 8)))))))
theorem ok_mix (T : Top w K mg)  : Cl P w K mg base (xcK K) "_law_mix" ["_law_script", "_law_seed"] 1 (m_mix) := by
  obtain ⟨fd, F⟩ := T.c.def_ 23 (d := d_mix) rfl
  refine ⟨fd, def_KD (N := N_mix) F sc_mix (fun cdv A outer s H E hr => ?_), t_glo_mix T, F.kp, F.bindsN fun _ _ _ _ _ _ us hl => match us, hl with | [_, _], _ => rfl, lkF F⟩
  exact s_seq (s_set (i := 2) sc_mix.nd rfl (.inl rfl) (iv 1)) (s_seq (s_for (passes_of rfl) rfl (i_seq (iv 0)) (gn (i := 3) sc_mix.nd) (s_one (s_set (i := 2) sc_mix.nd rfl (.inl rfl) (i_op op_mod sd_mod (i_op op_addU sd_add (i_op op_addU sd_add (i_op op_mulU sd_mul (iv 2) (i_int)) (i_op op_mod sd_mod (iv 3) (i_int))) (i_int)) (i_int))))) (s_one (s_ret (i_new (i_cons (iv 2) (i_cons (i_ty call_listU sd_listN rfl (t_list T) rfl (i_cons (iv 0) (i_nil))) (i_cons (i_int) (i_nil))))))))
theorem ok_next (T : Top w K mg)  : Cl P w K mg base (xcK K) "_law_next" ["_law_h", "_law_many"] 1 (m_next) := by
  obtain ⟨fd, F⟩ := T.c.def_ 24 (d := d_next) rfl
  refine ⟨fd, def_PD (N := N_next) F sc_next (fun cdv A outer s H E hr => ?_), t_glo_next T, F.kp, F.bindsN fun _ _ _ _ _ _ us hl => match us, hl with | [_, _], _ => rfl, lkF F⟩
  exact s_seq (s_set (i := 2) sc_next.nd rfl (.inl rfl) (i_op op_mod sd_mod (i_ix (hu_of hr) (iv 0) (i_int)) (i_bf (call_maxU rfl) sd_max rfl (t_max T) rfl (i_cons (i_int) (i_cons (i_bf call_lenU sd_len rfl (t_len T) rfl (i_cons (i_ix (hu_of hr) (iv 0) (i_int)) (i_nil))) (i_nil)))))) (s_seq (s_set (i := 3) sc_next.nd rfl (.inl rfl) (i_ifExp (j_cmp (op_neD (hu64 hr)) sd_ne (i_ix (hu_of hr) (iv 0) (i_int)) (i_ls (i_nil)) (nomark _)) (i_ix (hu_of hr) (i_ix (hu_of hr) (iv 0) (i_int)) (iv 2)) (i_int))) (s_seq (s_if (j_cmp op_ge sd_ge (iv 3) (i_op op_pow sd_pow (i_int) (i_int)) (nomark _)) (s_seq (s_asg (i_op op_fdiv sd_div (iv 3) (iv 1)) (g_sub (hu_of hr) (i_ix (hu_of hr) (iv 0) (i_int)) (iv 2))) (s_one (s_ret (i_op op_mod sd_mod (iv 3) (iv 1))))) (s_nil)) (s_seq (s_asg (i_op op_mod sd_mod (i_op op_addU sd_add (i_op op_addU sd_add (i_op op_mulU sd_mul (i_ix (hu_of hr) (iv 0) (i_int)) (i_int)) (i_op op_mulU sd_mul (iv 3) (i_int))) (i_int)) (i_int)) (g_sub (hu_of hr) (iv 0) (i_int))) (s_seq (s_asg (i_op op_addU sd_add (i_ix (hu_of hr) (iv 0) (i_int)) (i_int)) (g_sub (hu_of hr) (iv 0) (i_int))) (s_one (s_ret (i_op op_mod sd_mod (i_op op_fdiv sd_div (i_ix (hu_of hr) (iv 0) (i_int)) (i_int)) (iv 1))))))))
theorem okr_alike (T : Top w K mg)  : ∀ n : Nat, Cl P w K mg base (xcK K) "_law_alike" ["_law_found", "_law_due"] (1 + n) (mm_alike n)
  | 0 => by
    obtain ⟨fd, F⟩ := T.c.def_ 25 (d := d_alike) rfl
    exact ⟨fd, def_bad (N := N_alike) F sc_alike, t_glo_alike T, F.kp, F.bindsN fun _ _ _ _ _ _ us hl => match us, hl with | [_, _], _ => rfl, lkF F⟩
  | n + 1 => by
    have c_alike := okr_alike T  n
    obtain ⟨fd, F⟩ := T.c.def_ 25 (d := d_alike) rfl
    refine ⟨fd, def_PD (N := N_alike) (k := 1 + n) F sc_alike (fun cdv A outer s H E hr => ?_), t_glo_alike T, F.kp, F.bindsN fun _ _ _ _ _ _ us hl => match us, hl with | [_, _], _ => rfl, lkF F⟩
    exact s_seq (s_if (j_val (i_isa2 (t := .tuple) (u := .list) rfl (t_isinstance T) rfl (t_tuple T) rfl rfl (t_list T) rfl (iv 1))) (s_seq (s_if (PW.pt (j_or (j_not (j_val (i_isa2 (t := .tuple) (u := .list) rfl (t_isinstance T) rfl (t_tuple T) rfl rfl (t_list T) rfl (iv 0)))) (j_or1 (j_cmp (op_neD (hu64 hr)) sd_ne (i_isa (t := .list) rfl (t_isinstance T) rfl (t_list T) rfl (iv 0)) (i_isa (t := .list) rfl (t_isinstance T) rfl (t_list T) rfl (iv 1)) (nomark _))))) (s_one (s_ret (i_bl))) (s_nil)) (s_seq (s_if (j_cmp (op_neD (hu64 hr)) sd_ne (i_bf call_lenU sd_len rfl (t_len T) rfl (i_cons (iv 0) (i_nil))) (i_bf call_lenU sd_len rfl (t_len T) rfl (i_cons (iv 1) (i_nil))) (nomark _)) (s_one (s_ret (i_bl))) (s_nil)) (s_one (s_ret (i_cmp (op_eqD (hu64 hr)) sd_eq (i_lc (own := [("_law_k", 2)]) rfl sc_alike.nd (i_rng rfl (t_range T) (i_bf call_lenU sd_len rfl (t_len T) rfl (i_cons (iv 1) (i_nil)))) (blkOk_by (own := [("_law_k", 2)]) (N := N_alike) (sc := defScope s_alike) (by decide +kernel)) (fun _ _ _ _ _ => gn (i := 2) sc_alike.nd) (fun _ _ _ _ _ => ts_one (j_not (j_val (i_callC c_alike (hr.mono (by omega)) rfl (passes_call takes0 (fun _ _ _ _ h => h)) (i_cons (i_ix (hu_of hr) (iv 0) (iv 2)) (i_cons (i_ix (hu_of hr) (iv 1) (iv 2)) (i_nil))))))) (fun _ _ _ _ _ => iv 2)) (i_ls (i_nil)) (nomark _)))))) (s_nil)) (s_seq (s_if (j_cmp op_isNU sd_isN (iv 1) (i_non) (nomark _)) (s_one (s_ret (i_cmp op_isNU sd_isN (iv 0) (i_non) (nomark _)))) (s_nil)) (s_seq (s_if (j_val (i_isa (t := .str) rfl (t_isinstance T) rfl (t_str T) rfl (iv 1))) (s_one (s_ret (i_and (i_isa (t := .str) rfl (t_isinstance T) rfl (t_str T) rfl (iv 0)) (i_one (i_cmp (op_eqD (hu64 hr)) sd_eq (iv 0) (iv 1) (nomark _)))))) (s_nil)) (s_seq (s_if (PW.pt (j_or (j_val (i_isa (t := .bool) rfl (t_isinstance T) rfl (t_bool T) rfl (iv 1))) (j_or1 (j_val (i_isa (t := .bool) rfl (t_isinstance T) rfl (t_bool T) rfl (iv 0)))))) (s_one (s_ret (i_and (i_isa (t := .bool) rfl (t_isinstance T) rfl (t_bool T) rfl (iv 1)) (i_and (i_isa (t := .bool) rfl (t_isinstance T) rfl (t_bool T) rfl (iv 0)) (i_one (i_cmp (op_eqD (hu64 hr)) sd_eq (iv 0) (iv 1) (nomark _))))))) (s_nil)) (s_one (s_ret (i_and (i_isa (t := .int) rfl (t_isinstance T) rfl (t_int T) rfl (iv 0)) (i_one (i_cmp (op_eqD (hu64 hr)) sd_eq (iv 0) (iv 1) (nomark _)))))))))
theorem ok_alike (T : Top w K mg)  : Cl P w K mg base (xcK K) "_law_alike" ["_law_found", "_law_due"] 8 (m_alike) := okr_alike T  7
theorem ok_house (T : Top w K mg) (c_next : Cl P w K mg base (xcK K) "_law_next" ["_law_h", "_law_many"] 1 (m_next)) : Cl P w K mg base (xcK K) "_law_house" ["_law_h"] 2 (m_house) := by
  obtain ⟨fd, F⟩ := T.c.def_ 26 (d := d_house) rfl
  refine ⟨fd, def_PD (N := N_house) F sc_house (fun cdv A outer s H E hr => ?_), t_glo_house T, F.kp, F.bindsN fun _ _ _ _ _ _ us hl => match us, hl with | [_], _ => rfl, lkF F⟩
  exact s_seq (s_set (i := 1) sc_house.nd rfl (.inr rfl) (i_ix (hu_of hr) (i_ls (i_cons (i_int) (i_cons (i_int) (i_cons (i_int) (i_cons (i_int) (i_nil)))))) (i_callC c_next (hr.mono (by omega)) rfl (passes_call (takes_of rfl rfl rfl rfl) (fun _ _ _ _ h => h)) (i_cons (iv 0) (i_cons (i_int) (i_nil)))))) (s_seq (s_set (i := 2) sc_house.nd rfl (.inr rfl) (i_lc (own := [("_law_box", 3)]) rfl sc_house.nd (i_rng rfl (t_range T) (i_int)) (blkOk_by (own := [("_law_box", 3)]) (N := N_house) (sc := defScope s_house) (by decide +kernel)) (fun _ _ _ _ _ => gn (i := 3) sc_house.nd) (fun _ _ _ _ _ => ts_nil) (fun _ _ _ _ _ => i_op op_mulU sd_mul (i_callC c_next (hr.mono (by omega)) rfl (passes_call takes0 (fun _ _ _ _ h => h)) (i_cons (iv 0) (i_cons (iv 1) (i_nil)))) (i_ty call_intU sd_int rfl (t_int T) rfl (i_cons (i_or (i_cmp (op_eqD (hu64 hr)) sd_eq (iv 1) (i_int) (nomark _)) (i_one (i_cmp (op_eqD (hu64 hr)) sd_eq (i_callC c_next (hr.mono (by omega)) rfl (passes_call takes0 (fun _ _ _ _ h => h)) (i_cons (iv 0) (i_cons (i_int) (i_nil)))) (i_int) (nomark _)))) (i_nil)))))) (s_seq (s_set (i := 4) sc_house.nd rfl (.inr rfl) (i_callC c_next (hr.mono (by omega)) rfl (passes_call (takes_of rfl rfl rfl rfl) (fun _ _ _ _ h => h)) (i_cons (iv 0) (i_cons (i_int) (i_nil))))) (s_seq (s_set (i := 5) sc_house.nd rfl (.inl rfl) (i_ty call_tupleU sd_tuple rfl (t_tuple T) rfl (i_cons (i_cut (i_lc (own := [("_law_box", 3)]) rfl sc_house.nd (i_rng rfl (t_range T) (i_int)) (blkOk_by (own := [("_law_box", 3)]) (N := N_house) (sc := defScope s_house) (by decide +kernel)) (fun _ _ _ _ _ => gn (i := 3) sc_house.nd) (fun _ _ _ _ _ => ts_one (j_cmp (op_eqD (hu64 hr)) sd_eq (i_ix (hu_of hr) (iv 2) (iv 3)) (i_int) (nomark _))) (fun _ _ _ _ _ => iv 3)) (o_none) (o_some (i_op op_addU sd_add (i_int) (i_callC c_next (hr.mono (by omega)) rfl (passes_call (takes_of rfl rfl rfl rfl) (fun _ _ _ _ h => h)) (i_cons (iv 0) (i_cons (i_ix (hu_of hr) (i_ls (i_cons (i_int) (i_cons (i_int) (i_nil)))) (i_callC c_next (hr.mono (by omega)) rfl (passes_call (takes_of rfl rfl rfl rfl) (fun _ _ _ _ h => h)) (i_cons (iv 0) (i_cons (i_int) (i_nil))))) (i_nil))))))) (i_nil)))) (s_one (s_ret (i_tup (i_cons (iv 5) (i_cons (iv 4) (i_cons (i_ty call_tupleU sd_tuple rfl (t_tuple T) rfl (i_cons (i_lc (own := [("_law_box", 3)]) rfl sc_house.nd (i_rng rfl (t_range T) (i_int)) (blkOk_by (own := [("_law_box", 3)]) (N := N_house) (sc := defScope s_house) (by decide +kernel)) (fun _ _ _ _ _ => gn (i := 3) sc_house.nd) (fun _ _ _ _ _ => ts_one (PW.pt (j_and (j_cmp (op_eqD (hu64 hr)) sd_eq (i_ix (hu_of hr) (iv 2) (iv 3)) (i_int) (nomark _)) (j_and1 (j_cmp (op_neD (hu64 hr)) sd_ne (iv 3) (iv 4) (nomark _)))))) (fun _ _ _ _ _ => iv 3)) (i_nil))) (i_nil))))))))))
theorem ok_number (T : Top w K mg) (c_next : Cl P w K mg base (xcK K) "_law_next" ["_law_h", "_law_many"] 1 (m_next)) : Cl P w K mg base (xcK K) "_law_number" ["_law_h"] 2 (m_number) := by
  obtain ⟨fd, F⟩ := T.c.def_ 27 (d := d_number) rfl
  refine ⟨fd, def_PD (N := N_number) F sc_number (fun cdv A outer s H E hr => ?_), t_glo_number T, F.kp, F.bindsN fun _ _ _ _ _ _ us hl => match us, hl with | [_], _ => rfl, lkF F⟩
  exact s_one (s_ret (i_ix (hu_of hr) (i_ls (i_cons (i_callC c_next (hr.mono (by omega)) rfl (passes_call (takes_of rfl rfl rfl rfl) (fun _ _ _ _ h => h)) (i_cons (iv 0) (i_cons (i_int) (i_nil)))) (i_cons (i_callC c_next (hr.mono (by omega)) rfl (passes_call (takes_of rfl rfl rfl rfl) (fun _ _ _ _ h => h)) (i_cons (iv 0) (i_cons (i_int) (i_nil)))) (i_nil)))) (i_callC c_next (hr.mono (by omega)) rfl (passes_call (takes_of rfl rfl rfl rfl) (fun _ _ _ _ h => h)) (i_cons (iv 0) (i_cons (i_int) (i_nil))))))
theorem ok_simple (T : Top w K mg) (c_number : Cl P w K mg base (xcK K) "_law_number" ["_law_h"] 2 (m_number)) (c_next : Cl P w K mg base (xcK K) "_law_next" ["_law_h", "_law_many"] 1 (m_next)) : Cl P w K mg base (xcK K) "_law_simple" ["_law_h", "_law_e"] 3 (m_simple) := by
  obtain ⟨fd, F⟩ := T.c.def_ 28 (d := d_simple) rfl
  refine ⟨fd, def_PD (N := N_simple) F sc_simple (fun cdv A outer s H E hr => ?_), t_glo_simple T, F.kp, F.bindsN fun _ _ _ _ _ _ us hl => match us, hl with | [_, _], _ => rfl, lkF F⟩
  exact s_seq (s_setLc (i := 2) (own := [("_law_box", 3)]) rfl sc_simple.nd rfl rfl (sw_true rfl rfl rfl (by decide +kernel)) (i_rng rfl (t_range T) (i_int)) (blkOk_by (own := [("_law_box", 3)]) (N := N_simple) (sc := defScope s_simple) (by decide +kernel)) (fun _ _ _ _ _ => gn (i := 3) sc_simple.nd) (fun _ _ _ _ _ => ts_one (j_cmp (op_eqD (hu64 hr)) sd_eq (i_ix (hu_of hr) (i_ix (hu_of hr) (iv 1) (i_str)) (iv 3)) (i_str) (nomark _))) (fun _ _ _ _ _ => iv 3)) (s_seq (s_set (i := 4) sc_simple.nd rfl (.inl rfl) (i_ix (hu_of hr) (i_ix (hu_of hr) (iv 1) (i_str)) (i_callC c_next (hr.mono (by omega)) rfl (passes_call (takes_of rfl rfl rfl rfl) (fun _ _ _ _ h => h)) (i_cons (iv 0) (i_cons (i_bf call_lenU sd_len rfl (t_len T) rfl (i_cons (i_ix (hu_of hr) (iv 1) (i_str)) (i_nil))) (i_nil)))))) (s_seq (s_set (i := 5) sc_simple.nd rfl (.inl rfl) (i_callC c_next (hr.mono (by omega)) rfl (passes_call (takes_of rfl rfl rfl rfl) (fun _ _ _ _ h => h)) (i_cons (iv 0) (i_cons (i_int) (i_nil))))) (s_seq (s_if (PW.pt (j_or (j_cmp (op_eqD (hu64 hr)) sd_eq (iv 2) (i_ls (i_nil)) (nomark _)) (j_or1 (j_cmp (op_eqD (hu64 hr)) sd_eq (iv 5) (i_int) (nomark _))))) (s_one (s_set (i := 6) sc_simple.nd rfl (.inl rfl) (i_tup (i_cons (i_str) (i_cons (iv 4) (i_cons (i_callC c_number (hr.mono (by omega)) rfl (passes_call (takes_of rfl rfl rfl rfl) (fun _ _ _ _ h => h)) (i_cons (iv 0) (i_nil))) (i_nil))))))) (s_one (s_if (j_cmp (op_eqD (hu64 hr)) sd_eq (iv 5) (i_int) (nomark _)) (s_one (s_set (i := 6) sc_simple.nd rfl (.inl rfl) (i_tup (i_cons (i_str) (i_cons (i_ix (hu_of hr) (iv 2) (i_callC c_next (hr.mono (by omega)) rfl (passes_call (takes_of rfl rfl rfl rfl) (fun _ _ _ _ h => h)) (i_cons (iv 0) (i_cons (i_bf call_lenU sd_len rfl (t_len T) rfl (i_cons (iv 2) (i_nil))) (i_nil))))) (i_nil)))))) (s_one (s_if (j_cmp (op_eqD (hu64 hr)) sd_eq (iv 5) (i_int) (nomark _)) (s_seq (s_setLc (i := 7) (own := [("_law_box", 3)]) rfl sc_simple.nd rfl rfl (sw_true rfl rfl rfl (by decide +kernel)) (i_rng rfl (t_range T) (i_int)) (blkOk_by (own := [("_law_box", 3)]) (N := N_simple) (sc := defScope s_simple) (by decide +kernel)) (fun _ _ _ _ _ => gn (i := 3) sc_simple.nd) (fun _ _ _ _ _ => ts_one (j_cmp (op_neD (hu64 hr)) sd_ne (i_ix (hu_of hr) (i_ix (hu_of hr) (iv 1) (i_str)) (iv 3)) (i_str) (nomark _))) (fun _ _ _ _ _ => iv 3)) (s_one (s_set (i := 6) sc_simple.nd rfl (.inl rfl) (i_tup (i_cons (i_str) (i_cons (iv 4) (i_cons (i_ix (hu_of hr) (iv 7) (i_callC c_next (hr.mono (by omega)) rfl (passes_call (takes_of rfl rfl rfl rfl) (fun _ _ _ _ h => h)) (i_cons (iv 0) (i_cons (i_bf call_lenU sd_len rfl (t_len T) rfl (i_cons (iv 7) (i_nil))) (i_nil))))) (i_nil)))))))) (s_seq (s_par (i := 8) (j := 9) rfl sc_simple.nd rfl rfl (by decide) rfl rfl (i_cons (i_ix (hu_of hr) (iv 2) (i_callC c_next (hr.mono (by omega)) rfl (passes_call (takes_of rfl rfl rfl rfl) (fun _ _ _ _ h => h)) (i_cons (iv 0) (i_cons (i_bf call_lenU sd_len rfl (t_len T) rfl (i_cons (iv 2) (i_nil))) (i_nil))))) (i_cons (i_ix (hu_of hr) (iv 2) (i_callC c_next (hr.mono (by omega)) rfl (passes_call (takes_of rfl rfl rfl rfl) (fun _ _ _ _ h => h)) (i_cons (iv 0) (i_cons (i_bf call_lenU sd_len rfl (t_len T) rfl (i_cons (iv 2) (i_nil))) (i_nil))))) (i_nil))) rfl) (s_one (s_set (i := 6) sc_simple.nd rfl (.inl rfl) (i_tup (i_cons (i_ix (hu_of hr) (i_ls (i_cons (i_str) (i_cons (i_str) (i_nil)))) (i_op op_mod sd_mod (iv 5) (i_int))) (i_cons (iv 4) (i_cons (iv 8) (i_cons (iv 9) (i_nil)))))))))))))) (s_seq (s_drop (i_append (i_ix (hu_of hr) (iv 1) (i_str)) (iv 6))) (s_one (s_if (j_cmp (op_neD (hu64 hr)) sd_ne (i_ix (hu_of hr) (iv 6) (i_int)) (i_str) (nomark _)) (s_one (s_asg (i_ifExp (j_cmp (op_eqD (hu64 hr)) sd_eq (i_ix (hu_of hr) (iv 6) (i_int)) (i_str) (nomark _)) (i_ix (hu_of hr) (i_ix (hu_of hr) (iv 1) (i_str)) (i_ix (hu_of hr) (iv 6) (i_int))) (i_str)) (g_sub (hu_of hr) (i_ix (hu_of hr) (iv 1) (i_str)) (iv 4)))) (s_nil)))))))
theorem ok_calling (T : Top w K mg) (c_next : Cl P w K mg base (xcK K) "_law_next" ["_law_h", "_law_many"] 1 (m_next)) (c_number : Cl P w K mg base (xcK K) "_law_number" ["_law_h"] 2 (m_number)) : Cl P w K mg base (xcK K) "_law_calling" ["_law_h", "_law_e"] 3 (m_calling) := by
  obtain ⟨fd, F⟩ := T.c.def_ 29 (d := d_calling) rfl
  refine ⟨fd, def_PD (N := N_calling) F sc_calling (fun cdv A outer s H E hr => ?_), t_glo_calling T, F.kp, F.bindsN fun _ _ _ _ _ _ us hl => match us, hl with | [_, _], _ => rfl, lkF F⟩
  exact s_seq (s_set (i := 2) sc_calling.nd rfl (.inl rfl) (i_callC c_next (hr.mono (by omega)) rfl (passes_call (takes_of rfl rfl rfl rfl) (fun _ _ _ _ h => h)) (i_cons (iv 0) (i_cons (i_bf call_lenU sd_len rfl (t_len T) rfl (i_cons (i_ix (hu_of hr) (iv 1) (i_str)) (i_nil))) (i_nil))))) (s_seq (s_asg (i_ix (hu_of hr) (i_ix (hu_of hr) (iv 1) (i_str)) (i_ix (hu_of hr) (i_ix (hu_of hr) (iv 1) (i_str)) (iv 2))) (g_tup rfl (gs_cons (gn (i := 3) sc_calling.nd) (gs_cons (gn (i := 4) sc_calling.nd) (gs_cons (gn (i := 5) sc_calling.nd) (gs_nil)))))) (s_seq (s_set (i := 6) sc_calling.nd rfl (.inr rfl) (i_lc (own := [("_law_box", 7)]) rfl sc_calling.nd (i_rng rfl (t_range T) (i_int)) (blkOk_by (own := [("_law_box", 7)]) (N := N_calling) (sc := defScope s_calling) (by decide +kernel)) (fun _ _ _ _ _ => gn (i := 7) sc_calling.nd) (fun _ _ _ _ _ => ts_one (j_cmp op_notIn_seq sd_notIn (iv 7) (i_ix (hu_of hr) (iv 1) (i_str)) rfl)) (fun _ _ _ _ _ => iv 7))) (s_seq (s_if (j_cmp (op_neD (hu64 hr)) sd_ne (i_lc (own := [("_law_box", 7)]) rfl sc_calling.nd (i_seq (i_op op_addU sd_add (iv 3) (i_tup (i_cons (iv 4) (i_nil))))) (blkOk_by (own := [("_law_box", 7)]) (N := N_calling) (sc := defScope s_calling) (by decide +kernel)) (fun _ _ _ _ _ => gn (i := 7) sc_calling.nd) (fun _ _ _ _ _ => ts_one (j_cmp op_in_seq sd_in (iv 7) (iv 6) rfl)) (fun _ _ _ _ _ => iv 7)) (i_ls (i_nil)) (nomark _)) (s_one (s_retN)) (s_nil)) (s_seq (s_for (passes_of rfl) rfl (i_seq (iv 3)) (gn (i := 7) sc_calling.nd) (s_one (s_if (j_cmp (op_neD (hu64 hr)) sd_ne (i_ix (hu_of hr) (i_ix (hu_of hr) (iv 1) (i_str)) (iv 7)) (i_str) (nomark _)) (s_seq (s_drop (i_append (i_ix (hu_of hr) (iv 1) (i_str)) (i_tup (i_cons (i_str) (i_cons (iv 7) (i_cons (i_callC c_number (hr.mono (by omega)) rfl (passes_call (takes_of rfl rfl rfl rfl) (fun _ _ _ _ h => h)) (i_cons (iv 0) (i_nil))) (i_nil))))))) (s_one (s_asg (i_str) (g_sub (hu_of hr) (i_ix (hu_of hr) (iv 1) (i_str)) (iv 7))))) (s_nil)))) (s_seq (s_setLc (i := 8) (own := [("_law_box", 7)]) rfl sc_calling.nd rfl rfl (sw_true rfl rfl rfl (by decide +kernel)) (i_rng rfl (t_range T) (i_int)) (blkOk_by (own := [("_law_box", 7)]) (N := N_calling) (sc := defScope s_calling) (by decide +kernel)) (fun _ _ _ _ _ => gn (i := 7) sc_calling.nd) (fun _ _ _ _ _ => ts_one (PW.pt (j_and (j_cmp op_notIn_seq sd_notIn (iv 7) (iv 5) rfl) (j_and (j_cmp (op_neD (hu64 hr)) sd_ne (i_ix (hu_of hr) (i_ix (hu_of hr) (iv 1) (i_str)) (iv 7)) (i_str) (nomark _)) (j_and1 (j_cmp (op_neD (hu64 hr)) sd_ne (iv 7) (iv 4) (nomark _))))))) (fun _ _ _ _ _ => iv 7)) (s_seq (s_setLc (i := 9) (own := [("_law_box", 7)]) rfl sc_calling.nd rfl rfl (sw_true rfl rfl rfl (by decide +kernel)) (i_seq (iv 8)) (blkOk_by (own := [("_law_box", 7)]) (N := N_calling) (sc := defScope s_calling) (by decide +kernel)) (fun _ _ _ _ _ => gn (i := 7) sc_calling.nd) (fun _ _ _ _ _ => ts_one (PW.pt (j_or (j_cmp op_in_seq sd_in (iv 7) (iv 6) rfl) (j_or1 (j_cmp (op_eqD (hu64 hr)) sd_eq (i_callC c_next (hr.mono (by omega)) rfl (passes_call takes0 (fun _ _ _ _ h => h)) (i_cons (iv 0) (i_cons (i_int) (i_nil)))) (i_int) (nomark _)))))) (fun _ _ _ _ _ => iv 7)) (s_seq (s_drop (i_extend (i_ix (hu_of hr) (iv 1) (i_str)) (i_lc (own := [("_law_box", 7)]) rfl sc_calling.nd (i_seq (iv 9)) (blkOk_by (own := [("_law_box", 7)]) (N := N_calling) (sc := defScope s_calling) (by decide +kernel)) (fun _ _ _ _ _ => gn (i := 7) sc_calling.nd) (fun _ _ _ _ _ => ts_nil) (fun _ _ _ _ _ => i_tup (i_cons (i_str) (i_cons (iv 7) (i_nil))))))) (s_seq (s_drop (i_append (i_ix (hu_of hr) (iv 1) (i_str)) (i_tup (i_cons (i_str) (i_cons (iv 2) (i_nil)))))) (s_seq (s_drop (i_extend (i_ix (hu_of hr) (iv 1) (i_str)) (i_lc (own := [("_law_box", 7)]) rfl sc_calling.nd (i_rev rfl (t_reversed T) (iv 9)) (blkOk_by (own := [("_law_box", 7)]) (N := N_calling) (sc := defScope s_calling) (by decide +kernel)) (fun _ _ _ _ _ => gn (i := 7) sc_calling.nd) (fun _ _ _ _ _ => ts_nil) (fun _ _ _ _ _ => i_tup (i_cons (i_str) (i_cons (iv 7) (i_nil))))))) (s_seq (s_for (passes_of rfl) rfl (i_seq (iv 8)) (gn (i := 7) sc_calling.nd) (s_one (s_asg (i_ifExp (j_cmp op_in_seq sd_in (iv 7) (iv 9) rfl) (i_ix (hu_of hr) (i_ix (hu_of hr) (iv 1) (i_str)) (iv 7)) (i_str)) (g_sub (hu_of hr) (i_ix (hu_of hr) (iv 1) (i_str)) (iv 7))))) (s_one (s_asg (i_str) (g_sub (hu_of hr) (i_ix (hu_of hr) (iv 1) (i_str)) (iv 4))))))))))))))
theorem ok_zeroed (T : Top w K mg) (c_next : Cl P w K mg base (xcK K) "_law_next" ["_law_h", "_law_many"] 1 (m_next)) (c_simple : Cl P w K mg base (xcK K) "_law_simple" ["_law_h", "_law_e"] 3 (m_simple)) : Cl P w K mg base (xcK K) "_law_zeroed" ["_law_h", "_law_e"] 4 (m_zeroed) := by
  obtain ⟨fd, F⟩ := T.c.def_ 30 (d := d_zeroed) rfl
  refine ⟨fd, def_PD (N := N_zeroed) F sc_zeroed (fun cdv A outer s H E hr => ?_), t_glo_zeroed T, F.kp, F.bindsN fun _ _ _ _ _ _ us hl => match us, hl with | [_, _], _ => rfl, lkF F⟩
  exact s_seq (s_setLc (i := 2) (own := [("_law_box", 3)]) rfl sc_zeroed.nd rfl rfl (sw_true rfl rfl rfl (by decide +kernel)) (i_rng rfl (t_range T) (i_int)) (blkOk_by (own := [("_law_box", 3)]) (N := N_zeroed) (sc := defScope s_zeroed) (by decide +kernel)) (fun _ _ _ _ _ => gn (i := 3) sc_zeroed.nd) (fun _ _ _ _ _ => ts_one (j_cmp (op_eqD (hu64 hr)) sd_eq (i_ix (hu_of hr) (i_ix (hu_of hr) (iv 1) (i_str)) (iv 3)) (i_str) (nomark _))) (fun _ _ _ _ _ => iv 3)) (s_seq (s_if (j_cmp (op_eqD (hu64 hr)) sd_eq (iv 2) (i_ls (i_nil)) (nomark _)) (s_one (s_retN)) (s_nil)) (s_seq (s_set (i := 4) sc_zeroed.nd rfl (.inl rfl) (i_ix (hu_of hr) (iv 2) (i_callC c_next (hr.mono (by omega)) rfl (passes_call (takes_of rfl rfl rfl rfl) (fun _ _ _ _ h => h)) (i_cons (iv 0) (i_cons (i_bf call_lenU sd_len rfl (t_len T) rfl (i_cons (iv 2) (i_nil))) (i_nil)))))) (s_seq (s_set (i := 5) sc_zeroed.nd rfl (.inl rfl) (i_bf call_lenU sd_len rfl (t_len T) rfl (i_cons (i_ix (hu_of hr) (iv 1) (i_str)) (i_nil)))) (s_seq (s_drop (i_append (i_ix (hu_of hr) (iv 1) (i_str)) (i_tup (i_cons (i_str) (i_cons (iv 4) (i_cons (i_int) (i_nil))))))) (s_seq (s_set (i := 6) sc_zeroed.nd rfl (.inl rfl) (i_ty call_listU sd_list rfl (t_list T) rfl (i_cons (i_ix (hu_of hr) (iv 1) (i_str)) (i_nil)))) (s_seq (s_for (passes_of rfl) rfl (i_rng rfl (t_range T) (i_op op_addU sd_add (i_int) (i_callC c_next (hr.mono (by omega)) rfl (passes_call (takes_of rfl rfl rfl rfl) (fun _ _ _ _ h => h)) (i_cons (iv 0) (i_cons (i_int) (i_nil)))))) (gn (i := 7) sc_zeroed.nd) (s_one (s_drop (i_callC c_simple (hr.mono (by omega)) rfl (passes_call (takes_of rfl rfl rfl rfl) (fun _ _ _ _ h => h)) (i_cons (iv 0) (i_cons (iv 1) (i_nil))))))) (s_seq (s_if (PW.pt (j_and (j_cmp (op_eqD (hu64 hr)) sd_eq (i_callC c_next (hr.mono (by omega)) rfl (passes_call (takes_of rfl rfl rfl rfl) (fun _ _ _ _ h => h)) (i_cons (iv 0) (i_cons (i_int) (i_nil)))) (i_int) (nomark _)) (j_and (j_cmp (op_eqD (hu64 hr)) sd_eq (i_ix (hu_of hr) (i_ix (hu_of hr) (iv 1) (i_str)) (iv 4)) (i_str) (nomark _)) (j_and1 (j_cmp (op_eqD (hu64 hr)) sd_eq (iv 6) (i_ix (hu_of hr) (iv 1) (i_str)) (nomark _)))))) (s_one (s_drop (i_append (i_ix (hu_of hr) (iv 1) (i_str)) (i_tup (i_cons (i_str) (i_cons (iv 5) (i_nil))))))) (s_nil)) (s_seq (s_asg (i_tup (i_cons (i_str) (i_cons (iv 4) (i_cons (i_bf call_lenU sd_len rfl (t_len T) rfl (i_cons (i_ix (hu_of hr) (iv 1) (i_str)) (i_nil))) (i_nil))))) (g_sub (hu_of hr) (i_ix (hu_of hr) (iv 1) (i_str)) (iv 5))) (s_one (s_for (passes_of rfl) rfl (i_rng rfl (t_range T) (i_int)) (gn (i := 3) sc_zeroed.nd) (s_one (s_if (j_cmp (op_neD (hu64 hr)) sd_ne (i_ix (hu_of hr) (i_ix (hu_of hr) (iv 1) (i_str)) (iv 3)) (i_ix (hu_of hr) (iv 6) (iv 3)) (nomark _)) (s_one (s_asg (i_str) (g_sub (hu_of hr) (i_ix (hu_of hr) (iv 1) (i_str)) (iv 3)))) (s_nil)))))))))))))
theorem ok_kept (T : Top w K mg) (c_number : Cl P w K mg base (xcK K) "_law_number" ["_law_h"] 2 (m_number)) (c_next : Cl P w K mg base (xcK K) "_law_next" ["_law_h", "_law_many"] 1 (m_next)) (c_calling : Cl P w K mg base (xcK K) "_law_calling" ["_law_h", "_law_e"] 3 (m_calling)) (c_zeroed : Cl P w K mg base (xcK K) "_law_zeroed" ["_law_h", "_law_e"] 4 (m_zeroed)) (c_simple : Cl P w K mg base (xcK K) "_law_simple" ["_law_h", "_law_e"] 3 (m_simple)) : Cl P w K mg base (xcK K) "_law_kept" ["_law_h", "_law_houses", "_law_owners", "_law_number_here", "_law_most"] 5 (m_kept) := by
  obtain ⟨fd, F⟩ := T.c.def_ 31 (d := d_kept) rfl
  refine ⟨fd, def_PD (N := N_kept) F sc_kept (fun cdv A outer s H E hr => ?_), t_glo_kept T, F.kp, F.bindsN fun _ _ _ _ _ _ us hl => match us, hl with | [_, _, _, _, _], _ => rfl, lkF F⟩
  exact s_seq (s_asg (i_ix (hu_of hr) (iv 1) (i_ix (hu_of hr) (iv 2) (iv 3))) (g_tup rfl (gs_cons (gn (i := 5) sc_kept.nd) (gs_cons (gn (i := 6) sc_kept.nd) (gs_cons (gn (i := 7) sc_kept.nd) (gs_nil)))))) (s_seq (s_set (i := 8) sc_kept.nd rfl (.inr rfl) (i_lc (own := [("_law_box", 9)]) rfl sc_kept.nd (i_seq (iv 7)) (blkOk_by (own := [("_law_box", 9)]) (N := N_kept) (sc := defScope s_kept) (by decide +kernel)) (fun _ _ _ _ _ => gn (i := 9) sc_kept.nd) (fun _ _ _ _ _ => ts_one (j_cmp (op_eqD (hu64 hr)) sd_eq (i_callC c_next (hr.mono (by omega)) rfl (passes_call takes0 (fun _ _ _ _ h => h)) (i_cons (iv 0) (i_cons (i_int) (i_nil)))) (i_int) (nomark _))) (fun _ _ _ _ _ => iv 9))) (s_seq (s_set (i := 10) sc_kept.nd rfl (.inl rfl) (i_dks (d_cons (i_lcN (own := [("_law_box", 9)]) rfl sc_kept.nd (i_seq (iv 8)) (blkOk_by (own := [("_law_box", 9)]) (N := N_kept) (sc := defScope s_kept) (by decide +kernel)) (fun _ _ _ _ _ => gn (i := 9) sc_kept.nd) (fun _ _ _ _ _ => ts_nil) (fun _ _ _ _ _ => i_tup (i_cons (i_str) (i_cons (iv 9) (i_nil))))) (d_cons (iv 1) (d_cons (iv 2) (d_nil)))))) (s_seq (s_asg (i_lcN (own := [("_law_box", 9)]) rfl sc_kept.nd (i_rng rfl (t_range T) (i_int)) (blkOk_by (own := [("_law_box", 9)]) (N := N_kept) (sc := defScope s_kept) (by decide +kernel)) (fun _ _ _ _ _ => gn (i := 9) sc_kept.nd) (fun _ _ _ _ _ => ts_nil) (fun _ _ _ _ _ => i_ifExp (j_cmp op_in_seq sd_in (iv 9) (iv 5) rfl) (i_str) (i_ifExp (j_cmp op_in_seq sd_in (iv 9) (iv 7) rfl) (i_ty call_strU sd_str rfl (t_str T) rfl (i_cons (iv 9) (i_nil))) (i_str)))) (g_sub (hu_of hr) (iv 10) (i_str))) (s_seq (s_asg (i_lc (own := [("_law_box", 9)]) rfl sc_kept.nd (i_rng rfl (t_range T) (i_int)) (blkOk_by (own := [("_law_box", 9)]) (N := N_kept) (sc := defScope s_kept) (by decide +kernel)) (fun _ _ _ _ _ => gn (i := 9) sc_kept.nd) (fun _ _ _ _ _ => ts_one (PW.pt (j_or (j_cmp op_notIn_seq sd_notIn (iv 9) (iv 7) rfl) (j_or1 (j_cmp op_in_seq sd_in (iv 9) (iv 8) rfl))))) (fun _ _ _ _ _ => iv 9)) (g_sub (hu_of hr) (iv 10) (i_str))) (s_seq (s_for (passes_of rfl) rfl (i_rng rfl (t_range T) (i_callC c_next (hr.mono (by omega)) rfl (passes_call (takes_of rfl rfl rfl rfl) (fun _ _ _ _ h => h)) (i_cons (iv 0) (i_cons (i_op op_addU sd_add (iv 4) (i_int)) (i_nil))))) (gn (i := 11) sc_kept.nd) (s_seq (s_set (i := 12) sc_kept.nd rfl (.inl rfl) (i_callC c_next (hr.mono (by omega)) rfl (passes_call (takes_of rfl rfl rfl rfl) (fun _ _ _ _ h => h)) (i_cons (iv 0) (i_cons (i_int) (i_nil))))) (s_one (s_if (j_cmp op_lt sd_lt (iv 12) (i_int) (nomark _)) (s_one (s_drop (i_callC c_calling (hr.mono (by omega)) rfl (passes_call (takes_of rfl rfl rfl rfl) (fun _ _ _ _ h => h)) (i_cons (iv 0) (i_cons (iv 10) (i_nil)))))) (s_one (s_if (j_cmp (op_eqD (hu64 hr)) sd_eq (iv 12) (i_int) (nomark _)) (s_one (s_drop (i_callC c_zeroed (hr.mono (by omega)) rfl (passes_call (takes_of rfl rfl rfl rfl) (fun _ _ _ _ h => h)) (i_cons (iv 0) (i_cons (iv 10) (i_nil)))))) (s_one (s_drop (i_callC c_simple (hr.mono (by omega)) rfl (passes_call (takes_of rfl rfl rfl rfl) (fun _ _ _ _ h => h)) (i_cons (iv 0) (i_cons (iv 10) (i_nil)))))))))))) (s_seq (s_if (j_cmp (op_neD (hu64 hr)) sd_ne (i_ix (hu_of hr) (i_ix (hu_of hr) (iv 10) (i_str)) (iv 6)) (i_str) (nomark _)) (s_one (s_drop (i_append (i_ix (hu_of hr) (iv 10) (i_str)) (i_tup (i_cons (i_str) (i_cons (iv 6) (i_cons (i_callC c_number (hr.mono (by omega)) rfl (passes_call (takes_of rfl rfl rfl rfl) (fun _ _ _ _ h => h)) (i_cons (iv 0) (i_nil))) (i_nil)))))))) (s_nil)) (s_seq (s_set (i := 13) sc_kept.nd rfl (.inl rfl) (i_op op_addU sd_add (i_op op_addU sd_add (i_ix (hu_of hr) (iv 10) (i_str)) (i_lc (own := [("_law_box", 9)]) rfl sc_kept.nd (i_rev rfl (t_reversed T) (iv 8)) (blkOk_by (own := [("_law_box", 9)]) (N := N_kept) (sc := defScope s_kept) (by decide +kernel)) (fun _ _ _ _ _ => gn (i := 9) sc_kept.nd) (fun _ _ _ _ _ => ts_nil) (fun _ _ _ _ _ => i_tup (i_cons (i_str) (i_cons (iv 9) (i_nil)))))) (i_ls (i_cons (i_tup (i_cons (i_str) (i_nil))) (i_nil))))) (s_seq (s_if (j_cmp op_gt sd_gt (i_bf call_lenU sd_len rfl (t_len T) rfl (i_cons (iv 13) (i_nil))) (i_int) (nomark _)) (s_one (s_set (i := 13) sc_kept.nd rfl (.inl rfl) (i_ls (i_cons (i_tup (i_cons (i_str) (i_cons (iv 6) (i_cons (i_int) (i_nil))))) (i_cons (i_tup (i_cons (i_str) (i_nil))) (i_nil)))))) (s_nil)) (s_one (s_ret (i_tup (i_cons (i_ix (hu_of hr) (iv 2) (iv 3)) (i_cons (i_ty call_tupleU sd_tuple rfl (t_tuple T) rfl (i_cons (iv 13) (i_nil))) (i_nil))))))))))))))
theorem ok_program (T : Top w K mg) (c_kept : Cl P w K mg base (xcK K) "_law_kept" ["_law_h", "_law_houses", "_law_owners", "_law_number_here", "_law_most"] 5 (m_kept)) (c_next : Cl P w K mg base (xcK K) "_law_next" ["_law_h", "_law_many"] 1 (m_next)) (c_house : Cl P w K mg base (xcK K) "_law_house" ["_law_h"] 2 (m_house)) : Cl P w K mg base (xcK K) "_law_program" ["_law_h", "_law_most"] 6 (m_program) := by
  obtain ⟨fd, F⟩ := T.c.def_ 32 (d := d_program) rfl
  refine ⟨fd, def_PD (N := N_program) F sc_program (fun cdv A outer s H E hr => ?_), t_glo_program T, F.kp, F.bindsN fun _ _ _ _ _ _ us hl => match us, hl with | [_, _], _ => rfl, lkF F⟩
  exact s_seq (s_set (i := 2) sc_program.nd rfl (.inr rfl) (i_ty call_tupleU sd_tuple rfl (t_tuple T) rfl (i_cons (i_lc (own := [("_law_k", 3)]) rfl sc_program.nd (i_rng rfl (t_range T) (i_op op_addU sd_add (i_int) (i_callC c_next (hr.mono (by omega)) rfl (passes_call (takes_of rfl rfl rfl rfl) (fun _ _ _ _ h => h)) (i_cons (iv 0) (i_cons (i_int) (i_nil)))))) (blkOk_by (own := [("_law_k", 3)]) (N := N_program) (sc := defScope s_program) (by decide +kernel)) (fun _ _ _ _ _ => gn (i := 3) sc_program.nd) (fun _ _ _ _ _ => ts_nil) (fun _ _ _ _ _ => i_callC c_house (hr.mono (by omega)) rfl (passes_call takes0 (fun _ _ _ _ h => h)) (i_cons (iv 0) (i_nil)))) (i_nil)))) (s_seq (s_set (i := 4) sc_program.nd rfl (.inr rfl) (i_lc (own := [("_law_k", 3)]) rfl sc_program.nd (i_rng rfl (t_range T) (i_op op_addU sd_add (i_int) (i_callC c_next (hr.mono (by omega)) rfl (passes_call (takes_of rfl rfl rfl rfl) (fun _ _ _ _ h => h)) (i_cons (iv 0) (i_cons (iv 1) (i_nil)))))) (blkOk_by (own := [("_law_k", 3)]) (N := N_program) (sc := defScope s_program) (by decide +kernel)) (fun _ _ _ _ _ => gn (i := 3) sc_program.nd) (fun _ _ _ _ _ => ts_nil) (fun _ _ _ _ _ => i_callC c_next (hr.mono (by omega)) rfl (passes_call takes0 (fun _ _ _ _ h => h)) (i_cons (iv 0) (i_cons (i_bf call_lenU sd_len rfl (t_len T) rfl (i_cons (iv 2) (i_nil))) (i_nil)))))) (s_seq (s_set (i := 5) sc_program.nd rfl (.inr rfl) (i_ix (hu_of hr) (i_ls (i_cons (i_int) (i_cons (i_int) (i_nil)))) (i_callC c_next (hr.mono (by omega)) rfl (passes_call (takes_of rfl rfl rfl rfl) (fun _ _ _ _ h => h)) (i_cons (iv 0) (i_cons (i_int) (i_nil)))))) (s_one (s_ret (i_tup (i_cons (iv 2) (i_cons (i_ty call_tupleU sd_tuple rfl (t_tuple T) rfl (i_cons (i_lc (own := [("_law_number_here", 6)]) rfl sc_program.nd (i_rng rfl (t_range T) (i_bf call_lenU sd_len rfl (t_len T) rfl (i_cons (iv 4) (i_nil)))) (blkOk_by (own := [("_law_number_here", 6)]) (N := N_program) (sc := defScope s_program) (by decide +kernel)) (fun _ _ _ _ _ => gn (i := 6) sc_program.nd) (fun _ _ _ _ _ => ts_nil) (fun _ _ _ _ _ => i_callC c_kept (hr.mono (by omega)) rfl (passes_call takes0 (fun _ _ _ _ h => h)) (i_cons (iv 0) (i_cons (iv 2) (i_cons (iv 4) (i_cons (iv 6) (i_cons (iv 5) (i_nil)))))))) (i_nil))) (i_nil))))))))
theorem ok_wild_row (T : Top w K mg) (c_next : Cl P w K mg base (xcK K) "_law_next" ["_law_h", "_law_many"] 1 (m_next)) (c_number : Cl P w K mg base (xcK K) "_law_number" ["_law_h"] 2 (m_number)) : Cl P w K mg base (xcK K) "_law_wild_row" ["_law_h", "_law_rows", "_law_routines"] 3 (m_wild_row) := by
  obtain ⟨fd, F⟩ := T.c.def_ 33 (d := d_wild_row) rfl
  refine ⟨fd, def_PD (N := N_wild_row) F sc_wild_row (fun cdv A outer s H E hr => ?_), t_glo_wild_row T, F.kp, F.bindsN fun _ _ _ _ _ _ us hl => match us, hl with | [_, _, _], _ => rfl, lkF F⟩
  exact s_seq (s_set (i := 3) sc_wild_row.nd rfl (.inl rfl) (i_ls (i_cons (i_str) (i_cons (i_str) (i_cons (i_str) (i_cons (i_str) (i_cons (i_str) (i_cons (i_str) (i_cons (i_str) (i_cons (i_str) (i_cons (i_str) (i_cons (i_str) (i_cons (i_str) (i_cons (i_str) (i_cons (i_str) (i_cons (i_str) (i_nil))))))))))))))))) (s_seq (s_set (i := 3) sc_wild_row.nd rfl (.inl rfl) (i_ix (hu_of hr) (iv 3) (i_callC c_next (hr.mono (by omega)) rfl (passes_call (takes_of rfl rfl rfl rfl) (fun _ _ _ _ h => h)) (i_cons (iv 0) (i_cons (i_int) (i_nil)))))) (s_seq (s_setLc (i := 4) (own := [("_law_k", 5)]) rfl sc_wild_row.nd rfl rfl (sw_true rfl rfl rfl (by decide +kernel)) (i_rng rfl (t_range T) (i_int)) (blkOk_by (own := [("_law_k", 5)]) (N := N_wild_row) (sc := defScope s_wild_row) (by decide +kernel)) (fun _ _ _ _ _ => gn (i := 5) sc_wild_row.nd) (fun _ _ _ _ _ => ts_nil) (fun _ _ _ _ _ => i_callC c_next (hr.mono (by omega)) rfl (passes_call takes0 (fun _ _ _ _ h => h)) (i_cons (iv 0) (i_cons (i_int) (i_nil))))) (s_seq (s_if (j_cmp op_in_seq sd_in (iv 3) (i_tup (i_cons (i_str) (i_cons (i_str) (i_cons (i_str) (i_cons (i_str) (i_cons (i_str) (i_cons (i_str) (i_nil)))))))) rfl) (s_one (s_ret (i_op op_addU sd_add (i_tup (i_cons (iv 3) (i_nil))) (i_ty call_tupleU sd_tuple rfl (t_tuple T) rfl (i_cons (i_cut (iv 4) (o_none) (o_some (i_get2 (hu_of hr) (i_dc (d_cons (i_int) (d_cons (i_int) (d_cons (i_int) (d_nil))))) (iv 3) (i_int) (m2_of rfl rfl rfl rfl)))) (i_nil)))))) (s_nil)) (s_seq (s_if (j_cmp (op_eqD (hu64 hr)) sd_eq (iv 3) (i_str) (nomark _)) (s_one (s_ret (i_tup (i_cons (iv 3) (i_cons (i_ix (hu_of hr) (iv 4) (i_int)) (i_cons (i_callC c_number (hr.mono (by omega)) rfl (passes_call (takes_of rfl rfl rfl rfl) (fun _ _ _ _ h => h)) (i_cons (iv 0) (i_nil))) (i_nil))))))) (s_nil)) (s_seq (s_if (j_cmp (op_eqD (hu64 hr)) sd_eq (iv 3) (i_str) (nomark _)) (s_one (s_ret (i_tup (i_cons (iv 3) (i_cons (i_ix (hu_of hr) (iv 4) (i_int)) (i_cons (i_callC c_next (hr.mono (by omega)) rfl (passes_call (takes_of rfl rfl rfl rfl) (fun _ _ _ _ h => h)) (i_cons (iv 0) (i_cons (iv 1) (i_nil)))) (i_nil))))))) (s_nil)) (s_one (s_ret (i_ix (hu_of hr) (i_dc (d_cons (i_tup (i_cons (i_str) (i_cons (i_callC c_next (hr.mono (by omega)) rfl (passes_call (takes_of rfl rfl rfl rfl) (fun _ _ _ _ h => h)) (i_cons (iv 0) (i_cons (iv 1) (i_nil)))) (i_nil)))) (d_cons (i_tup (i_cons (i_str) (i_cons (i_callC c_next (hr.mono (by omega)) rfl (passes_call (takes_of rfl rfl rfl rfl) (fun _ _ _ _ h => h)) (i_cons (iv 0) (i_cons (iv 2) (i_nil)))) (i_nil)))) (d_cons (i_tup (i_cons (i_str) (i_nil))) (d_nil))))) (iv 3)))))))))
theorem ok_odd (T : Top w K mg) (c_next : Cl P w K mg base (xcK K) "_law_next" ["_law_h", "_law_many"] 1 (m_next)) (c_wild_row : Cl P w K mg base (xcK K) "_law_wild_row" ["_law_h", "_law_rows", "_law_routines"] 3 (m_wild_row)) : Cl P w K mg base (xcK K) "_law_odd" ["_law_h", "_law_program_here", "_law_turns"] 4 (m_odd) := by
  obtain ⟨fd, F⟩ := T.c.def_ 34 (d := d_odd) rfl
  refine ⟨fd, def_PD (N := N_odd) F sc_odd (fun cdv A outer s H E hr => ?_), t_glo_odd T, F.kp, F.bindsN fun _ _ _ _ _ _ us hl => match us, hl with | [_, _, _], _ => rfl, lkF F⟩
  exact s_seq (s_asg (iv 1) (g_tup rfl (gs_cons (gn (i := 3) sc_odd.nd) (gs_cons (gn (i := 4) sc_odd.nd) (gs_nil))))) (s_seq (s_for (passes_of rfl) rfl (i_rng rfl (t_range T) (iv 2)) (gn (i := 5) sc_odd.nd) (s_seq (s_set (i := 6) sc_odd.nd rfl (.inl rfl) (i_callC c_next (hr.mono (by omega)) rfl (passes_call (takes_of rfl rfl rfl rfl) (fun _ _ _ _ h => h)) (i_cons (iv 0) (i_cons (i_bf call_lenU sd_len rfl (t_len T) rfl (i_cons (iv 4) (i_nil))) (i_nil))))) (s_seq (s_asg (i_ix (hu_of hr) (iv 4) (iv 6)) (g_tup rfl (gs_cons (gn (i := 7) sc_odd.nd) (gs_cons (gn (i := 8) sc_odd.nd) (gs_nil))))) (s_seq (s_set (i := 9) sc_odd.nd rfl (.inl rfl) (i_callC c_next (hr.mono (by omega)) rfl (passes_call (takes_of rfl rfl rfl rfl) (fun _ _ _ _ h => h)) (i_cons (iv 0) (i_cons (i_bf call_lenU sd_len rfl (t_len T) rfl (i_cons (iv 8) (i_nil))) (i_nil))))) (s_seq (s_set (i := 10) sc_odd.nd rfl (.inl rfl) (i_callC c_wild_row (hr.mono (by omega)) rfl (passes_call (takes_of rfl rfl rfl rfl) (fun _ _ _ _ h => h)) (i_cons (iv 0) (i_cons (i_bf call_lenU sd_len rfl (t_len T) rfl (i_cons (iv 8) (i_nil))) (i_cons (i_bf call_lenU sd_len rfl (t_len T) rfl (i_cons (iv 4) (i_nil))) (i_nil)))))) (s_seq (s_set (i := 11) sc_odd.nd rfl (.inl rfl) (i_callC c_next (hr.mono (by omega)) rfl (passes_call (takes_of rfl rfl rfl rfl) (fun _ _ _ _ h => h)) (i_cons (iv 0) (i_cons (i_int) (i_nil))))) (s_seq (s_set (i := 12) sc_odd.nd rfl (.inl rfl) (i_ls (i_cons (i_op op_addU sd_add (i_op op_addU sd_add (i_cut (iv 8) (o_none) (o_some (iv 9))) (i_tup (i_cons (iv 10) (i_nil)))) (i_cut (iv 8) (o_some (i_op op_addU sd_add (iv 9) (i_int))) (o_none))) (i_cons (i_op op_addU sd_add (i_op op_addU sd_add (i_cut (iv 8) (o_none) (o_some (iv 9))) (i_tup (i_cons (iv 10) (i_nil)))) (i_cut (iv 8) (o_some (iv 9)) (o_none))) (i_cons (i_op op_addU sd_add (i_cut (iv 8) (o_none) (o_some (iv 9))) (i_cut (iv 8) (o_some (i_op op_addU sd_add (iv 9) (i_int))) (o_none))) (i_cons (iv 8) (i_nil))))))) (s_seq (s_set (i := 12) sc_odd.nd rfl (.inl rfl) (i_ix (hu_of hr) (iv 12) (iv 11))) (s_seq (s_set (i := 13) sc_odd.nd rfl (.inr rfl) (i_bf call_lenU sd_len rfl (t_len T) rfl (i_cons (iv 12) (i_nil)))) (s_seq (s_set (i := 12) sc_odd.nd rfl (.inl rfl) (i_ty call_tupleU sd_tuple rfl (t_tuple T) rfl (i_cons (i_lc (own := [("_law_one", 14)]) rfl sc_odd.nd (i_seq (iv 12)) (blkOk_by (own := [("_law_one", 14)]) (N := N_odd) (sc := defScope s_odd) (by decide +kernel)) (fun _ _ _ _ _ => gn (i := 14) sc_odd.nd) (fun _ _ _ _ _ => ts_nil) (fun _ _ _ _ _ => i_ifExp (j_cmp op_in_seq sd_in (i_ix (hu_of hr) (iv 14) (i_int)) (i_tup (i_cons (i_str) (i_cons (i_str) (i_nil)))) rfl) (i_op op_addU sd_add (i_cut (iv 14) (o_none) (o_some (i_un un_neg sd_neg (i_int)))) (i_tup (i_cons (i_bf (call_minU rfl) sd_min rfl (t_min T) rfl (i_cons (i_ix (hu_of hr) (iv 14) (i_un un_neg sd_neg (i_int))) (i_cons (i_op op_sub sd_sub (iv 13) (i_int)) (i_nil)))) (i_nil)))) (iv 14))) (i_nil)))) (s_seq (s_if (PW.pt (j_and (j_cmp (op_eqD (hu64 hr)) sd_eq (iv 11) (i_int) (nomark _)) (j_and1 (j_cmp op_gt sd_gt (i_bf call_lenU sd_len rfl (t_len T) rfl (i_cons (iv 3) (i_nil))) (i_int) (nomark _))))) (s_one (s_set (i := 7) sc_odd.nd rfl (.inl rfl) (i_callC c_next (hr.mono (by omega)) rfl (passes_call (takes_of rfl rfl rfl rfl) (fun _ _ _ _ h => h)) (i_cons (iv 0) (i_cons (i_bf call_lenU sd_len rfl (t_len T) rfl (i_cons (iv 3) (i_nil))) (i_nil)))))) (s_nil)) (s_one (s_if (PW.pt (j_and (j_chain op_lt sd_lt op_lt sd_lt (i_int) (iv 13) (i_int)) (j_and1 (j_cmp op_in_seq sd_in (i_ix (hu_of hr) (i_ix (hu_of hr) (iv 12) (i_un un_neg sd_neg (i_int))) (i_int)) (i_tup (i_cons (i_str) (i_cons (i_str) (i_nil)))) rfl)))) (s_one (s_set (i := 4) sc_odd.nd rfl (.inl rfl) (i_op op_addU sd_add (i_op op_addU sd_add (i_cut (iv 4) (o_none) (o_some (iv 6))) (i_tup (i_cons (i_tup (i_cons (iv 7) (i_cons (iv 12) (i_nil)))) (i_nil)))) (i_cut (iv 4) (o_some (i_op op_addU sd_add (iv 6) (i_int))) (o_none))))) (s_nil)))))))))))))) (s_one (s_ret (i_tup (i_cons (iv 3) (i_cons (iv 4) (i_nil)))))))
theorem ok_wild (T : Top w K mg) (c_next : Cl P w K mg base (xcK K) "_law_next" ["_law_h", "_law_many"] 1 (m_next)) (c_wild_row : Cl P w K mg base (xcK K) "_law_wild_row" ["_law_h", "_law_rows", "_law_routines"] 3 (m_wild_row)) (c_house : Cl P w K mg base (xcK K) "_law_house" ["_law_h"] 2 (m_house)) : Cl P w K mg base (xcK K) "_law_wild" ["_law_h", "_law_most"] 4 (m_wild) := by
  obtain ⟨fd, F⟩ := T.c.def_ 35 (d := d_wild) rfl
  refine ⟨fd, def_PD (N := N_wild) F sc_wild (fun cdv A outer s H E hr => ?_), t_glo_wild T, F.kp, F.bindsN fun _ _ _ _ _ _ us hl => match us, hl with | [_, _], _ => rfl, lkF F⟩
  exact s_seq (s_set (i := 2) sc_wild.nd rfl (.inl rfl) (i_ty call_tupleU sd_tuple rfl (t_tuple T) rfl (i_cons (i_lc (own := [("_law_k", 3)]) rfl sc_wild.nd (i_rng rfl (t_range T) (i_op op_addU sd_add (i_int) (i_callC c_next (hr.mono (by omega)) rfl (passes_call (takes_of rfl rfl rfl rfl) (fun _ _ _ _ h => h)) (i_cons (iv 0) (i_cons (i_int) (i_nil)))))) (blkOk_by (own := [("_law_k", 3)]) (N := N_wild) (sc := defScope s_wild) (by decide +kernel)) (fun _ _ _ _ _ => gn (i := 3) sc_wild.nd) (fun _ _ _ _ _ => ts_nil) (fun _ _ _ _ _ => i_callC c_house (hr.mono (by omega)) rfl (passes_call takes0 (fun _ _ _ _ h => h)) (i_cons (iv 0) (i_nil)))) (i_nil)))) (s_seq (s_set (i := 4) sc_wild.nd rfl (.inr rfl) (i_op op_addU sd_add (i_int) (i_callC c_next (hr.mono (by omega)) rfl (passes_call (takes_of rfl rfl rfl rfl) (fun _ _ _ _ h => h)) (i_cons (iv 0) (i_cons (i_int) (i_nil)))))) (s_seq (s_set (i := 5) sc_wild.nd rfl (.inl rfl) (i_new (i_nil))) (s_seq (s_for (passes_of rfl) rfl (i_rng rfl (t_range T) (iv 4)) (gn (i := 3) sc_wild.nd) (s_seq (s_set (i := 6) sc_wild.nd rfl (.inr rfl) (i_op op_addU sd_add (i_int) (i_callC c_next (hr.mono (by omega)) rfl (passes_call (takes_of rfl rfl rfl rfl) (fun _ _ _ _ h => h)) (i_cons (iv 0) (i_cons (iv 1) (i_nil)))))) (s_seq (s_set (i := 7) sc_wild.nd rfl (.inl rfl) (i_op op_addU sd_add (i_lc (own := [("_law_row", 8)]) rfl sc_wild.nd (i_rng rfl (t_range T) (i_op op_sub sd_sub (iv 6) (i_int))) (blkOk_by (own := [("_law_row", 8)]) (N := N_wild) (sc := defScope s_wild) (by decide +kernel)) (fun _ _ _ _ _ => gn (i := 8) sc_wild.nd) (fun _ _ _ _ _ => ts_nil) (fun _ _ _ _ _ => i_callC c_wild_row (hr.mono (by omega)) rfl (passes_call takes0 (fun _ _ _ _ h => h)) (i_cons (iv 0) (i_cons (iv 6) (i_cons (iv 4) (i_nil)))))) (i_ls (i_cons (i_ix (hu_of hr) (i_ls (i_cons (i_tup (i_cons (i_str) (i_nil))) (i_cons (i_tup (i_cons (i_str) (i_cons (i_int) (i_nil)))) (i_nil)))) (i_callC c_next (hr.mono (by omega)) rfl (passes_call (takes_of rfl rfl rfl rfl) (fun _ _ _ _ h => h)) (i_cons (iv 0) (i_cons (i_int) (i_nil))))) (i_nil))))) (s_one (s_drop (i_append (iv 5) (i_tup (i_cons (i_callC c_next (hr.mono (by omega)) rfl (passes_call (takes_of rfl rfl rfl rfl) (fun _ _ _ _ h => h)) (i_cons (iv 0) (i_cons (i_bf call_lenU sd_len rfl (t_len T) rfl (i_cons (iv 2) (i_nil))) (i_nil)))) (i_cons (i_ty call_tupleU sd_tuple rfl (t_tuple T) rfl (i_cons (iv 7) (i_nil))) (i_nil)))))))))) (s_one (s_ret (i_tup (i_cons (iv 2) (i_cons (i_ty call_tupleU sd_tuple rfl (t_tuple T) rfl (i_cons (iv 5) (i_nil))) (i_nil)))))))))
theorem ok_any (T : Top w K mg) (c_odd : Cl P w K mg base (xcK K) "_law_odd" ["_law_h", "_law_program_here", "_law_turns"] 4 (m_odd)) (c_next : Cl P w K mg base (xcK K) "_law_next" ["_law_h", "_law_many"] 1 (m_next)) (c_program : Cl P w K mg base (xcK K) "_law_program" ["_law_h", "_law_most"] 6 (m_program)) (c_wild : Cl P w K mg base (xcK K) "_law_wild" ["_law_h", "_law_most"] 4 (m_wild)) : Cl P w K mg base (xcK K) "_law_any" ["_law_h"] 7 (m_any) := by
  obtain ⟨fd, F⟩ := T.c.def_ 36 (d := d_any) rfl
  refine ⟨fd, def_PD (N := N_any) F sc_any (fun cdv A outer s H E hr => ?_), t_glo_any T, F.kp, F.bindsN fun _ _ _ _ _ _ us hl => match us, hl with | [_], _ => rfl, lkF F⟩
  exact s_seq (s_set (i := 1) sc_any.nd rfl (.inl rfl) (i_callC c_next (hr.mono (by omega)) rfl (passes_call (takes_of rfl rfl rfl rfl) (fun _ _ _ _ h => h)) (i_cons (iv 0) (i_cons (i_int) (i_nil))))) (s_seq (s_if (j_cmp (op_eqD (hu64 hr)) sd_eq (iv 1) (i_int) (nomark _)) (s_one (s_ret (i_callC c_wild (hr.mono (by omega)) rfl (passes_call (takes_of rfl rfl rfl rfl) (fun _ _ _ _ h => h)) (i_cons (iv 0) (i_cons (i_ix (hu_of hr) (i_ls (i_cons (i_int) (i_cons (i_int) (i_cons (i_int) (i_nil))))) (i_callC c_next (hr.mono (by omega)) rfl (passes_call (takes_of rfl rfl rfl rfl) (fun _ _ _ _ h => h)) (i_cons (iv 0) (i_cons (i_int) (i_nil))))) (i_nil)))))) (s_nil)) (s_seq (s_set (i := 2) sc_any.nd rfl (.inl rfl) (i_callC c_program (hr.mono (by omega)) rfl (passes_call (takes_of rfl rfl rfl rfl) (fun _ _ _ _ h => h)) (i_cons (iv 0) (i_cons (i_int) (i_nil))))) (s_one (s_ret (i_ifExp (j_cmp (op_eqD (hu64 hr)) sd_eq (iv 1) (i_int) (nomark _)) (iv 2) (i_callC c_odd (hr.mono (by omega)) rfl (passes_call (takes_of rfl rfl rfl rfl) (fun _ _ _ _ h => h)) (i_cons (iv 0) (i_cons (iv 2) (i_cons (i_op op_addU sd_add (i_int) (i_callC c_next (hr.mono (by omega)) rfl (passes_call (takes_of rfl rfl rfl rfl) (fun _ _ _ _ h => h)) (i_cons (iv 0) (i_cons (i_int) (i_nil))))) (i_nil))))))))))
theorem ok_forms (T : Top w K mg)  : Cl P w K mg base (xcK K) "_law_forms" [] 1 (m_forms) := by
  obtain ⟨fd, F⟩ := T.c.def_ 37 (d := d_forms) rfl
  refine ⟨fd, def_KD (N := N_forms) F sc_forms (fun cdv A outer s H E hr => ?_), t_glo_forms T, F.kp, F.bindsN fun _ _ _ _ _ _ us hl => match us, hl with | [], _ => rfl, lkF F⟩
  exact s_seq (s_set (i := 0) sc_forms.nd rfl (.inl rfl) (i_dks (d_cons (i_int) (d_cons (i_int) (d_cons (i_int) (d_cons (i_int) (d_cons (i_int) (d_cons (i_int) (d_cons (i_int) (d_cons (i_int) (d_cons (i_int) (d_cons (i_int) (d_nil))))))))))))) (s_seq (s_asg (i_int) (g_sub (hu_of hr) (iv 0) (i_str))) (s_one (s_ret (iv 0))))
theorem ok_figures (T : Top w K mg)  : Cl P w K mg base (xcK K) "_law_figures" ["_law_word"] 1 (m_figures) := by
  obtain ⟨fd, F⟩ := T.c.def_ 38 (d := d_figures) rfl
  refine ⟨fd, def_PD (N := N_figures) F sc_figures (fun cdv A outer s H E hr => ?_), t_glo_figures T, F.kp, F.bindsN fun _ _ _ _ _ _ us hl => match us, hl with | [_], _ => rfl, lkF F⟩
  exact s_seq (s_if (PW.pt (j_or (j_not (j_chain op_lt sd_lt op_lt sd_lt (i_int) (i_bf call_lenS sd_lenS rfl (t_len T) rfl (i_cons (iv 0) (i_nil))) (i_int))) (j_or1 (j_cmp (op_neD (hu64 hr)) sd_ne (i_lc (own := [("_law_sign", 1)]) rfl sc_figures.nd (i_chs (iv 0)) (blkOk_by (own := [("_law_sign", 1)]) (N := N_figures) (sc := defScope s_figures) (by decide +kernel)) (fun _ _ _ _ _ => gn (i := 1) sc_figures.nd) (fun _ _ _ _ _ => ts_one (j_cmp op_notInC sd_notInC (iv 1) (i_str) rfl)) (fun _ _ _ _ _ => iv 1)) (i_ls (i_nil)) (nomark _))))) (s_one (s_ret (i_bl))) (s_nil)) (s_one (s_ret (i_or (i_cmp (op_eqD (hu64 hr)) sd_eq (iv 0) (i_str) (nomark _)) (i_one (i_cmp (op_neD (hu64 hr)) sd_ne (i_ixC (iv 0) (i_int)) (i_str) (nomark _))))))
theorem ok_boxes (T : Top w K mg)  : Cl P w K mg base (xcK K) "_law_boxes" ["_law_word"] 1 (m_boxes) := by
  obtain ⟨fd, F⟩ := T.c.def_ 39 (d := d_boxes) rfl
  refine ⟨fd, def_PD (N := N_boxes) F sc_boxes (fun cdv A outer s H E hr => ?_), t_glo_boxes T, F.kp, F.bindsN fun _ _ _ _ _ _ us hl => match us, hl with | [_], _ => rfl, lkF F⟩
  exact s_one (s_ret (i_or (i_cmp (op_eqD (hu64 hr)) sd_eq (iv 0) (i_str) (nomark _)) (i_one (i_and (i_cmp (op_neD (hu64 hr)) sd_ne (iv 0) (i_str) (nomark _)) (i_one (i_cmp (op_eqD (hu64 hr)) sd_eq (i_lc (own := [("_law_sign", 1)]) rfl sc_boxes.nd (i_chs (iv 0)) (blkOk_by (own := [("_law_sign", 1)]) (N := N_boxes) (sc := defScope s_boxes) (by decide +kernel)) (fun _ _ _ _ _ => gn (i := 1) sc_boxes.nd) (fun _ _ _ _ _ => ts_one (j_cmp op_notInC sd_notInC (iv 1) (i_str) rfl)) (fun _ _ _ _ _ => iv 1)) (i_ls (i_nil)) (nomark _)))))))
theorem ok_line (T : Top w K mg) (c_figures : Cl P w K mg base (xcK K) "_law_figures" ["_law_word"] 1 (m_figures)) (c_forms : Cl P w K mg base (xcK K) "_law_forms" [] 1 (m_forms)) (c_boxes : Cl P w K mg base (xcK K) "_law_boxes" ["_law_word"] 1 (m_boxes)) : Cl P w K mg base (xcK K) "_law_line" ["_law_words", "_law_is_behind"] 2 (m_line) := by
  obtain ⟨fd, F⟩ := T.c.def_ 40 (d := d_line) rfl
  refine ⟨fd, def_PD (N := N_line) F sc_line (fun cdv A outer s H E hr => ?_), t_glo_line T, F.kp, F.bindsN fun _ _ _ _ _ _ us hl => match us, hl with | [_, _], _ => rfl, lkF F⟩
  exact s_seq (s_if (j_cmp (op_eqD (hu64 hr)) sd_eq (i_ix (hu_of hr) (iv 0) (i_int)) (i_str) (nomark _)) (s_seq (s_set (i := 2) sc_line.nd rfl (.inl rfl) (i_and (i_cmp (op_eqD (hu64 hr)) sd_eq (i_bf call_lenU sd_len rfl (t_len T) rfl (i_cons (iv 0) (i_nil))) (i_int) (nomark _)) (i_one (i_not (iv 1))))) (s_one (s_ret (i_and (iv 2) (i_and (i_callC c_boxes (hr.mono (by omega)) rfl (passes_call (takes_of rfl rfl rfl rfl) (fun _ _ _ _ h => h)) (i_cons (i_ix (hu_of hr) (iv 0) (i_int)) (i_nil))) (i_and (i_callC c_figures (hr.mono (by omega)) rfl (passes_call (takes_of rfl rfl rfl rfl) (fun _ _ _ _ h => h)) (i_cons (i_ix (hu_of hr) (iv 0) (i_int)) (i_nil))) (i_one (i_callC c_boxes (hr.mono (by omega)) rfl (passes_call (takes_of rfl rfl rfl rfl) (fun _ _ _ _ h => h)) (i_cons (i_ix (hu_of hr) (iv 0) (i_int)) (i_nil)))))))))) (s_nil)) (s_seq (s_if (j_cmp (op_eqD (hu64 hr)) sd_eq (i_ix (hu_of hr) (iv 0) (i_int)) (i_str) (nomark _)) (s_one (s_ret (i_and (i_cmp (op_eqD (hu64 hr)) sd_eq (i_bf call_lenU sd_len rfl (t_len T) rfl (i_cons (iv 0) (i_nil))) (i_int) (nomark _)) (i_one (i_callC c_figures (hr.mono (by omega)) rfl (passes_call (takes_of rfl rfl rfl rfl) (fun _ _ _ _ h => h)) (i_cons (i_ix (hu_of hr) (iv 0) (i_int)) (i_nil))))))) (s_nil)) (s_seq (s_set (i := 3) sc_line.nd rfl (.inl rfl) (i_get2 (hu_of hr) (i_callC0 c_forms (hr.mono (by omega)) rfl (passes_call (takes_of rfl rfl rfl rfl) (fun _ _ _ _ h => h))) (i_ix (hu_of hr) (iv 0) (i_int)) (i_un un_neg sd_neg (i_int)) (m2_of rfl rfl rfl rfl))) (s_one (s_ret (i_and (iv 1) (i_and (i_cmp (op_eqD (hu64 hr)) sd_eq (iv 3) (i_op op_sub sd_sub (i_bf call_lenU sd_len rfl (t_len T) rfl (i_cons (iv 0) (i_nil))) (i_int)) (nomark _)) (i_one (i_cmp (op_eqD (hu64 hr)) sd_eq (i_lc (own := [("_law_word", 4)]) rfl sc_line.nd (i_seq (i_cut (iv 0) (o_some (i_int)) (o_none))) (blkOk_by (own := [("_law_word", 4)]) (N := N_line) (sc := defScope s_line) (by decide +kernel)) (fun _ _ _ _ _ => gn (i := 4) sc_line.nd) (fun _ _ _ _ _ => ts_one (j_not (j_val (i_callC c_figures (hr.mono (by omega)) rfl (passes_call takes0 (fun _ _ _ _ h => h)) (i_cons (iv 4) (i_nil)))))) (fun _ _ _ _ _ => iv 4)) (i_ls (i_nil)) (nomark _)))))))))
theorem ok_made (T : Top w K mg)  : Cl P w K mg base (xcK K) "_law_made" ["_law_lines"] 1 (m_made) := by
  obtain ⟨fd, F⟩ := T.c.def_ 41 (d := d_made) rfl
  refine ⟨fd, def_PD (N := N_made) F sc_made (fun cdv A outer s H E hr => ?_), t_glo_made T, F.kp, F.bindsN fun _ _ _ _ _ _ us hl => match us, hl with | [_], _ => rfl, lkF F⟩
  exact s_seq (s_set (i := 1) sc_made.nd rfl (.inl rfl) (i_new (i_nil))) (s_seq (s_set (i := 2) sc_made.nd rfl (.inl rfl) (i_new (i_nil))) (s_seq (s_for (passes_of rfl) rfl (i_seq (iv 0)) (gn (i := 3) sc_made.nd) (s_seq (s_set (i := 4) sc_made.nd rfl (.inl rfl) (i_splitS (iv 3) (i_str))) (s_one (s_if (j_cmp (op_eqD (hu64 hr)) sd_eq (i_ix (hu_of hr) (iv 4) (i_int)) (i_str) (nomark _)) (s_seq (s_asg (i_lc (own := [("_law_word", 9)]) rfl sc_made.nd (i_seq (i_tup (i_cons (i_ix (hu_of hr) (iv 4) (i_int)) (i_cons (i_ix (hu_of hr) (iv 4) (i_int)) (i_nil))))) (blkOk_by (own := [("_law_word", 9)]) (N := N_made) (sc := defScope s_made) (by decide +kernel)) (fun _ _ _ _ _ => gn (i := 9) sc_made.nd) (fun _ _ _ _ _ => ts_nil) (fun _ _ _ _ _ => i_ty call_tupleU sd_tuple rfl (t_tuple T) rfl (i_cons (i_lc (own := [("_law_sign", 10)]) rfl sc_made.nd (i_chs (iv 9)) (blkOk_by (own := [("_law_sign", 10)]) (N := N_made) (by first | decide +kernel | (dsimp only [compEnvC]; decide +kernel) | (simp only [compEnvC]; decide +kernel) | rfl)) (fun _ _ _ _ _ => gn (i := 10) sc_made.nd) (fun _ _ _ _ _ => ts_one (j_cmp (op_neD (hu64 hr)) sd_ne (iv 10) (i_str) (nomark _))) (fun _ _ _ _ _ => i_ty call_intS sd_intS rfl (t_int T) rfl (i_cons (iv 10) (i_nil)))) (i_nil)))) (g_tup rfl (gs_cons (gn (i := 5) sc_made.nd) (gs_cons (gn (i := 6) sc_made.nd) (gs_nil))))) (s_one (s_drop (i_append (iv 1) (i_tup (i_cons (iv 5) (i_cons (i_ty call_intS sd_intS rfl (t_int T) rfl (i_cons (i_ix (hu_of hr) (iv 4) (i_int)) (i_nil))) (i_cons (iv 6) (i_nil))))))))) (s_one (s_if (j_cmp (op_eqD (hu64 hr)) sd_eq (i_ix (hu_of hr) (iv 4) (i_int)) (i_str) (nomark _)) (s_one (s_drop (i_append (iv 2) (i_tup (i_cons (i_ty call_intS sd_intS rfl (t_int T) rfl (i_cons (i_ix (hu_of hr) (iv 4) (i_int)) (i_nil))) (i_cons (i_tup (i_nil)) (i_nil))))))) (s_seq (s_asg (i_pop (iv 2)) (g_tup rfl (gs_cons (gn (i := 7) sc_made.nd) (gs_cons (gn (i := 8) sc_made.nd) (gs_nil))))) (s_one (s_drop (i_append (iv 2) (i_tup (i_cons (iv 7) (i_cons (i_op op_addU sd_add (iv 8) (i_tup (i_cons (i_op op_addU sd_add (i_tup (i_cons (i_ix (hu_of hr) (iv 4) (i_int)) (i_nil))) (i_ty call_tupleU sd_tuple rfl (t_tuple T) rfl (i_cons (i_lc (own := [("_law_word", 9)]) rfl sc_made.nd (i_seq (i_cut (iv 4) (o_some (i_int)) (o_none))) (blkOk_by (own := [("_law_word", 9)]) (N := N_made) (sc := defScope s_made) (by decide +kernel)) (fun _ _ _ _ _ => gn (i := 9) sc_made.nd) (fun _ _ _ _ _ => ts_nil) (fun _ _ _ _ _ => i_ty call_intS sd_intS rfl (t_int T) rfl (i_cons (iv 9) (i_nil)))) (i_nil)))) (i_nil)))) (i_nil)))))))))))))) (s_one (s_ret (i_tup (i_cons (i_ty call_tupleU sd_tuple rfl (t_tuple T) rfl (i_cons (iv 1) (i_nil))) (i_cons (i_ty call_tupleU sd_tuple rfl (t_tuple T) rfl (i_cons (iv 2) (i_nil))) (i_nil))))))))
theorem ok_spoilt (T : Top w K mg) (c_next : Cl P w K mg base (xcK K) "_law_next" ["_law_h", "_law_many"] 1 (m_next)) : Cl P w K mg base (xcK K) "_law_spoilt" ["_law_h", "_law_text"] 2 (m_spoilt) := by
  obtain ⟨fd, F⟩ := T.c.def_ 42 (d := d_spoilt) rfl
  refine ⟨fd, def_PD (N := N_spoilt) F sc_spoilt (fun cdv A outer s H E hr => ?_), t_glo_spoilt T, F.kp, F.bindsN fun _ _ _ _ _ _ us hl => match us, hl with | [_, _], _ => rfl, lkF F⟩
  exact s_seq (s_set (i := 2) sc_spoilt.nd rfl (.inl rfl) (i_callC c_next (hr.mono (by omega)) rfl (passes_call (takes_of rfl rfl rfl rfl) (fun _ _ _ _ h => h)) (i_cons (iv 0) (i_cons (i_int) (i_nil))))) (s_seq (s_set (i := 3) sc_spoilt.nd rfl (.inl rfl) (i_callC c_next (hr.mono (by omega)) rfl (passes_call (takes_of rfl rfl rfl rfl) (fun _ _ _ _ h => h)) (i_cons (iv 0) (i_cons (i_op op_addU sd_add (i_bf call_lenS sd_lenS rfl (t_len T) rfl (i_cons (iv 1) (i_nil))) (i_int)) (i_nil))))) (s_seq (s_set (i := 4) sc_spoilt.nd rfl (.inl rfl) (i_str)) (s_seq (s_set (i := 5) sc_spoilt.nd rfl (.inl rfl) (i_ixC (iv 4) (i_callC c_next (hr.mono (by omega)) rfl (passes_call (takes_of rfl rfl rfl rfl) (fun _ _ _ _ h => h)) (i_cons (iv 0) (i_cons (i_ix (hu_of hr) (i_ls (i_cons (i_int) (i_cons (i_bf call_lenS sd_lenS rfl (t_len T) rfl (i_cons (iv 4) (i_nil))) (i_nil)))) (i_callC c_next (hr.mono (by omega)) rfl (passes_call (takes_of rfl rfl rfl rfl) (fun _ _ _ _ h => h)) (i_cons (iv 0) (i_cons (i_int) (i_nil))))) (i_nil)))))) (s_seq (s_if (j_cmp op_lt sd_lt (iv 2) (i_int) (nomark _)) (s_one (s_ret (i_op op_addS sd_addS (i_op op_addS sd_addS (i_cutS (iv 1) (o_none) (o_some (iv 3))) (i_ix (hu_of hr) (i_ls (i_cons (iv 5) (i_cons (i_str) (i_cons (iv 5) (i_nil))))) (iv 2))) (i_cutS (iv 1) (o_some (i_op op_addU sd_add (iv 3) (i_ty call_intU sd_int rfl (t_int T) rfl (i_cons (i_cmp op_gt sd_gt (iv 2) (i_int) (nomark _)) (i_nil))))) (o_none))))) (s_nil)) (s_seq (s_set (i := 6) sc_spoilt.nd rfl (.inl rfl) (i_splitS (iv 1) (i_str))) (s_seq (s_set (i := 7) sc_spoilt.nd rfl (.inl rfl) (i_callC c_next (hr.mono (by omega)) rfl (passes_call (takes_of rfl rfl rfl rfl) (fun _ _ _ _ h => h)) (i_cons (iv 0) (i_cons (i_bf call_lenS sd_lenS rfl (t_len T) rfl (i_cons (iv 6) (i_nil))) (i_nil))))) (s_seq (s_if (j_cmp op_lt sd_lt (iv 2) (i_int) (nomark _)) (s_one (s_ret (i_joinS (i_str) (i_ix (hu_of hr) (i_ls (i_cons (i_op op_addU sd_add (i_cut (iv 6) (o_none) (o_some (iv 7))) (i_cut (iv 6) (o_some (i_op op_addU sd_add (iv 7) (i_int))) (o_none))) (i_cons (i_op op_addU sd_add (i_cut (iv 6) (o_none) (o_some (i_op op_addU sd_add (iv 7) (i_int)))) (i_cut (iv 6) (o_some (iv 7)) (o_none))) (i_cons (i_op op_addU sd_add (i_cut (iv 6) (o_some (iv 7)) (o_none)) (i_cut (iv 6) (o_none) (o_some (iv 7)))) (i_nil))))) (i_op op_sub sd_sub (iv 2) (i_int)))))) (s_nil)) (s_seq (s_set (i := 8) sc_spoilt.nd rfl (.inl rfl) (i_splitS (i_ix (hu_of hr) (iv 6) (iv 7)) (i_str))) (s_seq (s_set (i := 9) sc_spoilt.nd rfl (.inl rfl) (i_callC c_next (hr.mono (by omega)) rfl (passes_call (takes_of rfl rfl rfl rfl) (fun _ _ _ _ h => h)) (i_cons (iv 0) (i_cons (i_bf call_lenS sd_lenS rfl (t_len T) rfl (i_cons (iv 8) (i_nil))) (i_nil))))) (s_seq (s_set (i := 10) sc_spoilt.nd rfl (.inl rfl) (i_ls (i_cons (i_str) (i_cons (i_str) (i_cons (i_str) (i_cons (i_str) (i_cons (i_str) (i_cons (i_str) (i_cons (i_str) (i_cons (i_str) (i_cons (i_str) (i_cons (i_str) (i_cons (i_str) (i_cons (i_str) (i_cons (i_str) (i_cons (i_str) (i_cons (i_str) (i_cons (i_str) (i_nil))))))))))))))))))) (s_seq (s_set (i := 10) sc_spoilt.nd rfl (.inl rfl) (i_op op_addU sd_add (iv 10) (i_ls (i_cons (i_str) (i_cons (i_str) (i_cons (i_str) (i_cons (i_str) (i_cons (i_str) (i_cons (i_str) (i_cons (i_str) (i_cons (i_str) (i_nil)))))))))))) (s_seq (s_set (i := 8) sc_spoilt.nd rfl (.inl rfl) (i_op op_addU sd_add (i_op op_addU sd_add (i_cut (iv 8) (o_none) (o_some (iv 9))) (i_ix (hu_of hr) (i_ls (i_cons (i_ls (i_nil)) (i_cons (i_op op_mulU sd_mul (i_ls (i_cons (i_ix (hu_of hr) (iv 8) (iv 9)) (i_nil))) (i_int)) (i_cons (i_ls (i_cons (i_ix (hu_of hr) (iv 10) (i_callC c_next (hr.mono (by omega)) rfl (passes_call (takes_of rfl rfl rfl rfl) (fun _ _ _ _ h => h)) (i_cons (iv 0) (i_cons (i_int) (i_nil))))) (i_nil))) (i_nil))))) (i_op op_sub sd_sub (iv 2) (i_int)))) (i_cut (iv 8) (o_some (i_op op_addU sd_add (iv 9) (i_int))) (o_none)))) (s_one (s_ret (i_joinS (i_str) (i_op op_addU sd_add (i_op op_addU sd_add (i_cut (iv 6) (o_none) (o_some (iv 7))) (i_ls (i_cons (i_joinS (i_str) (iv 8)) (i_nil)))) (i_cut (iv 6) (o_some (i_op op_addU sd_add (iv 7) (i_int))) (o_none))))))))))))))))))
theorem ok_law (T : Top w K mg) (c_next : Cl P w K mg base (xcK K) "_law_next" ["_law_h", "_law_many"] 1 (m_next)) (c_alike : Cl P w K mg base (xcK K) "_law_alike" ["_law_found", "_law_due"] 8 (m_alike)) (c_read : Cl P w K mg base (xcK K) "read" ["text"] 6 (m_read)) (c_made : Cl P w K mg base (xcK K) "_law_made" ["_law_lines"] 1 (m_made)) (c_written : Cl P w K mg base (xcK K) "written" ["program"] 6 (m_written)) (c_line : Cl P w K mg base (xcK K) "_law_line" ["_law_words", "_law_is_behind"] 2 (m_line)) (c_spoilt : Cl P w K mg base (xcK K) "_law_spoilt" ["_law_h", "_law_text"] 2 (m_spoilt)) (c_any : Cl P w K mg base (xcK K) "_law_any" ["_law_h"] 7 (m_any)) (c_mix : Cl P w K mg base (xcK K) "_law_mix" ["_law_script", "_law_seed"] 1 (m_mix)) (tb : LamX.TabB base mg (He.cT K ("law", none)).1 (He.cT K ("law", none)).2) : Cl P w K mg base (xcK K) "law" ["_law_script"] 9 (m_law) := by
  obtain ⟨fd, F⟩ := T.c.def_ 43 (d := d_law) rfl
  refine ⟨fd, def_KC (pd := ("law", none)) (N := N_law) F sc_law (fun A outer s H E hr => ?_), t_glo_law T, F.kp, F.bindsN fun _ _ _ _ _ _ us hl => match us, hl with | [_], _ => rfl, lkF F⟩
  exact s_seq (s_set (i := 1) sc_law.nd rfl (.inl rfl) (i_callC c_mix (hr.mono (by omega)) rfl (passes_call (takes_of rfl rfl rfl rfl) (fun _ _ _ _ h => h)) (i_cons (iv 0) (i_cons (i_int) (i_nil))))) (s_seq (s_set (i := 2) sc_law.nd rfl (.inl rfl) (i_ls (i_cons (i_str) (i_cons (i_str) (i_cons (i_str) (i_cons (i_str) (i_cons (i_str) (i_cons (i_str) (i_cons (i_str) (i_nil)))))))))) (s_seq (s_set (i := 2) sc_law.nd rfl (.inl rfl) (i_op op_addU sd_add (iv 2) (i_ls (i_cons (i_str) (i_cons (i_str) (i_nil)))))) (s_seq (s_set (i := 2) sc_law.nd rfl (.inl rfl) (i_op op_addU sd_add (iv 2) (i_ls (i_cons (i_str) (i_cons (i_str) (i_nil)))))) (s_seq (s_for (passes_of rfl) rfl (i_rng rfl (t_range T) (i_int)) (gn (i := 3) sc_law.nd) (s_seq (s_set (i := 4) sc_law.nd rfl (.inl rfl) (i_callC c_written (hr.mono (by omega)) rfl (passes_call (takes_of rfl rfl rfl rfl) (fun _ _ _ _ h => h)) (i_cons (i_callC c_any (hr.mono (by omega)) rfl (passes_call (takes_of rfl rfl rfl rfl) (fun _ _ _ _ h => h)) (i_cons (iv 1) (i_nil))) (i_nil)))) (s_seq (s_for (passes_of rfl) rfl (i_rng rfl (t_range T) (i_callC c_next (hr.mono (by omega)) rfl (passes_call (takes_of rfl rfl rfl rfl) (fun _ _ _ _ h => h)) (i_cons (iv 1) (i_cons (i_int) (i_nil))))) (gn (i := 5) sc_law.nd) (s_one (s_set (i := 4) sc_law.nd rfl (.inl rfl) (i_callC c_spoilt (hr.mono (by omega)) rfl (passes_call (takes_of rfl rfl rfl rfl) (fun _ _ _ _ h => h)) (i_cons (iv 1) (i_cons (iv 4) (i_nil))))))) (s_one (s_for (passes_of rfl) rfl (i_seq (i_ls (i_cons (iv 4) (i_cons (i_ix (hu_of hr) (iv 2) (i_callC c_next (hr.mono (by omega)) rfl (passes_call (takes_of rfl rfl rfl rfl) (fun _ _ _ _ h => h)) (i_cons (iv 1) (i_cons (i_int) (i_nil))))) (i_nil))))) (gn (i := 6) sc_law.nd) (s_seq (s_set (i := 7) sc_law.nd rfl (.inr rfl) (i_splitS (iv 6) (i_str))) (s_seq (s_set (i := 8) sc_law.nd rfl (.inr rfl) (i_op op_addU sd_add (i_lc (own := [("_law_k", 11)]) rfl sc_law.nd (i_rng rfl (t_range T) (i_bf call_lenU sd_len rfl (t_len T) rfl (i_cons (iv 7) (i_nil)))) (blkOk_by (own := [("_law_k", 11)]) (N := N_law) (sc := defScope s_law) (by decide +kernel)) (fun _ _ _ _ _ => gn (i := 11) sc_law.nd) (fun _ _ _ _ _ => ts_one (j_cmp (op_eqD (hu64 hr)) sd_eq (i_ix (hu_of hr) (i_splitS (i_ix (hu_of hr) (iv 7) (iv 11)) (i_str)) (i_int)) (i_str) (nomark _))) (fun _ _ _ _ _ => iv 11)) (i_ls (i_cons (i_bf call_lenU sd_len rfl (t_len T) rfl (i_cons (iv 7) (i_nil))) (i_nil))))) (s_seq (s_setLc (i := 9) (own := [("_law_k", 11)]) rfl sc_law.nd rfl rfl (sw_true rfl rfl rfl (by decide +kernel)) (i_rng rfl (t_range T) (i_bf call_lenU sd_len rfl (t_len T) rfl (i_cons (iv 7) (i_nil)))) (blkOk_by (own := [("_law_k", 11)]) (N := N_law) (sc := defScope s_law) (by decide +kernel)) (fun _ _ _ _ _ => gn (i := 11) sc_law.nd) (fun _ _ _ _ _ => ts_one (j_not (j_val (i_callC c_line (hr.mono (by omega)) rfl (passes_call takes0 (fun _ _ _ _ h => h)) (i_cons (i_splitS (i_ix (hu_of hr) (iv 7) (iv 11)) (i_str)) (i_cons (i_cmp op_gt sd_gt (iv 11) (i_ix (hu_of hr) (iv 8) (i_int)) (nomark _)) (i_nil))))))) (fun _ _ _ _ _ => iv 11)) (s_seq (s_set (i := 10) sc_law.nd rfl (.inl rfl) (i_ifExp (j_cmp (op_neD (hu64 hr)) sd_ne (iv 9) (i_ls (i_nil)) (nomark _)) (i_tup (i_cons (i_str) (i_cons (i_ix (hu_of hr) (iv 9) (i_int)) (i_nil)))) (i_kindTF (k := 6) T tb (hr.mono (by omega)) (fun _ _ _ _ _ _ _ hr => i_callC c_written (hr.mono (by omega)) rfl (passes_call (takes_of rfl rfl rfl rfl) (fun _ _ _ _ h => h)) (i_cons (i_callC c_made (hr.mono (by omega)) rfl (passes_call (takes_of rfl rfl rfl rfl) (fun _ _ _ _ h => h)) (i_cons (iv 7) (i_nil))) (i_nil)))))) (s_seq (s_if (j_cmp (op_neD (hu64 hr)) sd_ne (i_kindTF (k := 6) T tb (hr.mono (by omega)) (fun _ _ _ _ _ _ _ hr => i_callC c_read (hr.mono (by omega)) rfl (passes_call (takes_of rfl rfl rfl rfl) (fun _ _ _ _ h => h)) (i_cons (iv 6) (i_nil)))) (iv 10) (nomark _)) (s_one (s_ret (i_bl))) (s_nil)) (s_one (s_if (PW.pt (j_and (j_cmp (op_eqD (hu64 hr)) sd_eq (iv 10) (i_str) (nomark _)) (j_and1 (j_not (j_val (i_callC c_alike (hr.mono (by omega)) rfl (passes_call (takes_of rfl rfl rfl rfl) (fun _ _ _ _ h => h)) (i_cons (i_callC c_read (hr.mono (by omega)) rfl (passes_call (takes_of rfl rfl rfl rfl) (fun _ _ _ _ h => h)) (i_cons (iv 6) (i_nil))) (i_cons (i_callC c_made (hr.mono (by omega)) rfl (passes_call (takes_of rfl rfl rfl rfl) (fun _ _ _ _ h => h)) (i_cons (iv 7) (i_nil))) (i_nil))))))))) (s_one (s_ret (i_bl))) (s_nil))))))))))))) (s_one (s_ret (i_bl)))))))
end
end

/-! PureTa -/
/-! PureTa: numbers' figures, words. No mirrors here. -/
section
open PySem L2
/-- the text of a number -/
def dec (n : Nat) : Str := (toString (n : Int) : String)
def figB (c : Nat) : Bool := decide (c ∈ ("0123456789" : Str).cps.toList)
/-- what is read of a number's text, and how it looks -/
def decB (n : Nat) : Bool := PySem.intText? (dec n) == some (n : Int) && decide (1 ≤ (dec n).length ∧ (dec n).length ≤ 3) && (dec n).cps.toList.all figB && (decide (dec n = ("0" : Str)) || decide ((dec n).cps.toList.head? ≠ some 48)) && PyData.strOk (dec n)
theorem dec_all : ∀ n, n < 1000 → decB n = true := by decide +kernel
end

/-! Pure0 -/
/-! Pure0: what a piece of the small machine tells, from behind to the front. No Python here. -/
section
open PySem L2
structure Post {α : Type} (r : R α) (Q : α → Store → Prop) : Prop where
  told : match r with
    | .ok a S => Q a S
    | _ => False
section
variable {α β : Type} {S : Store} {env : Env} {Q : PV → Store → Prop} {QB : Bool → Store → Prop} {QA : List PV → Store → Prop} {QS : Fl × Env → Store → Prop}
theorem Post.ok {a : α} {Q : α → Store → Prop} : Post (.ok a S) Q ↔ Q a S := ⟨fun h => h.told, fun h => ⟨h⟩⟩
theorem Post.bad {Q : α → Store → Prop} : Post .bad Q ↔ False := ⟨fun h => h.told, fun h => h.elim⟩
theorem Post.exc {e : PExc} {Q : α → Store → Prop} : Post (.exc e S) Q ↔ False := ⟨fun h => h.told, fun h => h.elim⟩
theorem Post.bind {r : R α} {f : α → Store → R β} {Q : β → Store → Prop} : Post (r.bind f) Q ↔ Post r fun a S => Post (f a S) Q := by
  cases r with
  | ok a S =>
    show Post (f a S) Q ↔ _
    exact (Post.ok (Q := fun a S => Post (f a S) Q)).symm
  | exc e S => exact ⟨fun h => (Post.exc.mp h).elim, fun h => (Post.exc.mp h).elim⟩
  | bad => exact ⟨fun h => (Post.bad.mp h).elim, fun h => (Post.bad.mp h).elim⟩
theorem Post.nox {r : R α} {Q : α → Store → Prop} : Post r.nox Q ↔ Post r Q := by
  cases r with
  | ok a S => exact Iff.rfl
  | exc e S => exact ⟨fun h => (Post.bad.mp h).elim, fun h => (Post.exc.mp h).elim⟩
  | bad => exact Iff.rfl
theorem Post.ite {c : Prop} [Decidable c] {a b : R α} {Q : α → Store → Prop} : Post (if c then a else b) Q ↔ if c then Post a Q else Post b Q := by by_cases h : c <;> simp [h]
theorem Post.mono {r : R α} {Q Q' : α → Store → Prop} (h : Post r Q) (m : ∀ a S, Q a S → Q' a S) : Post r Q' := by
  cases r with
  | ok a S => exact ⟨m a S h.told⟩
  | exc e S => exact (Post.exc.mp h).elim
  | bad => exact (Post.bad.mp h).elim
theorem Post.out {r : R α} {Q : α → Store → Prop} (h : Post r Q) : ∃ a S, r = .ok a S ∧ Q a S := by
  cases r with
  | ok a S => exact ⟨a, S, rfl, h.told⟩
  | exc e S => exact (Post.exc.mp h).elim
  | bad => exact (Post.bad.mp h).elim
theorem Post.of {r : R α} {a : α} {S : Store} {Q : α → Store → Prop} (e : r = .ok a S) (h : Q a S) : Post r Q := by rw [e]; exact ⟨h⟩
/-! expressions -/
theorem w_var {i : Nat} {x : PV} (h : env[i]? = some (some x)) : Post (eVar i env S) Q ↔ Q x S := by unfold eVar; rw [h]; exact Post.ok
theorem w_c {x : PV} : Post (eC x env S) Q ↔ Q x S := Post.ok
theorem w_un {op : Op1} {a : XE} : Post (eUn op a env S) Q ↔ Post (a env S) fun x S => Post (op x S) Q := Post.bind
theorem w_op {op : Op2} {a b : XE} : Post (eOp op a b env S) Q ↔ Post (a env S) fun x S => Post (b env S) fun y S => Post (op x y S) Q := by unfold eOp; rw [Post.bind]; simp only [Post.bind]
theorem w_nil : Post (aNil env S) QA ↔ QA [] S := Post.ok
theorem w_cons {a : XE} {r : XA} : Post (aCons a r env S) QA ↔ Post (a env S) fun x S => Post (r env S) fun xs S => QA (x :: xs) S := by unfold aCons; rw [Post.bind]; simp only [Post.bind, Post.ok]
theorem w_call {f : XF} {a : XA} : Post (eCall f a env S) Q ↔ Post (a env S) fun xs S => Post (f xs S) Q := Post.bind
theorem w_bf {f : Bf} {a : XA} : Post (eBf f a env S) Q ↔ Post (a env S) fun xs S => Post (f xs S) Q := Post.bind
theorem w_tup {a : XA} : Post (eTup a env S) Q ↔ Post (a env S) fun xs S => Post (if xs.length ≤ lim then R.ok (.tup xs) S else .bad) Q := Post.bind
theorem w_ls {a : XA} : Post (eLs a env S) Q ↔ Post (a env S) fun xs S => Post (if xs.length ≤ lim then R.ok (.ls xs) S else .bad) Q := Post.bind
theorem w_new {a : XA} : Post (eNew a env S) Q ↔ Post (a env S) fun xs S => Post (if xs.length ≤ lim then R.ok (.loc S.length) (S ++ [.lst xs]) else .bad) Q := Post.bind
theorem w_ifE {c : XB} {a b : XE} : Post (eIf c a b env S) Q ↔ Post (c env S) fun k S => if k = true then Post (a env S) Q else Post (b env S) Q := by unfold eIf; rw [Post.bind]; simp only [Post.ite]
theorem w_and {a b : XE} : Post (eAnd a b env S) Q ↔ Post (a env S) fun x S => match x with | .bl true => Post (b env S) Q | .bl false => Q (.bl false) S | _ => False := by
  unfold eAnd
  rw [Post.bind]
  constructor <;> (intro h; refine h.mono fun x S h => ?_; split at h <;> simp_all [Post.ok, Post.bad, Post.exc])
theorem w_or {a b : XE} : Post (eOr a b env S) Q ↔ Post (a env S) fun x S => match x with | .bl true => Q (.bl true) S | .bl false => Post (b env S) Q | _ => False := by
  unfold eOr
  rw [Post.bind]
  constructor <;> (intro h; refine h.mono fun x S h => ?_; split at h <;> simp_all [Post.ok, Post.bad, Post.exc])
theorem w_not {a : XE} : Post (eNot a env S) Q ↔ Post (a env S) fun x S => match x with | .bl k => Q (.bl (!k)) S | _ => False := by
  unfold eNot
  rw [Post.bind]
  constructor <;> (intro h; refine h.mono fun x S h => ?_; split at h <;> simp_all [Post.ok, Post.bad, Post.exc])
theorem w_val {a : XE} : Post (bVal a env S) QB ↔ Post (a env S) fun x S => match x with | .bl k => QB k S | _ => False := by
  unfold bVal
  rw [Post.bind]
  constructor <;> (intro h; refine h.mono fun x S h => ?_; split at h <;> simp_all [Post.ok, Post.bad, Post.exc])
theorem w_bAnd {a b : XB} : Post (bAnd a b env S) QB ↔ Post (a env S) fun k S => if k = true then Post (b env S) QB else QB false S := by unfold bAnd; rw [Post.bind]; simp only [Post.ite, Post.ok]
theorem w_bOr {a b : XB} : Post (bOr a b env S) QB ↔ Post (a env S) fun k S => if k = true then QB true S else Post (b env S) QB := by unfold bOr; rw [Post.bind]; simp only [Post.ite, Post.ok]
theorem w_bNot {a : XB} : Post (bNot a env S) QB ↔ Post (a env S) fun k S => QB (!k) S := by unfold bNot; rw [Post.bind]; simp only [Post.ok]
theorem w_yes : Post (bYes env S) QB ↔ QB true S := Post.ok
/-! statements -/
theorem w_sNil : Post (sNil env S) QS ↔ QS (.nx, env) S := Post.ok
theorem w_seq {a b : XS} : Post (sSeq a b env S) QS ↔ Post (a env S) fun p S => match p.1 with | .nx => Post (b p.2 S) QS | f => QS (f, p.2) S := by
  unfold sSeq
  rw [Post.bind]
  constructor <;> (intro h; refine h.mono fun x S h => ?_; obtain ⟨f, env⟩ := x; cases f <;> simp_all [Post.ok, Post.bad, Post.exc])
theorem w_asg {e : XE} {g : XG} : Post (sAsg e g env S) QS ↔ Post (e env S) fun x S => Post (g x env S) fun env S => QS (.nx, env) S := by unfold sAsg; rw [Post.bind]; simp only [Post.bind, Post.ok]
theorem w_drop {e : XE} : Post (sDrop e env S) QS ↔ Post (e env S) fun _ S => QS (.nx, env) S := by unfold sDrop; rw [Post.bind]; simp only [Post.ok]
theorem w_ret {e : XE} : Post (sRet e env S) QS ↔ Post (e env S) fun x S => QS (.rt x, env) S := by unfold sRet; rw [Post.bind]; simp only [Post.ok]
theorem w_retN : Post (sRetN env S) QS ↔ QS (.rt .non, env) S := Post.ok
theorem w_if {c : XB} {a b : XS} : Post (sIf c a b env S) QS ↔ Post (c env S) fun k S => if k = true then Post (a env S) QS else Post (b env S) QS := by unfold sIf; rw [Post.bind]; simp only [Post.ite]
theorem w_gNm {i : Nat} {x : PV} {QE : Env → Store → Prop} : Post (gNm i x env S) QE ↔ QE (env.set i (some x)) S := Post.ok
/-! loops: by the item's number -/
theorem for_inv {it : It} {all : List PV} {g : XG} {b : XS} {QS : Fl × Env → Store → Prop} (I : Nat → Env → Store → Prop)
    (h : ∀ i env S x, I i env S → all[i]? = some x → it.items S = some all ∧ Post (g x env S) fun env S => Post (b env S) fun p S => match p.1 with
      | .nx => I (i + 1) p.2 S
      | .ct => I (i + 1) p.2 S
      | .bk => QS (.nx, p.2) S
      | .rt v => QS (.rt v, p.2) S)
    (he : ∀ env S, I all.length env S → it.items S = some all ∧ QS (.nx, env) S) : ∀ (r : List PV) (i : Nat), all.drop i = r → i ≤ all.length → ∀ env S, I i env S → Post (forGo it all g b r env S) QS
  | [], i, hr, hi, env, S, hI => by
    have e : i = all.length := by
      have := congrArg List.length hr
      simp at this
      omega
    subst e
    obtain ⟨h1, h2⟩ := he env S hI
    unfold forGo
    rw [if_pos h1]
    exact Post.ok.mpr h2
  | x :: r, i, hr, hi, env, S, hI => by
    have hlt : i < all.length := by
      have := congrArg List.length hr
      simp at this
      omega
    have hx : all[i]? = some x := by
      have := List.getElem?_drop (xs := all) (i := i) (j := 0)
      rw [hr] at this
      simpa using this.symm
    have hr2 : all.drop (i + 1) = r := by
      rw [← List.drop_drop, hr]
      rfl
    obtain ⟨h1, h2⟩ := h i env S x hI hx
    unfold forGo
    rw [if_pos h1, Post.bind]
    refine h2.mono fun env S h3 => ?_
    rw [Post.bind]
    refine h3.mono fun p S h4 => ?_
    obtain ⟨f, env2⟩ := p
    cases f with
    | nx => exact for_inv I h he r (i + 1) hr2 hlt _ _ h4
    | ct => exact for_inv I h he r (i + 1) hr2 hlt _ _ h4
    | bk => exact Post.ok.mpr h4
    | rt v => exact Post.ok.mpr h4
/-- a comprehension: by the items that were taken -/
theorem lc_inv {it : It} {all : List PV} {g : XG} {t : XB} {e : XE} {env : Env} {QA : List PV → Store → Prop} (I : Nat → List PV → Store → Prop)
    (h : ∀ i acc S x, I i acc S → all[i]? = some x → it.items S = some all ∧ Post (g x env S) fun env S => Post (t env S) fun k S => if k = true then Post (e env S) fun y S => acc.length < lim ∧ I (i + 1) (acc ++ [y]) S else I (i + 1) acc S)
    (he : ∀ acc S, I all.length acc S → it.items S = some all ∧ QA acc S) : ∀ (r : List PV) (i : Nat), all.drop i = r → i ≤ all.length → ∀ acc S, I i acc S → Post (lcGo it all g t e env r acc S) QA
  | [], i, hr, hi, acc, S, hI => by
    have e : i = all.length := by
      have := congrArg List.length hr
      simp at this
      omega
    subst e
    obtain ⟨h1, h2⟩ := he acc S hI
    unfold lcGo
    rw [if_pos h1]
    exact Post.ok.mpr h2
  | x :: r, i, hr, hi, acc, S, hI => by
    have hlt : i < all.length := by
      have := congrArg List.length hr
      simp at this
      omega
    have hx : all[i]? = some x := by
      have := List.getElem?_drop (xs := all) (i := i) (j := 0)
      rw [hr] at this
      simpa using this.symm
    have hr2 : all.drop (i + 1) = r := by
      rw [← List.drop_drop, hr]
      rfl
    obtain ⟨h1, h2⟩ := h i acc S x hI hx
    unfold lcGo
    rw [if_pos h1, Post.bind, Post.nox]
    refine h2.mono fun env S h3 => ?_
    rw [Post.bind, Post.nox]
    refine h3.mono fun k S h4 => ?_
    cases k with
    | true =>
      simp only [if_true] at h4 ⊢
      rw [Post.bind, Post.nox]
      refine h4.mono fun y S h5 => ?_
      rw [if_pos h5.1]
      exact lc_inv I h he r (i + 1) hr2 hlt _ _ h5.2
    | false =>
      simp only [Bool.false_eq_true, if_false] at h4 ⊢
      exact lc_inv I h he r (i + 1) hr2 hlt _ _ h4
/-! defs -/
theorem w_fnK {np many : Nat} {b : XS} {args : List PV} (hl : args.length = np) (h : Post (b (args.map some ++ List.replicate (many - args.length) none) S) fun p S => match p.1 with | .rt v => Q v S | .nx => Q .non S | _ => False) : Post (fnK np many b args S) Q := by
  unfold fnK
  rw [if_pos hl, Post.bind]
  refine h.mono fun p S h => ?_
  obtain ⟨f, e⟩ := p
  cases f <;> first | exact Post.ok.mpr h | exact h.elim
/-- .. where no list was made -/
theorem w_fnP {np many : Nat} {b : XS} {args : List PV} (hl : args.length = np) (h : Post (b (args.map some ++ List.replicate (many - args.length) none) S) fun p S' => match p.1 with
    | .rt v => Post (leave S.length v S') Q
    | .nx => Post (leave S.length .non S') Q
    | _ => False) : Post (fnP np many b args S) Q := by
  unfold fnP
  rw [if_pos hl, Post.bind]
  refine h.mono fun p S h => ?_
  obtain ⟨f, e⟩ := p
  cases f <;> first | exact h | exact h.elim
theorem leave_same {n : Nat} {v : PV} (h : S.length = n) : Post (leave n v S) Q ↔ Q v S := by unfold leave; rw [if_pos h]; exact Post.ok
end
end

/-! PureB -/
/-! PureB: operations from behind; the head-first step. -/
section
open PySem L2
section
variable {S : Store} {env : Env} {Q : PV → Store → Prop} {i j : Int} {x y z : PV} {xs ys : List PV} {l : Nat}
theorem w_add : Post (oAdd (.int i) (.int j) S) Q ↔ Q (.int (i + j)) S := Post.ok
theorem w_sub : Post (oSub (.int i) (.int j) S) Q ↔ Q (.int (i - j)) S := Post.ok
theorem w_mul (h : mulOk i j = true) : Post (oMul (.int i) (.int j) S) Q ↔ Q (.int (i * j)) S := by unfold oMul; simp only []; rw [if_pos h]; exact Post.ok
theorem w_mulC (h : -(2 ^ 64) < j ∧ j < 2 ^ 64) : Post (oMul (.int i) (.int j) S) Q ↔ Q (.int (i * j)) S := w_mul (by unfold mulOk; rw [decide_eq_true h.1, decide_eq_true h.2]; simp)
theorem w_div (h : 0 < j ∧ j < 1073741824) : Post (oDiv (.int i) (.int j) S) Q ↔ Q (.int (i / j)) S := by unfold oDiv; simp only []; rw [if_pos h]; exact Post.ok
theorem w_mod (h : 0 < j) : Post (oMod (.int i) (.int j) S) Q ↔ Q (.int (i % j)) S := by unfold oMod; simp only []; rw [if_pos h]; exact Post.ok
theorem w_pow (h : 0 ≤ j ∧ j ≤ 1000 ∧ i.natAbs < 2 ^ 64) : Post (oPow (.int i) (.int j) S) Q ↔ Q (.int (i ^ j.toNat)) S := by unfold oPow; simp only []; rw [if_pos h]; exact Post.ok
theorem w_neg : Post (oNeg (.int i) S) Q ↔ Q (.int (-i)) S := Post.ok
theorem w_lt : Post (oLt (.int i) (.int j) S) Q ↔ Q (.bl (decide (i < j))) S := Post.ok
theorem w_le : Post (oLe (.int i) (.int j) S) Q ↔ Q (.bl (decide (i ≤ j))) S := Post.ok
theorem w_gt : Post (oGt (.int i) (.int j) S) Q ↔ Q (.bl (decide (j < i))) S := Post.ok
theorem w_ge : Post (oGe (.int i) (.int j) S) Q ↔ Q (.bl (decide (j ≤ i))) S := Post.ok
theorem w_isN : Post (oIsN x .non S) Q ↔ Q (.bl x.isNon) S := Post.ok
theorem w_max : Post (bMax [.int i, .int j] S) Q ↔ Q (.int (if j > i then j else i)) S := Post.ok
theorem w_min : Post (bMin [.int i, .int j] S) Q ↔ Q (.int (if j < i then j else i)) S := Post.ok
theorem w_len (h : seqOf S x = some xs) : Post (bLen [x] S) Q ↔ Q (.int xs.length) S := by unfold bLen; simp only [h]; exact Post.ok
theorem w_ix (h : seqOf S x = some xs) (h2 : atI xs i = some y) : Post (oIx x (.int i) S) Q ↔ Q y S := by unfold oIx; simp only [h, h2]; exact Post.ok
theorem w_ix0 (h : seqOf S x = some xs) (h2 : xs[0]? = some y) : Post (oIx x (.int 0) S) Q ↔ Q y S := w_ix h (by rw [show (0 : Int) = ((0 : Nat) : Int) from rfl, L2.atI_nat (j := 0)]; exact h2)
theorem w_ix1 (h : seqOf S x = some xs) (h2 : xs[1]? = some y) : Post (oIx x (.int 1) S) Q ↔ Q y S := w_ix h (by rw [show (1 : Int) = ((1 : Nat) : Int) from rfl, L2.atI_nat (j := 1)]; exact h2)
theorem w_ix2 (h : seqOf S x = some xs) (h2 : xs[2]? = some y) : Post (oIx x (.int 2) S) Q ↔ Q y S := w_ix h (by rw [show (2 : Int) = ((2 : Nat) : Int) from rfl, L2.atI_nat (j := 2)]; exact h2)
theorem w_ix3 (h : seqOf S x = some xs) (h2 : xs[3]? = some y) : Post (oIx x (.int 3) S) Q ↔ Q y S := w_ix h (by rw [show (3 : Int) = ((3 : Nat) : Int) from rfl, L2.atI_nat (j := 3)]; exact h2)
theorem w_ix4 (h : seqOf S x = some xs) (h2 : xs[4]? = some y) : Post (oIx x (.int 4) S) Q ↔ Q y S := w_ix h (by rw [show (4 : Int) = ((4 : Nat) : Int) from rfl, L2.atI_nat (j := 4)]; exact h2)
theorem w_ix5 (h : seqOf S x = some xs) (h2 : xs[5]? = some y) : Post (oIx x (.int 5) S) Q ↔ Q y S := w_ix h (by rw [show (5 : Int) = ((5 : Nat) : Int) from rfl, L2.atI_nat (j := 5)]; exact h2)
theorem w_ixS {ks : List Str} {vs : List PV} {k : Str} (h : dksOf S x = some (ks, vs)) (h2 : lookS ks vs k = some y) : Post (oIx x (.str k) S) Q ↔ Q y S := by unfold oIx; simp only [h, h2]; exact Post.ok
theorem w_eqI : Post (oEq (.int i) (.int j) S) Q ↔ Q (.bl (i == j)) S := by unfold oEq; simp [res, plain, eqv]; exact Post.ok
theorem w_neI : Post (oNe (.int i) (.int j) S) Q ↔ Q (.bl (!(i == j))) S := by unfold oNe; simp [res, plain, eqv]; exact Post.ok
theorem w_eqS {a b : Str} (h : PyData.strOk a = true) (h2 : PyData.strOk b = true) : Post (oEq (.str a) (.str b) S) Q ↔ Q (.bl (decide (a = b))) S := by unfold oEq; simp [res, plain, eqv, h, h2]; exact Post.ok
theorem w_neS {a b : Str} (h : PyData.strOk a = true) (h2 : PyData.strOk b = true) : Post (oNe (.str a) (.str b) S) Q ↔ Q (.bl (!decide (a = b))) S := by unfold oNe; simp [res, plain, eqv, h, h2]; exact Post.ok
/-- == of lists of ints and the empty list -/
theorem plain_ints : ∀ (ns : List Int), (ns.map PV.int).all (plain 19) = true
  | [] => rfl
  | _ :: r => by rw [List.map_cons, List.all_cons, plain_ints r]; rfl
theorem res_ints (n : Nat) : ∀ (ns : List Int), (ns.map PV.int).map (res n S) = ns.map PV.int
  | [] => rfl
  | i :: r => by
    rw [List.map_cons, List.map_cons, res_ints n r]
    cases n <;> rfl
theorem eq_ints (h : S[l]? = some (.lst (xs))) {ns : List Int} (e : xs = ns.map .int) : plain 20 (res 20 S (.loc l)) = true ∧ eqv (res 20 S (.loc l)) (.ls []) = ns.isEmpty := by
  subst e
  have r : res 20 S (.loc l) = .ls (ns.map .int) := by
    show (match S[l]? with | some (.lst xs) => PV.ls (xs.map (res 19 S)) | _ => .loc l) = _
    rw [h]
    show PV.ls ((ns.map PV.int).map (res 19 S)) = _
    rw [res_ints]
  rw [r]
  refine ⟨?_, ?_⟩
  · show (ns.map PV.int).all (plain 19) = true
    exact plain_ints ns
  · cases ns <;> rfl
theorem w_neE {ns : List Int} (h : S[l]? = some (.lst (ns.map .int))) : Post (oNe (.loc l) (.ls []) S) Q ↔ Q (.bl (!ns.isEmpty)) S := by
  obtain ⟨h1, h2⟩ := eq_ints h rfl
  unfold oNe
  rw [if_pos ⟨h1, rfl⟩]
  show Post (R.ok (PV.bl (!eqv (res 20 S (.loc l)) (.ls []))) S) Q ↔ _
  rw [h2]
  exact Post.ok
theorem w_eqE {ns : List Int} (h : S[l]? = some (.lst (ns.map .int))) : Post (oEq (.loc l) (.ls []) S) Q ↔ Q (.bl ns.isEmpty) S := by
  obtain ⟨h1, h2⟩ := eq_ints h rfl
  unfold oEq
  rw [if_pos ⟨h1, rfl⟩]
  show Post (R.ok (PV.bl (eqv (res 20 S (.loc l)) (.ls []))) S) Q ↔ _
  rw [h2]
  exact Post.ok
theorem w_tupK (h : xs.length ≤ lim) {Q : PV → Store → Prop} : Post (if xs.length ≤ lim then R.ok (PV.tup xs) S else .bad) Q ↔ Q (.tup xs) S := by rw [if_pos h]; exact Post.ok
theorem w_lsK (h : xs.length ≤ lim) {Q : PV → Store → Prop} : Post (if xs.length ≤ lim then R.ok (PV.ls xs) S else .bad) Q ↔ Q (.ls xs) S := by rw [if_pos h]; exact Post.ok
theorem w_newK (h : xs.length ≤ lim) {Q : PV → Store → Prop} : Post (if xs.length ≤ lim then R.ok (PV.loc S.length) (S ++ [Cell.lst xs]) else .bad) Q ↔ Q (.loc S.length) (S ++ [.lst xs]) := by rw [if_pos h]; exact Post.ok
theorem w_setL {k : Nat} {QU : Unit → Store → Prop} (h : S[l]? = some (.lst xs)) (h2 : ixOf xs.length i = some k) : Post (oSet (.loc l) (.int i) x S) QU ↔ QU () (S.set l (.lst (xs.set k x))) := by unfold oSet; simp only [h, h2]; exact Post.ok
theorem w_setS {k : Str} {ks : List Str} {vs : List PV} {QU : Unit → Store → Prop} (h : S[l]? = some (.dks ks vs)) (h2 : ks.length < lim) : Post (oSet (.loc l) (.str k) x S) QU ↔ QU () (S.set l (.dks (putS ks vs k x).1 (putS ks vs k x).2)) := by unfold oSet; simp only [h]; rw [if_pos h2]; exact Post.ok
theorem w_gSb {o i : XE} {QE : Env → Store → Prop} : Post (gSb o i x env S) QE ↔ Post (o env S) fun ov S => Post (i env S) fun iv S => Post (oSet ov iv x S) fun _ S => QE env S := by unfold gSb; rw [Post.bind]; simp only [Post.bind, Post.ok]
theorem w_gTp {gs : List XG} {QE : Env → Store → Prop} (h : seqOf S x = some xs) (h2 : xs.length = gs.length) : Post (gTp gs x env S) QE ↔ Post (gTp.go gs xs env S) QE := by unfold gTp; simp only [h]; rw [if_pos h2]
theorem w_go0 {QE : Env → Store → Prop} : Post (gTp.go [] xs env S) QE ↔ QE env S := by unfold gTp.go; exact Post.ok
theorem w_go1 {g : XG} {gs : List XG} {QE : Env → Store → Prop} : Post (gTp.go (g :: gs) (x :: xs) env S) QE ↔ Post (g x env S) fun env S => Post (gTp.go gs xs env S) QE := by
  show Post (R.bind _ _) _ ↔ _
  rw [Post.bind]
/-- a comprehension's run over what is walked -/
def LcP (it : It) (g : XG) (t : XB) (e : XE) (env : Env) (S : Store) (QA : List PV → Store → Prop) : Prop := ∃ all, it.items S = some all ∧ Post (lcGo it all g t e env all [] S) QA
theorem w_eLc {i : XI} {g : XG} {t : XB} {e : XE} {own : List Nat} : Post (eLc i g t e own env S) Q ↔ Post (i env S) fun it S => LcP it g t e (wipeE env own) S fun xs S => Q (.ls xs) S := by
  unfold eLc xLc
  rw [Post.bind, Post.bind]
  constructor
  · intro h
    refine h.mono fun it S h => ?_
    cases ha : it.items S with
    | none => simp only [ha] at h; exact (Post.bad.mp h).elim
    | some all => simp only [ha] at h; exact ⟨all, ha, h.mono fun _ _ h => Post.ok.mp h⟩
  · intro h
    refine h.mono fun it S h => ?_
    obtain ⟨all, ha, h⟩ := h
    simp only [ha]
    exact h.mono fun _ _ h => Post.ok.mpr h
theorem w_eLcN {i : XI} {g : XG} {t : XB} {e : XE} {own : List Nat} : Post (eLcN i g t e own env S) Q ↔ Post (i env S) fun it S => LcP it g t e (wipeE env own) S fun (xs : List PV) (S : Store) => Q (PV.loc S.length) (S ++ [Cell.lst xs]) := by
  unfold eLcN xLc
  rw [Post.bind, Post.bind]
  constructor
  · intro h
    refine h.mono fun it S h => ?_
    cases ha : it.items S with
    | none => simp only [ha] at h; exact (Post.bad.mp h).elim
    | some all => simp only [ha] at h; exact ⟨all, ha, h.mono fun _ _ h => Post.ok.mp h⟩
  · intro h
    refine h.mono fun it S h => ?_
    obtain ⟨all, ha, h⟩ := h
    simp only [ha]
    exact h.mono fun _ _ h => Post.ok.mpr h
theorem w_iSeq {a : XE} {QI : It → Store → Prop} : Post (iSeq a env S) QI ↔ Post (a env S) fun x S => QI (.seq x) S := by unfold iSeq; rw [Post.bind]; simp only [Post.ok]
theorem w_iEnum {a : XE} {QI : It → Store → Prop} : Post (iEnum a env S) QI ↔ Post (a env S) fun x S => QI (.enum x) S := by unfold iEnum; rw [Post.bind]; simp only [Post.ok]
theorem w_iRev {a : XE} {QI : It → Store → Prop} : Post (iRev a env S) QI ↔ Post (a env S) fun x S => QI (.rev x) S := by unfold iRev; rw [Post.bind]; simp only [Post.ok]
theorem w_iZip {a b : XE} {QI : It → Store → Prop} : Post (iZip a b env S) QI ↔ Post (a env S) fun x S => Post (b env S) fun y S => QI (.zip x y) S := by unfold iZip; rw [Post.bind]; simp only [Post.bind, Post.ok]
def rngOk (x : PV) (S : Store) : R It := match x with
  | .int j => if -(lim : Int) ≤ j ∧ j ≤ lim then .ok (.rng 0 j.toNat) S else .bad
  | _ => .bad
theorem w_iRng {a : XE} {QI : It → Store → Prop} : Post (iRng a env S) QI ↔ Post (a env S) fun x S => Post (rngOk x S) QI := by unfold iRng; rw [Post.bind]; exact Iff.rfl
theorem w_rng {QI : It → Store → Prop} (h : -1000000 ≤ j ∧ j ≤ 1000000) : Post (rngOk (.int j) S) QI ↔ QI (.rng 0 j.toNat) S := by unfold rngOk; simp only []; rw [if_pos (by unfold lim; omega)]; exact Post.ok
/-- a for's run over what is walked -/
def ForP (it : It) (g : XG) (b : XS) (env : Env) (S : Store) (QS : Fl × Env → Store → Prop) : Prop := ∃ all, it.items S = some all ∧ Post (forGo it all g b all env S) QS
theorem w_sFor {i : XI} {g : XG} {b : XS} {QS : Fl × Env → Store → Prop} : Post (sFor i g b env S) QS ↔ Post (i env S) fun it S => ForP it g b env S QS := by
  unfold sFor
  rw [Post.bind]
  constructor
  · intro h
    refine h.mono fun it S h => ?_
    cases ha : it.items S with
    | none => simp only [ha] at h; exact (Post.bad.mp h).elim
    | some all => simp only [ha] at h; exact ⟨all, ha, h⟩
  · intro h
    refine h.mono fun it S h => ?_
    obtain ⟨all, ha, h⟩ := h
    simp only [ha]
    exact h
theorem w_list (h : seqOf S x = some xs) : Post (bList [x] S) Q ↔ Q (.ls xs) S := by unfold bList; simp only [h]; exact Post.ok
theorem w_listN (h : seqOf S x = some xs) : Post (bListN [x] S) Q ↔ Q (.loc S.length) (S ++ [.lst xs]) := by unfold bListN; simp only [h]; exact Post.ok
theorem w_tuple (h : seqOf S x = some xs) : Post (bTuple [x] S) Q ↔ Q (.tup xs) S := by unfold bTuple; simp only [h]; exact Post.ok
theorem w_intI : Post (bInt [.int i] S) Q ↔ Q (.int i) S := Post.ok
theorem w_intB {k : Bool} : Post (bInt [.bl k] S) Q ↔ Q (.int (if k = true then 1 else 0)) S := Post.ok
theorem w_eCut {o : XE} {lo hi : Option XE} : Post (eCut o lo hi env S) Q ↔ Post (o env S) fun x S => Post (ePart lo env S) fun i S => Post (ePart hi env S) fun j S => Post (oCut x i j S) Q := by unfold eCut; rw [Post.bind]; simp only [Post.bind]
theorem w_ePart0 {QO : Option Int → Store → Prop} : Post (ePart none env S) QO ↔ QO none S := Post.ok
theorem w_ePart1 {f : XE} {QO : Option Int → Store → Prop} : Post (ePart (some f) env S) QO ↔ Post (f env S) fun x S => match x with | .int i => QO (some i) S | _ => False := by
  unfold ePart
  simp only []
  rw [Post.bind]
  constructor <;> (intro h; refine h.mono fun x S h => ?_; cases x <;> first | exact Post.ok.mp h | exact Post.ok.mpr h | exact (Post.bad.mp h).elim | exact False.elim h)
theorem w_cutL {lo hi : Option Int} : Post (oCut (.ls xs) lo hi S) Q ↔ Q (.ls (cut xs lo hi)) S := Post.ok
theorem w_cutT {lo hi : Option Int} : Post (oCut (.tup xs) lo hi S) Q ↔ Q (.tup (cut xs lo hi)) S := Post.ok
theorem w_in (h : seqOf S y = some xs) (hf : flat x = true) (ha : xs.all flat = true) : Post (oIn x y S) Q ↔ Q (.bl (inSeq x xs)) S := by unfold oIn; simp only [h]; rw [if_pos ⟨hf, ha⟩]; exact Post.ok
theorem w_notIn (h : seqOf S y = some xs) (hf : flat x = true) (ha : xs.all flat = true) : Post (oNotIn x y S) Q ↔ Q (.bl (!inSeq x xs)) S := by unfold oNotIn; simp only [h]; rw [if_pos ⟨hf, ha⟩]; exact Post.ok
theorem w_addT (h : xs.length + ys.length ≤ lim) : Post (oAdd (.tup xs) (.tup ys) S) Q ↔ Q (.tup (xs ++ ys)) S := by unfold oAdd; simp only []; rw [if_pos h]; exact Post.ok
theorem ixOf_nat {n k : Nat} (h : k < n) : ixOf n (k : Int) = some k := by
  unfold ixOf
  rw [if_pos (by omega), if_pos (by omega)]
  simp
theorem w_ff {A B : Prop} : (if false = true then A else B) ↔ B := by simp
theorem w_tt {A B : Prop} : (if true = true then A else B) ↔ A := by simp
theorem w_nf {A B : Prop} : (if (!false) = true then A else B) ↔ A := by simp
theorem w_nt {A B : Prop} : (if (!true) = true then A else B) ↔ B := by simp
end
end
local macro_rules | `(tactic| array_get_dec) => `(tactic| ((with_reducible refine (w_neS ?wh ?wk).mpr ?_); (case wh => decide +kernel); (case wk => decide +kernel)))
local macro_rules | `(tactic| array_get_dec) => `(tactic| ((with_reducible refine (w_eqS ?wh ?wk).mpr ?_); (case wh => decide +kernel); (case wk => decide +kernel)))
local macro_rules | `(tactic| array_get_dec) => `(tactic| ((with_reducible refine (w_newK ?wh).mpr ?_); (case wh => exact Nat.le_of_ble_eq_true rfl)))
local macro_rules | `(tactic| array_get_dec) => `(tactic| ((with_reducible refine (w_lsK ?wh).mpr ?_); (case wh => exact Nat.le_of_ble_eq_true rfl)))
local macro_rules | `(tactic| array_get_dec) => `(tactic| ((with_reducible refine (w_tupK ?wh).mpr ?_); (case wh => exact Nat.le_of_ble_eq_true rfl)))
local macro_rules | `(tactic| array_get_dec) => `(tactic| ((with_reducible refine (w_pow ?wh).mpr ?_); (case wh => decide)))
local macro_rules | `(tactic| array_get_dec) => `(tactic| ((with_reducible refine (w_mod ?wh).mpr ?_); (case wh => omega)))
local macro_rules | `(tactic| array_get_dec) => `(tactic| ((with_reducible refine (w_div ?wh).mpr ?_); (case wh => constructor <;> omega)))
local macro_rules | `(tactic| array_get_dec) => `(tactic| ((with_reducible refine (w_mulC ?wh).mpr ?_); (case wh => constructor <;> omega)))
local macro_rules | `(tactic| array_get_dec) => `(tactic| ((with_reducible refine (w_gTp (xs := ?wx) ?wh ?wk).mpr ?_); (case wh => rfl); (case wk => rfl)))
local macro_rules | `(tactic| array_get_dec) => `(tactic| ((with_reducible refine (w_ixS (ks := ?wx) (vs := ?wz) (y := ?wy) ?wh ?wk).mpr ?_); (case wh => rfl); (case wk => rfl)))
local macro_rules | `(tactic| array_get_dec) => `(tactic| ((with_reducible refine (w_ix5 (xs := ?wx) (y := ?wy) ?wh ?wk).mpr ?_); (case wh => rfl); (case wk => rfl)))
local macro_rules | `(tactic| array_get_dec) => `(tactic| ((with_reducible refine (w_ix4 (xs := ?wx) (y := ?wy) ?wh ?wk).mpr ?_); (case wh => rfl); (case wk => rfl)))
local macro_rules | `(tactic| array_get_dec) => `(tactic| ((with_reducible refine (w_ix3 (xs := ?wx) (y := ?wy) ?wh ?wk).mpr ?_); (case wh => rfl); (case wk => rfl)))
local macro_rules | `(tactic| array_get_dec) => `(tactic| ((with_reducible refine (w_ix2 (xs := ?wx) (y := ?wy) ?wh ?wk).mpr ?_); (case wh => rfl); (case wk => rfl)))
local macro_rules | `(tactic| array_get_dec) => `(tactic| ((with_reducible refine (w_ix1 (xs := ?wx) (y := ?wy) ?wh ?wk).mpr ?_); (case wh => rfl); (case wk => rfl)))
local macro_rules | `(tactic| array_get_dec) => `(tactic| ((with_reducible refine (w_ix0 (xs := ?wx) (y := ?wy) ?wh ?wk).mpr ?_); (case wh => rfl); (case wk => rfl)))
local macro_rules | `(tactic| array_get_dec) => `(tactic| ((with_reducible refine (w_len (xs := ?wx) ?wh).mpr ?_); (case wh => rfl)))
local macro_rules | `(tactic| array_get_dec) => `(tactic| ((with_reducible refine (w_eqE (ns := ?wx) ?wh).mpr ?_); (case wh => rfl)))
local macro_rules | `(tactic| array_get_dec) => `(tactic| ((with_reducible refine (w_neE (ns := ?wx) ?wh).mpr ?_); (case wh => rfl)))
local macro_rules | `(tactic| array_get_dec) => `(tactic| ((with_reducible refine (w_var (x := ?wx) ?wh).mpr ?_); (case wh => rfl)))
local macro_rules | `(tactic| array_get_dec) => `(tactic| (with_reducible refine w_neI.mpr ?_))
local macro_rules | `(tactic| array_get_dec) => `(tactic| (with_reducible refine w_eqI.mpr ?_))
local macro_rules | `(tactic| array_get_dec) => `(tactic| (with_reducible refine w_min.mpr ?_))
local macro_rules | `(tactic| array_get_dec) => `(tactic| (with_reducible refine w_max.mpr ?_))
local macro_rules | `(tactic| array_get_dec) => `(tactic| (with_reducible refine w_isN.mpr ?_))
local macro_rules | `(tactic| array_get_dec) => `(tactic| (with_reducible refine w_ge.mpr ?_))
local macro_rules | `(tactic| array_get_dec) => `(tactic| (with_reducible refine w_gt.mpr ?_))
local macro_rules | `(tactic| array_get_dec) => `(tactic| (with_reducible refine w_le.mpr ?_))
local macro_rules | `(tactic| array_get_dec) => `(tactic| (with_reducible refine w_lt.mpr ?_))
local macro_rules | `(tactic| array_get_dec) => `(tactic| (with_reducible refine w_neg.mpr ?_))
local macro_rules | `(tactic| array_get_dec) => `(tactic| (with_reducible refine w_sub.mpr ?_))
local macro_rules | `(tactic| array_get_dec) => `(tactic| (with_reducible refine w_add.mpr ?_))
local macro_rules | `(tactic| array_get_dec) => `(tactic| (with_reducible refine w_go1.mpr ?_))
local macro_rules | `(tactic| array_get_dec) => `(tactic| (with_reducible refine w_go0.mpr ?_))
local macro_rules | `(tactic| array_get_dec) => `(tactic| (with_reducible refine w_gSb.mpr ?_))
local macro_rules | `(tactic| array_get_dec) => `(tactic| (with_reducible refine w_retN.mpr ?_))
local macro_rules | `(tactic| array_get_dec) => `(tactic| (with_reducible refine w_yes.mpr ?_))
local macro_rules | `(tactic| array_get_dec) => `(tactic| (with_reducible refine w_sNil.mpr ?_))
local macro_rules | `(tactic| array_get_dec) => `(tactic| (with_reducible refine w_gNm.mpr ?_))
local macro_rules | `(tactic| array_get_dec) => `(tactic| (with_reducible refine w_c.mpr ?_))
local macro_rules | `(tactic| array_get_dec) => `(tactic| (with_reducible refine w_not.mpr ?_))
local macro_rules | `(tactic| array_get_dec) => `(tactic| (with_reducible refine w_or.mpr ?_))
local macro_rules | `(tactic| array_get_dec) => `(tactic| (with_reducible refine w_and.mpr ?_))
local macro_rules | `(tactic| array_get_dec) => `(tactic| (with_reducible refine w_ifE.mpr ?_))
local macro_rules | `(tactic| array_get_dec) => `(tactic| (with_reducible refine w_nil.mpr ?_))
local macro_rules | `(tactic| array_get_dec) => `(tactic| (with_reducible refine w_cons.mpr ?_))
local macro_rules | `(tactic| array_get_dec) => `(tactic| (with_reducible refine w_new.mpr ?_))
local macro_rules | `(tactic| array_get_dec) => `(tactic| (with_reducible refine w_ls.mpr ?_))
local macro_rules | `(tactic| array_get_dec) => `(tactic| (with_reducible refine w_tup.mpr ?_))
local macro_rules | `(tactic| array_get_dec) => `(tactic| (with_reducible refine w_bf.mpr ?_))
local macro_rules | `(tactic| array_get_dec) => `(tactic| (with_reducible refine w_call.mpr ?_))
local macro_rules | `(tactic| array_get_dec) => `(tactic| (with_reducible refine w_un.mpr ?_))
local macro_rules | `(tactic| array_get_dec) => `(tactic| (with_reducible refine w_op.mpr ?_))
local macro_rules | `(tactic| array_get_dec) => `(tactic| (with_reducible refine w_bNot.mpr ?_))
local macro_rules | `(tactic| array_get_dec) => `(tactic| (with_reducible refine w_bOr.mpr ?_))
local macro_rules | `(tactic| array_get_dec) => `(tactic| (with_reducible refine w_bAnd.mpr ?_))
local macro_rules | `(tactic| array_get_dec) => `(tactic| (with_reducible refine w_val.mpr ?_))
local macro_rules | `(tactic| array_get_dec) => `(tactic| (with_reducible refine w_if.mpr ?_))
local macro_rules | `(tactic| array_get_dec) => `(tactic| (with_reducible refine w_ret.mpr ?_))
local macro_rules | `(tactic| array_get_dec) => `(tactic| (with_reducible refine w_drop.mpr ?_))
local macro_rules | `(tactic| array_get_dec) => `(tactic| ((with_reducible refine (w_tuple (xs := ?wx) ?wh).mpr ?_); (case wh => rfl)))
local macro_rules | `(tactic| array_get_dec) => `(tactic| ((with_reducible refine (w_listN (xs := ?wx) ?wh).mpr ?_); (case wh => rfl)))
local macro_rules | `(tactic| array_get_dec) => `(tactic| ((with_reducible refine (w_list (xs := ?wx) ?wh).mpr ?_); (case wh => rfl)))
local macro_rules | `(tactic| array_get_dec) => `(tactic| ((with_reducible refine (w_rng ?wh).mpr ?_); (case wh => constructor <;> omega)))
local macro_rules | `(tactic| array_get_dec) => `(tactic| (with_reducible refine w_cutT.mpr ?_))
local macro_rules | `(tactic| array_get_dec) => `(tactic| (with_reducible refine w_cutL.mpr ?_))
local macro_rules | `(tactic| array_get_dec) => `(tactic| (with_reducible refine w_ePart1.mpr ?_))
local macro_rules | `(tactic| array_get_dec) => `(tactic| (with_reducible refine w_ePart0.mpr ?_))
local macro_rules | `(tactic| array_get_dec) => `(tactic| (with_reducible refine w_eCut.mpr ?_))
local macro_rules | `(tactic| array_get_dec) => `(tactic| (with_reducible refine w_intB.mpr ?_))
local macro_rules | `(tactic| array_get_dec) => `(tactic| (with_reducible refine w_intI.mpr ?_))
local macro_rules | `(tactic| array_get_dec) => `(tactic| (with_reducible refine w_sFor.mpr ?_))
local macro_rules | `(tactic| array_get_dec) => `(tactic| (with_reducible refine w_iRng.mpr ?_))
local macro_rules | `(tactic| array_get_dec) => `(tactic| (with_reducible refine w_iZip.mpr ?_))
local macro_rules | `(tactic| array_get_dec) => `(tactic| (with_reducible refine w_iRev.mpr ?_))
local macro_rules | `(tactic| array_get_dec) => `(tactic| (with_reducible refine w_iEnum.mpr ?_))
local macro_rules | `(tactic| array_get_dec) => `(tactic| (with_reducible refine w_iSeq.mpr ?_))
local macro_rules | `(tactic| array_get_dec) => `(tactic| (with_reducible refine w_eLcN.mpr ?_))
local macro_rules | `(tactic| array_get_dec) => `(tactic| (with_reducible refine w_eLc.mpr ?_))
local macro_rules | `(tactic| array_get_dec) => `(tactic| (with_reducible refine w_nt.mpr ?_))
local macro_rules | `(tactic| array_get_dec) => `(tactic| (with_reducible refine w_nf.mpr ?_))
local macro_rules | `(tactic| array_get_dec) => `(tactic| (with_reducible refine w_tt.mpr ?_))
local macro_rules | `(tactic| array_get_dec) => `(tactic| (with_reducible refine w_ff.mpr ?_))
local macro_rules | `(tactic| array_get_dec) => `(tactic| (with_reducible refine w_asg.mpr ?_))
local macro_rules | `(tactic| array_get_dec) => `(tactic| (with_reducible refine w_seq.mpr ?_))
section
open PySem L2
end

/-! PureA -/
/-! PureA: the draws. -/
section
open PySem L2
/-- what is drawn from: the script's numbers, the mixed number, how many were drawn -/
structure Hs where
  l : List Int
  a : Int
  c : Int
def Hs.st (g : Hs) (rest : Store) : Store := .lst (g.l.map .int) :: .lst [.int g.a, .loc 0, .int g.c] :: rest
structure Hs.Ok (g : Hs) : Prop where
  len : g.l.length ≤ 63
  c0 : 0 ≤ g.c
theorem next_spec (g : Hs) (rest : Store) (n : Int) (hg : g.Ok) (h0 : 0 < n) (h1 : n < 1073741824) :
    Post (m_next [.loc 1, .int n] (g.st rest)) fun v S => ∃ r g', v = .int r ∧ S = Hs.st g' rest ∧ g'.Ok ∧ 0 ≤ r ∧ r < n := by
  unfold m_next
  refine w_fnP rfl ?_
  ((repeat array_get_dec) <;> (try dsimp only))
  have hat : ∀ ns : List Int, ns ≠ [] → ∃ k : Nat, g.c % (if ((ns.map PV.int).length : Int) > 1 then ((ns.map PV.int).length : Int) else 1) = k ∧ k < ns.length := by
    intro ns hn
    have hp : 0 < ns.length := List.length_pos_iff.mpr hn
    rw [List.length_map]
    split
    · refine ⟨(g.c % ns.length).toNat, ?_, ?_⟩
      · have := Int.emod_nonneg g.c (b := (ns.length : Int)) (by omega)
        omega
      · have := Int.emod_nonneg g.c (b := (ns.length : Int)) (by omega)
        have := Int.emod_lt_of_pos g.c (b := (ns.length : Int)) (by omega)
        omega
    · exact ⟨0, by omega, hp⟩
  by_cases hl : g.l = []
  · generalize (g.c % if ((g.l.map PV.int).length : Int) > 1 then ((g.l.map PV.int).length : Int) else 1) = at'
    rw [if_neg (by rw [hl]; decide)]
    ((repeat array_get_dec) <;> (try dsimp only))
    rw [if_neg (by decide)]
    ((repeat array_get_dec) <;> (try dsimp only))
    refine (w_setL rfl rfl).mpr ?_
    ((repeat array_get_dec) <;> (try dsimp only))
    refine (w_setL rfl rfl).mpr ?_
    ((repeat array_get_dec) <;> (try dsimp only))
    refine (leave_same rfl).mpr ?_
    exact ⟨_, ⟨g.l, (g.a * 48271 + 0 * 69621 + 11) % 2147483647, g.c + 1⟩, rfl, rfl, ⟨hg.len, by have := hg.c0; show 0 ≤ g.c + 1; omega⟩, Int.emod_nonneg _ (by omega), Int.emod_lt_of_pos _ h0⟩
  · obtain ⟨k, hk, hk2⟩ := hat g.l hl
    have hx : atI (g.l.map PV.int) (k : Int) = some (.int g.l[k]) := by
      rw [L2.atI_nat (j := k)]
      rw [List.getElem?_map, List.getElem?_eq_getElem hk2]
      rfl
    rw [hk]
    rw [if_pos (by cases h : g.l with | nil => exact absurd h hl | cons _ _ => rfl)]
    ((repeat array_get_dec) <;> (try dsimp only))
    refine (w_ix rfl hx).mpr ?_
    ((repeat array_get_dec) <;> (try dsimp only))
    split
    · ((repeat array_get_dec) <;> (try dsimp only))
      refine (w_setL rfl (ixOf_nat (by rw [List.length_map]; exact hk2))).mpr ?_
      ((repeat array_get_dec) <;> (try dsimp only))
      refine (leave_same rfl).mpr ?_
      refine ⟨_, ⟨g.l.set k (g.l[k] / n), g.a, g.c⟩, rfl, ?_, ⟨by rw [List.length_set]; exact hg.len, hg.c0⟩, Int.emod_nonneg _ (by omega), Int.emod_lt_of_pos _ h0⟩
      unfold Hs.st
      rw [List.map_set]
      rfl
    · ((repeat array_get_dec) <;> (try dsimp only))
      refine (w_setL rfl rfl).mpr ?_
      ((repeat array_get_dec) <;> (try dsimp only))
      refine (w_setL rfl rfl).mpr ?_
      ((repeat array_get_dec) <;> (try dsimp only))
      refine (leave_same rfl).mpr ?_
      exact ⟨_, ⟨g.l, (g.a * 48271 + g.l[k] * 69621 + 11) % 2147483647, g.c + 1⟩, rfl, rfl, ⟨hg.len, by have := hg.c0; show 0 ≤ g.c + 1; omega⟩, Int.emod_nonneg _ (by omega), Int.emod_lt_of_pos _ h0⟩
end

/-! PureC -/
/-! PureC: houses, numbers. -/
section
open PySem L2
/-- [x for x in range(n) if p(x)]: what is taken, the store as it was -/
theorem lc_filter {env : Env} {S : Store} {QA : List PV → Store → Prop} {v n : Nat} {t : XB} (hn : n ≤ 1000) (hv : v < env.length) (p : Nat → Bool)
    (ht : ∀ i, i < n → Post (t (env.set v (some (.int (i : Int)))) S) fun k S' => k = p i ∧ S' = S) (hQ : QA (((List.range n).filter p).map fun (i : Nat) => PV.int (i : Int)) S) : LcP (.rng 0 n) (gNm v) t (eVar v) env S QA := by
  refine ⟨upto 0 n, rfl, lc_inv (fun i acc S' => i ≤ n ∧ acc = ((List.range i).filter p).map (fun (i : Nat) => PV.int (i : Int)) ∧ S' = S) ?_ ?_ _ 0 rfl (Nat.zero_le _) _ _ ⟨Nat.zero_le _, rfl, rfl⟩⟩
  · rintro i acc S' x ⟨hi, rfl, rfl⟩ hx
    refine ⟨rfl, ?_⟩
    have hlt : i < n := by
      have := (List.getElem?_eq_some_iff.mp hx).1
      rw [upto_length] at this
      exact this
    rw [upto_get hlt] at hx
    cases hx
    refine w_gNm.mpr ?_
    rw [Int.zero_add]
    refine (ht i hlt).mono ?_
    rintro k S2 ⟨rfl, rfl⟩
    have hr : (List.range (i + 1)).filter p = (List.range i).filter p ++ (if p i = true then [i] else []) := by
      rw [List.range_succ, List.filter_append]
      by_cases hp : p i = true <;> simp [hp]
    by_cases hp : p i = true
    · rw [if_pos hp]
      refine (w_var (x := .int (i : Int)) ?_).mpr ⟨?_, hlt, ?_, rfl⟩
      · rw [List.getElem?_set_self hv]
      · rw [List.length_map]
        exact Nat.lt_of_le_of_lt (Nat.le_trans (List.length_filter_le _ _) (by rw [List.length_range]; omega)) (by decide : 1000 < lim)
      · rw [hr, if_pos hp, List.map_append]
        rfl
    · rw [if_neg hp]
      refine ⟨hlt, ?_, rfl⟩
      rw [hr, if_neg hp, List.append_nil]
  · rintro acc S' ⟨_, rfl, rfl⟩
    rw [upto_length]
    exact ⟨rfl, hQ⟩
end
section
open PySem L2
/-- [e for x in range(n)], e draws -/
theorem lc_draws {env : LW.Env} {g : Hs} {rest : Store} {QA : List PV → Store → Prop} {v n : Nat} {e : XE} (hg : g.Ok) (hn : n ≤ 1000) (P : Nat → PV → Prop)
    (he : ∀ i g, i < n → Hs.Ok g → Post (e (env.set v (some (.int (i : Int)))) (g.st rest)) fun x S => ∃ g', S = Hs.st g' rest ∧ g'.Ok ∧ P i x)
    (hQ : ∀ xs g', Hs.Ok g' → xs.length = n → (∀ i x, xs[i]? = some x → P i x) → QA xs (g'.st rest)) : LcP (.rng 0 n) (gNm v) bYes e env (g.st rest) QA := by
  refine ⟨upto 0 n, rfl, lc_inv (fun i acc S' => i ≤ n ∧ acc.length = i ∧ (∀ j x, acc[j]? = some x → P j x) ∧ ∃ g', Hs.Ok g' ∧ S' = g'.st rest) ?_ ?_ _ 0 rfl (Nat.zero_le _) _ _ ⟨Nat.zero_le _, rfl, fun j x h => (by cases h), g, hg, rfl⟩⟩
  · rintro i acc S' x ⟨hi, hl, hP, g', hg', rfl⟩ hx
    refine ⟨rfl, ?_⟩
    have hlt : i < n := by
      have := (List.getElem?_eq_some_iff.mp hx).1
      rw [upto_length] at this
      exact this
    rw [upto_get hlt] at hx
    cases hx
    refine w_gNm.mpr (w_yes.mpr ?_)
    rw [Int.zero_add, if_pos rfl]
    refine (he i g' hlt hg').mono ?_
    rintro y S2 ⟨g2, rfl, hg2, hy⟩
    refine ⟨by rw [hl]; exact Nat.lt_of_lt_of_le hlt (Nat.le_trans hn (by decide)), hlt, by rw [List.length_append, hl]; rfl, fun j z hz => ?_, g2, hg2, rfl⟩
    rcases Nat.lt_or_ge j acc.length with h | h
    · rw [List.getElem?_append_left h] at hz
      exact hP j z hz
    · rw [List.getElem?_append_right h] at hz
      have : j - acc.length = 0 := by
        have := (List.getElem?_eq_some_iff.mp hz).1
        simp at this
        omega
      rw [this] at hz
      cases hz
      have : j = i := by omega
      rw [this]
      exact hy
  · rintro acc S' ⟨_, hl, hP, g', hg', rfl⟩
    rw [upto_length] at hl
    exact ⟨rfl, hQ acc g' hg' hl hP⟩
theorem number_spec (g : Hs) (rest : Store) (hg : g.Ok) : Post (m_number [.loc 1] (g.st rest)) fun v S => ∃ r g', v = .int r ∧ S = Hs.st g' rest ∧ g'.Ok ∧ 0 ≤ r ∧ r < 1000 := by
  unfold m_number
  refine w_fnP rfl ?_
  ((repeat array_get_dec) <;> (try dsimp only))
  ((refine Post.mono (next_spec _ _ _ hg ?hn0 ?hn1) ?_); (case hn0 => omega); (case hn1 => omega))
  rintro _ _ ⟨r1, g1, rfl, rfl, hg1, a1, b1⟩
  ((repeat array_get_dec) <;> (try dsimp only))
  ((refine Post.mono (next_spec _ _ _ hg1 ?hn0 ?hn1) ?_); (case hn0 => omega); (case hn1 => omega))
  rintro _ _ ⟨r2, g2, rfl, rfl, hg2, a2, b2⟩
  ((repeat array_get_dec) <;> (try dsimp only))
  ((refine Post.mono (next_spec _ _ _ hg2 ?hn0 ?hn1) ?_); (case hn0 => omega); (case hn1 => omega))
  rintro _ _ ⟨r3, g3, rfl, rfl, hg3, a3, b3⟩
  rcases (by omega : r3 = 0 ∨ r3 = 1) with rfl | rfl
  · ((repeat array_get_dec) <;> (try dsimp only))
    refine (leave_same rfl).mpr ?_
    exact ⟨_, _, rfl, rfl, hg3, a1, by omega⟩
  · ((repeat array_get_dec) <;> (try dsimp only))
    refine (leave_same rfl).mpr ?_
    exact ⟨_, _, rfl, rfl, hg3, a2, by omega⟩
/-- boxes, rising -/
def Boxes (xs : List Nat) : Prop := xs.Pairwise (· < ·) ∧ ∀ x ∈ xs, x < 6
def ivs (xs : List Nat) : List PV := xs.map fun (i : Nat) => PV.int (i : Int)
structure House where
  ins : List Nat
  out : Nat
  kept : List Nat
structure House.Ok (h : House) : Prop where
  ins : Boxes h.ins
  out : h.out < 6
  kept : Boxes h.kept
  apart : ∀ b ∈ h.kept, b ∉ h.ins ∧ b ≠ h.out
def House.pv (h : House) : PV := .tup [.tup (ivs h.ins), .int h.out, .tup (ivs h.kept)]
theorem boxes_filter (p : Nat → Bool) : Boxes ((List.range 6).filter p) := ⟨List.Pairwise.filter _ List.pairwise_lt_range, fun x h => List.mem_range.mp (List.mem_filter.mp h).1⟩
theorem Boxes.sub {xs ys : List Nat} (h : Boxes ys) (s : xs.Sublist ys) : Boxes xs := ⟨h.1.sublist s, fun x hx => h.2 x (s.subset hx)⟩
theorem cut_ivs (l : List Nat) (lo hi : Option Int) : ∃ l', cut (ivs l) lo hi = ivs l' ∧ l'.Sublist l := by
  unfold cut ivs
  rw [← List.map_drop, ← List.map_take]
  exact ⟨_, rfl, (List.take_sublist _ _).trans (List.drop_sublist _ _)⟩
theorem ints_of : ∀ {xs : List PV}, (∀ (i : Nat) (x : PV), xs[i]? = some x → ∃ s : Int, x = .int s) → ∃ ss : List Int, xs = ss.map .int
  | [], _ => ⟨[], rfl⟩
  | x :: r, h => by
    obtain ⟨s, rfl⟩ := h 0 x rfl
    obtain ⟨ss, rfl⟩ := ints_of (xs := r) fun i x hx => h (i + 1) x hx
    exact ⟨s :: ss, rfl⟩
theorem house_spec (g : Hs) (rest : Store) (hg : g.Ok) : Post (m_house [.loc 1] (g.st rest)) fun v S => ∃ h g', v = House.pv h ∧ h.Ok ∧ S = Hs.st g' rest ∧ g'.Ok := by
  unfold m_house
  refine w_fnP rfl ?_
  ((repeat array_get_dec) <;> (try dsimp only))
  ((refine Post.mono (next_spec _ _ _ hg ?hn0 ?hn1) ?_); (case hn0 => omega); (case hn1 => omega))
  rintro _ _ ⟨r1, g1, rfl, rfl, hg1, a1, b1⟩
  ((repeat array_get_dec) <;> (try dsimp only))
  obtain ⟨few, hf, hfew⟩ : ∃ few : Int, (few = 3 ∨ few = 2) ∧ atI [PV.int 3, PV.int 3, PV.int 3, PV.int 2] r1 = some (.int few) := by
    rcases (by omega : r1 = 0 ∨ r1 = 1 ∨ r1 = 2 ∨ r1 = 3) with rfl | rfl | rfl | rfl
    · exact ⟨3, .inl rfl, rfl⟩
    · exact ⟨3, .inl rfl, rfl⟩
    · exact ⟨3, .inl rfl, rfl⟩
    · exact ⟨2, .inr rfl, rfl⟩
  refine (w_ix rfl hfew).mpr ?_
  ((repeat array_get_dec) <;> (try dsimp only))
  refine lc_draws (P := fun _ x => ∃ s : Int, x = .int s) hg1 (by decide) (fun i g0 hi hg0 => ?_) (fun sorts0 g2 hg2 hl hP => ?_)
  · ((repeat array_get_dec) <;> (try dsimp only))
    ((refine Post.mono (next_spec _ _ _ hg0 ?hn0 ?hn1) ?_); (case hn0 => omega); (case hn1 => omega))
    rintro _ _ ⟨r2, g3, rfl, rfl, hg3, a2, b2⟩
    ((repeat array_get_dec) <;> (try dsimp only))
    cases hk : (few == 3) with
    | true =>
      ((repeat array_get_dec) <;> (try dsimp only))
      exact ⟨g3, rfl, hg3, _, rfl⟩
    | false =>
      ((repeat array_get_dec) <;> (try dsimp only))
      ((refine Post.mono (next_spec _ _ _ hg3 ?hn0 ?hn1) ?_); (case hn0 => omega); (case hn1 => omega))
      rintro _ _ ⟨r3, g4, rfl, rfl, hg4, a3, b3⟩
      ((repeat array_get_dec) <;> (try dsimp only))
      exact ⟨g4, rfl, hg4, _, rfl⟩
  · obtain ⟨sorts, rfl⟩ := ints_of hP
    rw [List.length_map] at hl
    have at6 : ∀ i : Nat, i < 6 → ∃ s : Int, sorts[i]? = some s ∧ atI (sorts.map PV.int) (i : Int) = some (.int s) := fun i hi => by
      have h6 : i < sorts.length := by rw [hl]; exact hi
      refine ⟨sorts[i], List.getElem?_eq_getElem h6, ?_⟩
      rw [L2.atI_nat (j := i)]
      rw [List.getElem?_map, List.getElem?_eq_getElem h6]
      rfl
    ((repeat array_get_dec) <;> (try dsimp only))
    ((refine Post.mono (next_spec _ _ _ hg2 ?hn0 ?hn1) ?_); (case hn0 => omega); (case hn1 => omega))
    rintro _ _ ⟨out, g3, rfl, rfl, hg3, a3, b3⟩
    ((repeat array_get_dec) <;> (try dsimp only))
    refine lc_filter (n := 6) (by decide) (by show 3 < 6; decide) (fun i => match sorts[i]? with | some s => s == 0 | none => false) (fun i hi => ?_) ?_
    · obtain ⟨s, h1, h2⟩ := at6 i hi
      ((repeat array_get_dec) <;> (try dsimp only))
      refine (w_ix rfl h2).mpr ?_
      ((repeat array_get_dec) <;> (try dsimp only))
      rw [h1]
      exact ⟨rfl, rfl⟩
    · ((repeat array_get_dec) <;> (try dsimp only))
      ((refine Post.mono (next_spec _ _ _ hg3 ?hn0 ?hn1) ?_); (case hn0 => omega); (case hn1 => omega))
      rintro _ _ ⟨r4, g4, rfl, rfl, hg4, a4, b4⟩
      obtain ⟨mx, hm, hmx⟩ : ∃ mx : Int, (mx = 3 ∨ mx = 6) ∧ atI [PV.int 3, PV.int 6] r4 = some (.int mx) := by
        rcases (by omega : r4 = 0 ∨ r4 = 1) with rfl | rfl
        · exact ⟨3, .inl rfl, rfl⟩
        · exact ⟨6, .inr rfl, rfl⟩
      refine (w_ix rfl hmx).mpr ?_
      ((repeat array_get_dec) <;> (try dsimp only))
      ((refine Post.mono (next_spec _ _ _ hg4 ?hn0 ?hn1) ?_); (case hn0 => omega); (case hn1 => omega))
      rintro _ _ ⟨r5, g5, rfl, rfl, hg5, a5, b5⟩
      ((repeat array_get_dec) <;> (try dsimp only))
      obtain ⟨ins, e1, hins⟩ := cut_ivs ((List.range 6).filter fun i => match sorts[i]? with | some s => s == 0 | none => false) none (some (1 + r5))
      rw [show ivs _ = List.map _ _ from rfl] at e1
      rw [e1]
      refine lc_filter (n := 6) (by decide) (by show 3 < 6; decide) (fun i => match sorts[i]? with | some s => s == 1 && !((i : Int) == out) | none => false) (fun i hi => ?_) ?_
      · obtain ⟨s, h1, h2⟩ := at6 i hi
        ((repeat array_get_dec) <;> (try dsimp only))
        refine (w_ix rfl h2).mpr ?_
        ((repeat array_get_dec) <;> (try dsimp only))
        rw [h1]
        split
        · rename_i hs
          ((repeat array_get_dec) <;> (try dsimp only))
          refine ⟨?_, rfl⟩
          show _ = (s == 1 && _)
          rw [hs]
          rfl
        · rename_i hs
          refine ⟨?_, rfl⟩
          show _ = (s == 1 && _)
          rw [Bool.not_eq_true] at hs
          rw [hs]
          rfl
      · ((repeat array_get_dec) <;> (try dsimp only))
        refine (leave_same rfl).mpr ?_
        refine ⟨⟨ins, out.toNat, (List.range 6).filter fun i => match sorts[i]? with | some s => s == 1 && !((i : Int) == out) | none => false⟩, g5, ?_, ⟨(boxes_filter _).sub hins, by show out.toNat < 6; omega, ?_, fun b hb => ?_⟩, rfl, hg5⟩
        rotate_left
        · exact boxes_filter (fun i => match sorts[i]? with | some s => s == 1 && !((i : Int) == out) | none => false)
        rotate_left
        · unfold House.pv
          rw [Int.toNat_of_nonneg a3]
          rfl
        · obtain ⟨hb1, hb2⟩ := List.mem_filter.mp hb
          have hb6 : b < 6 := List.mem_range.mp hb1
          obtain ⟨s, h1, h2⟩ := at6 b hb6
          rw [h1] at hb2
          simp only [Bool.and_eq_true, beq_iff_eq, Bool.not_eq_true', beq_eq_false_iff_ne] at hb2
          refine ⟨fun z => ?_, fun z => ?_⟩
          · have := (List.mem_filter.mp (hins.subset z)).2
            rw [h1] at this
            simp only [beq_iff_eq] at this
            omega
          · apply hb2.2
            have z : b = out.toNat := z
            omega
end

/-! PureD -/
/-! PureD: what is handed in is a program. -/
section
open PySem L2
/-- isinstance of a value whose kind is seen -/
def isaR (t : Ty) (x : PV) (S : Store) : R PV := match isTy S x t with
  | some k => .ok (.bl k) S
  | none => .bad
theorem w_isa {t : Ty} {a : XE} {env : LW.Env} {S : Store} {Q : PV → Store → Prop} : Post (eIsa t a env S) Q ↔ Post (a env S) fun x S => Post (isaR t x S) Q := by
  unfold eIsa
  rw [Post.bind]
  exact Iff.rfl
theorem w_isaK {S : Store} {Q : PV → Store → Prop} {x : PV} {t : Ty} {k : Bool} (h : isTy S x t = some k) : Post (isaR t x S) Q ↔ Q (.bl k) S := by unfold isaR; rw [h]; exact Post.ok
theorem w_chain {o1 o2 : Op2} {a b c : XE} {env : LW.Env} {S : Store} {Q : PV → Store → Prop} : Post (eChain o1 o2 a b c env S) Q ↔ Post (a env S) fun x S => Post (b env S) fun y S => Post (o1 x y S) fun k S => match k with
    | .bl true => Post (c env S) fun z S => Post (o2 y z S) Q
    | .bl false => Q (.bl false) S
    | _ => False := by
  unfold eChain
  simp only [Post.bind]
  constructor
  · intro h
    refine h.mono fun x S h => h.mono fun y S h => h.mono fun k S h => ?_
    split at h
    · rw [Post.bind] at h; exact h
    · exact Post.ok.mp h
    · exact (Post.bad.mp h).elim
  · intro h
    refine h.mono fun x S h => h.mono fun y S h => h.mono fun k S h => ?_
    split at h
    · rw [Post.bind]; exact h
    · exact Post.ok.mpr h
    · exact h.elim
/-- all([..]) of a comprehension over a sequence's values, the store as it was -/
theorem lc_all {it : It} {all : List PV} {env : LW.Env} {S : Store} {QA : List PV → Store → Prop} {g : XG} {e : XE} (ha : it.items S = some all) (hn : all.length ≤ 1000) (p : PV → Bool)
    (he : ∀ x, x ∈ all → Post (g x env S) fun env' S' => S' = S ∧ Post (e env' S) fun y S'' => y = .bl (p x) ∧ S'' = S) (hQ : QA (all.map fun x => PV.bl (p x)) S) : LcP it g bYes e env S QA := by
  refine ⟨all, ha, lc_inv (fun i acc S' => i ≤ all.length ∧ acc = (all.take i).map (fun x => PV.bl (p x)) ∧ S' = S) ?_ ?_ _ 0 rfl (Nat.zero_le _) _ _ ⟨Nat.zero_le _, rfl, rfl⟩⟩
  · rintro i acc S' x ⟨hi, rfl, rfl⟩ hx
    refine ⟨ha, ?_⟩
    have hlt := (List.getElem?_eq_some_iff.mp hx).1
    refine (he x (List.mem_of_getElem? hx)).mono ?_
    rintro env' S2 ⟨rfl, h2⟩
    refine w_yes.mpr ?_
    rw [if_pos rfl]
    refine h2.mono ?_
    rintro y S3 ⟨rfl, rfl⟩
    refine ⟨?_, hlt, ?_, rfl⟩
    · rw [List.length_map, List.length_take]
      exact Nat.lt_of_le_of_lt (Nat.le_trans (Nat.min_le_right _ _) hn) (by decide : 1000 < lim)
    · rw [List.take_add_one, hx, List.map_append]
      rfl
  · rintro acc S' ⟨_, rfl, rfl⟩
    rw [List.take_length]
    exact ⟨ha, hQ⟩
theorem bools_map (p : PV → Bool) : ∀ xs : List PV, bools (xs.map fun x => PV.bl (p x)) = some (xs.map p)
  | [] => rfl
  | x :: r => by
    show (bools (r.map fun x => PV.bl (p x))).map (p x :: ·) = _
    rw [bools_map p r]
    rfl
theorem w_all {S : Store} {Q : PV → Store → Prop} {p : PV → Bool} {xs : List PV} : Post (bAll [.ls (xs.map fun x => PV.bl (p x))] S) Q ↔ Q (.bl (xs.all p)) S := by
  unfold bAll
  show Post (match (some (xs.map fun x => PV.bl (p x))).bind bools with | some ks => R.ok (PV.bl (ks.all id)) S | none => .bad) Q ↔ _
  rw [show (some (xs.map fun x => PV.bl (p x))).bind bools = some (xs.map p) from bools_map p xs]
  show Post (R.ok (PV.bl ((xs.map p).all id)) S) Q ↔ _
  rw [Post.ok, List.all_map]
  exact Iff.rfl
theorem w_any {S : Store} {Q : PV → Store → Prop} {p : PV → Bool} {xs : List PV} : Post (bAny [.ls (xs.map fun x => PV.bl (p x))] S) Q ↔ Q (.bl (xs.any p)) S := by
  unfold bAny
  show Post (match (some (xs.map fun x => PV.bl (p x))).bind bools with | some ks => R.ok (PV.bl (ks.any id)) S | none => .bad) Q ↔ _
  rw [show (some (xs.map fun x => PV.bl (p x))).bind bools = some (xs.map p) from bools_map p xs]
  show Post (R.ok (PV.bl ((xs.map p).any id)) S) Q ↔ _
  rw [Post.ok, List.any_map]
  exact Iff.rfl
end
local macro_rules | `(tactic| array_mem_dec) => `(tactic| (simp only [Bool.not_true, Bool.not_false]))
local macro_rules | `(tactic| array_mem_dec) => `(tactic| ((with_reducible refine (w_isaK (k := ?wx) ?wh).mpr ?_); (case wh => rfl)))
local macro_rules | `(tactic| array_mem_dec) => `(tactic| (with_reducible refine w_chain.mpr ?_))
local macro_rules | `(tactic| array_mem_dec) => `(tactic| (with_reducible refine w_isa.mpr ?_))
local macro_rules | `(tactic| array_mem_dec) => `(tactic| array_get_dec)
section
open PySem L2
end
section
open PySem L2
theorem is_below_spec (S : Store) (i n : Int) : Post (m_is_below [.int i, .int n] S) fun v S' => v = .bl (decide (0 ≤ i ∧ i < n)) ∧ S' = S := by
  unfold m_is_below
  refine w_fnP rfl ?_
  ((repeat array_mem_dec) <;> (try dsimp only))
  by_cases h : 0 ≤ i
  · rw [decide_eq_true h]
    ((repeat array_mem_dec) <;> (try dsimp only))
    refine (leave_same rfl).mpr ⟨?_, rfl⟩
    by_cases h2 : i < n <;> simp [h, h2]
  · rw [decide_eq_false h]
    ((repeat array_mem_dec) <;> (try dsimp only))
    refine (leave_same rfl).mpr ⟨?_, rfl⟩
    simp [h]
theorem is_tuple_of_spec (S : Store) (xs : List PV) (a b : Int) : Post (m_is_tuple_of [.tup xs, .int a, .int b] S) fun v S' => v = .bl (decide (a ≤ xs.length ∧ (xs.length : Int) ≤ b)) ∧ S' = S := by
  unfold m_is_tuple_of
  refine w_fnP rfl ?_
  ((repeat array_mem_dec) <;> (try dsimp only))
  by_cases h : a ≤ (xs.length : Int)
  · rw [decide_eq_true h]
    ((repeat array_mem_dec) <;> (try dsimp only))
    refine (leave_same rfl).mpr ⟨?_, rfl⟩
    by_cases h2 : (xs.length : Int) ≤ b <;> simp [h, h2]
  · rw [decide_eq_false h]
    ((repeat array_mem_dec) <;> (try dsimp only))
    refine (leave_same rfl).mpr ⟨?_, rfl⟩
    simp [h]
end

/-! PureE -/
/-! PureE: houses are houses. -/
section
open PySem L2
theorem cut_tail (xs : List PV) : cut xs (some 1) none = xs.drop 1 := by
  unfold cut
  have h1 : HT.sIx xs.length 0 (some 1) = min 1 xs.length := HT.sIx_nat xs.length 0 1
  rw [h1, HT.sIx_none]
  cases xs with
  | nil => rfl
  | cons x r =>
    have h2 : min 1 (x :: r).length = 1 := by rw [List.length_cons]; omega
    rw [h2]
    show List.take ((r.length + 1) - 1) r = r
    rw [Nat.add_sub_cancel]
    exact List.take_length
def isB (n : Int) : PV → Bool
  | .int i => decide (0 ≤ i ∧ i < n)
  | _ => false
def isUp : PV → Bool
  | .tup [.int a, .int b] => decide (a < b)
  | _ => false
theorem ivs_mem {xs : List Nat} {x : PV} (h : x ∈ ivs xs) : ∃ i : Nat, i ∈ xs ∧ x = .int i := by
  obtain ⟨i, h1, rfl⟩ := List.mem_map.mp h
  exact ⟨i, h1, rfl⟩
theorem ivs_length (xs : List Nat) : (ivs xs).length = xs.length := List.length_map ..
theorem asc_len : ∀ (xs : List Nat) (k n : Nat), xs.Pairwise (· < ·) → (∀ x ∈ xs, k ≤ x ∧ x < n) → xs.length ≤ n - k
  | [], _, _, _, _ => Nat.zero_le _
  | a :: r, k, n, h, hb => by
    have h1 := List.pairwise_cons.mp h
    have h2 := asc_len r (a + 1) n h1.2 fun x hx => ⟨h1.1 x hx, (hb x (by simp [hx])).2⟩
    have h3 := hb a (by simp)
    rw [List.length_cons]
    omega
theorem Boxes.len {xs : List Nat} (h : Boxes xs) : xs.length ≤ 6 := asc_len xs 0 6 h.1 fun x hx => ⟨Nat.zero_le _, h.2 x hx⟩
theorem ups {xs : List Nat} (h : xs.Pairwise (· < ·)) : (pairs (ivs xs) ((ivs xs).drop 1)).all isUp = true := by
  induction xs with
  | nil => rfl
  | cons a r ih =>
    cases r with
    | nil => rfl
    | cons b r =>
      have h1 := List.pairwise_cons.mp h
      have h2 := ih h1.2
      have h3 : a < b := h1.1 b (by simp)
      show (isUp (.tup [.int a, .int b]) && (pairs (ivs (b :: r)) ((ivs (b :: r)).drop 1)).all isUp) = true
      rw [h2]
      show (decide ((a : Int) < (b : Int)) && true) = true
      rw [decide_eq_true (by omega)]
      rfl
theorem are_rising_spec (S : Store) (xs : List Nat) (h : Boxes xs) : Post (m_are_rising_boxes [.tup (ivs xs)] S) fun v S' => v = .bl true ∧ S' = S := by
  unfold m_are_rising_boxes
  refine w_fnP rfl ?_
  ((repeat array_mem_dec) <;> (try dsimp only))
  refine lc_all (all := ivs xs) (by rfl) (by rw [ivs_length]; have := h.len; omega) (isB 6) (fun x hx => ?_) ?_
  · obtain ⟨i, hi, rfl⟩ := ivs_mem hx
    ((repeat array_mem_dec) <;> (try dsimp only))
    refine ⟨by trivial, ?_⟩
    ((repeat array_mem_dec) <;> (try dsimp only))
    exact is_below_spec _ _ _
  · ((repeat array_mem_dec) <;> (try dsimp only))
    refine w_all.mpr ?_
    have e : (ivs xs).all (isB 6) = true := List.all_eq_true.mpr fun x hx => by
      obtain ⟨i, hi, rfl⟩ := ivs_mem hx
      have := h.2 i hi
      exact decide_eq_true (by omega)
    rw [e]
    ((repeat array_mem_dec) <;> (try dsimp only))
    rw [cut_tail]
    refine lc_all (all := pairs (ivs xs) ((ivs xs).drop 1)) (by rfl) ?_ isUp (fun x hx => ?_) ?_
    · rw [pairs_length, ivs_length]
      have := h.len
      omega
    · obtain ⟨⟨a, b⟩, hab, rfl⟩ := List.mem_map.mp hx
      obtain ⟨i, hi, rfl⟩ := ivs_mem (List.of_mem_zip hab).1
      obtain ⟨j, hj, rfl⟩ := ivs_mem (List.mem_of_mem_drop (List.of_mem_zip hab).2)
      refine (w_gTp rfl rfl).mpr ?_
      ((repeat array_mem_dec) <;> (try dsimp only))
      refine ⟨by trivial, ?_⟩
      ((repeat array_mem_dec) <;> (try dsimp only))
      exact ⟨by trivial, by trivial⟩
    · ((repeat array_mem_dec) <;> (try dsimp only))
      refine w_all.mpr ?_
      rw [ups h.1]
      ((repeat array_mem_dec) <;> (try dsimp only))
      exact (leave_same rfl).mpr ⟨rfl, rfl⟩
theorem inSeq_ivs (b : Nat) : ∀ xs : List Nat, inSeq (.int b) (ivs xs) = xs.contains b
  | [] => rfl
  | x :: r => by
    show (eqv (.int x) (.int b) || inSeq (.int b) (ivs r)) = _
    rw [inSeq_ivs b r, List.contains_cons]
    show (((x : Int) == (b : Int)) || _) = _
    congr 1
    by_cases e : b = x
    · subst e; rw [beq_self_eq_true, beq_self_eq_true]
    · rw [beq_eq_false_iff_ne.mpr e, beq_eq_false_iff_ne.mpr (by omega : (x : Int) ≠ b)]
theorem flat_ivs (xs : List Nat) : (ivs xs).all flat = true := List.all_eq_true.mpr fun x hx => by
  obtain ⟨i, _, rfl⟩ := ivs_mem hx
  rfl
theorem is_house_spec (S : Store) (h : House) (ho : h.Ok) : Post (m_is_house [House.pv h] S) fun v S' => v = .bl true ∧ S' = S := by
  unfold m_is_house
  refine w_fnP rfl ?_
  ((repeat array_mem_dec) <;> (try dsimp only))
  refine (is_tuple_of_spec _ _ _ _).mono ?_
  rintro _ _ ⟨rfl, rfl⟩
  rw [decide_eq_true (by constructor <;> simp)]
  ((repeat array_mem_dec) <;> (try dsimp only))
  refine (are_rising_spec _ _ ho.ins).mono ?_
  rintro _ _ ⟨rfl, rfl⟩
  ((repeat array_mem_dec) <;> (try dsimp only))
  refine (is_below_spec _ _ _).mono ?_
  rintro _ _ ⟨rfl, rfl⟩
  rw [decide_eq_true (by have := ho.out; omega)]
  ((repeat array_mem_dec) <;> (try dsimp only))
  refine (are_rising_spec _ _ ho.kept).mono ?_
  rintro _ _ ⟨rfl, rfl⟩
  ((repeat array_mem_dec) <;> (try dsimp only))
  refine lc_all (all := ivs h.kept) (by rfl) (by rw [ivs_length]; have := ho.kept.len; omega) (fun _ => false) (fun x hx => ?_) ?_
  · obtain ⟨i, hi, rfl⟩ := ivs_mem hx
    ((repeat array_mem_dec) <;> (try dsimp only))
    refine ⟨by trivial, ?_⟩
    ((repeat array_mem_dec) <;> (try dsimp only))
    refine (w_in rfl rfl (flat_ivs _)).mpr ?_
    obtain ⟨h1, h2⟩ := ho.apart i hi
    rw [inSeq_ivs, show h.ins.contains i = false by rw [Bool.eq_false_iff]; intro z; exact h1 (List.contains_iff_mem.mp z)]
    ((repeat array_mem_dec) <;> (try dsimp only))
    rw [beq_eq_false_iff_ne.mpr (by omega : (i : Int) ≠ h.out)]
    exact ⟨rfl, by trivial⟩
  · ((repeat array_mem_dec) <;> (try dsimp only))
    refine w_any.mpr ?_
    rw [show (ivs h.kept).any (fun _ => false) = false from List.any_eq_false.mpr fun _ _ => by decide]
    ((repeat array_mem_dec) <;> (try dsimp only))
    exact (leave_same rfl).mpr ⟨rfl, rfl⟩
end

/-! PureF -/
/-! PureF: checks. -/
section
open PySem L2
/-- a for over what stays; I: by the item's number -/
theorem for_go {it : It} {all : List PV} {env : LW.Env} {S : Store} {g : XG} {b : XS} {QS : Fl × LW.Env → Store → Prop} (I : Nat → LW.Env → Store → Prop) (ha : it.items S = some all) (h0 : I 0 env S)
    (h : ∀ i env S x, I i env S → all[i]? = some x → it.items S = some all ∧ Post (g x env S) fun env S => Post (b env S) fun p S => match p.1 with
      | .nx => I (i + 1) p.2 S
      | .ct => I (i + 1) p.2 S
      | .bk => QS (.nx, p.2) S
      | .rt v => QS (.rt v, p.2) S)
    (he : ∀ env S, I all.length env S → it.items S = some all ∧ QS (.nx, env) S) : ForP it g b env S QS := ⟨all, ha, for_inv I h he all 0 rfl (Nat.zero_le _) env S h0⟩
theorem pairs_at {xs ys : List PV} {i : Nat} {z : PV} (h : (pairs xs ys)[i]? = some z) : ∃ x y, xs[i]? = some x ∧ ys[i]? = some y ∧ z = .tup [x, y] := by
  unfold pairs at h
  rw [List.getElem?_map] at h
  cases e : (xs.zip ys)[i]? with
  | none => rw [e] at h; cases h
  | some p =>
    rw [e] at h
    obtain ⟨x, y⟩ := p
    obtain ⟨h1, h2⟩ := List.getElem?_zip_eq_some.mp e
    exact ⟨x, y, h1, h2, (Option.some.inj h).symm⟩
end
section
open PySem L2
theorem check_houses_spec (S : Store) (hs : List House) (h1 : 1 ≤ hs.length) (h3 : hs.length ≤ 3) (ho : ∀ h ∈ hs, House.Ok h) : Post (m_check_houses [.tup (hs.map House.pv)] S) fun v S' => v = .non ∧ S' = S := by
  unfold m_check_houses
  refine w_fnP rfl ?_
  ((repeat array_mem_dec) <;> (try dsimp only))
  refine (is_tuple_of_spec _ _ _ _).mono ?_
  rintro _ _ ⟨rfl, rfl⟩
  rw [List.length_map, decide_eq_true (by omega)]
  ((repeat array_mem_dec) <;> (try dsimp only))
  refine for_go (all := pairs (upto 0 (hs.map House.pv).length) (hs.map House.pv)) (fun i env S' => S' = _ ∧ ∃ a b, env = [some (.tup (hs.map House.pv)), a, b]) (by rfl) ⟨rfl, none, none, rfl⟩ ?_ ?_
  · rintro i env S' x ⟨rfl, a, b, rfl⟩ hx
    obtain ⟨x, y, hx, hy, rfl⟩ := pairs_at hx
    refine ⟨by rfl, ?_⟩
    rw [List.getElem?_map] at hy
    cases hh : hs[i]? with
    | none => rw [hh] at hy; cases hy
    | some h =>
      rw [hh] at hy
      cases hy
      ((repeat array_mem_dec) <;> (try dsimp only))
      refine (is_house_spec _ h (ho h (List.mem_of_getElem? hh))).mono ?_
      rintro _ _ ⟨rfl, rfl⟩
      ((repeat array_mem_dec) <;> (try dsimp only))
      exact ⟨by trivial, _, _, rfl⟩
  · rintro env S' ⟨rfl, a, b, rfl⟩
    refine ⟨by rfl, ?_⟩
    ((repeat array_mem_dec) <;> (try dsimp only))
    exact (leave_same rfl).mpr ⟨rfl, rfl⟩
end

/-! PureG -/
/-! PureG: rows are rows. -/
section
open PySem L2
theorem w_getS {ks : List Str} {vs : List PV} {k : XE} {env : LW.Env} {S : Store} {Q : PV → Store → Prop} : Post (eGetS ks vs k env S) Q ↔ Post (k env S) fun kv S => match kv with
    | .str k => Q ((lookS ks vs k).getD .non) S
    | _ => False := by
  unfold eGetS
  rw [Post.bind]
  constructor <;> (intro h; refine h.mono fun x S h => ?_; cases x <;> first | exact Post.ok.mp h | exact Post.ok.mpr h | exact (Post.bad.mp h).elim | exact False.elim h)
theorem cut1 (x : PV) (r : List PV) : cut (x :: r) (some 1) none = r := by
  have h1 : HT.sIx (x :: r).length 0 (some 1) = min 1 (x :: r).length := HT.sIx_nat (x :: r).length 0 1
  unfold cut
  rw [h1, HT.sIx_none]
  have h2 : min 1 (x :: r).length = 1 := by rw [List.length_cons]; omega
  rw [h2]
  show List.take ((r.length + 1) - 1) r = r
  rw [Nat.add_sub_cancel]
  exact List.take_length
end
section
open PySem L2
def lims (rows routines : Nat) : Cell := .dks ["box", "number", "row", "routine"] [.int 6, .int 1000, .int rows, .int routines]
def limOf (rows routines : Nat) (k : Str) : Option PV := lookS ["box", "number", "row", "routine"] [.int 6, .int 1000, .int rows, .int routines] k
/-- a value below its place's limit -/
def Fits (rows routines : Nat) (v p : PV) : Prop := ∃ (i n : Int) (k : Str), v = .int i ∧ p = .str k ∧ limOf rows routines k = some (.int n) ∧ 0 ≤ i ∧ i < n
theorem is_row_spec (S : Store) (l rows routines : Nat) (w : Str) (vs ps : List PV) (hl : S[l]? = some (lims rows routines)) (hp : lookS K_PLACES V_PLACES w = some (.tup ps)) (hn : vs.length = ps.length) (hn3 : vs.length ≤ 3)
    (hf : ∀ (i : Nat) v p, vs[i]? = some v → ps[i]? = some p → Fits rows routines v p) : Post (m_is_row [.tup (.str w :: vs), .loc l] S) fun v S' => v = .bl true ∧ S' = S := by
  unfold m_is_row
  refine w_fnP rfl ?_
  ((repeat array_mem_dec) <;> (try dsimp only))
  rw [beq_eq_false_iff_ne.mpr (by rw [List.length_cons]; omega : ((PV.str w :: vs).length : Int) ≠ 0)]
  ((repeat array_mem_dec) <;> (try dsimp only))
  refine w_getS.mpr ?_
  ((repeat array_mem_dec) <;> (try dsimp only))
  rw [hp, show (some (PV.tup ps)).getD PV.non = PV.tup ps from rfl, show (PV.tup ps).isNon = false from rfl]
  ((repeat array_mem_dec) <;> (try dsimp only))
  rw [show ((((PV.str w :: vs).length : Int)) == (ps.length : Int) + 1) = true from beq_iff_eq.mpr (by rw [List.length_cons]; omega)]
  ((repeat array_mem_dec) <;> (try dsimp only))
  rw [cut1]
  refine lc_all (all := pairs vs ps) (by rfl) (by rw [pairs_length]; omega) (fun _ => true) (fun x hx => ?_) ?_
  · obtain ⟨i, hi⟩ := List.getElem?_of_mem hx
    obtain ⟨v, p, h1, h2, rfl⟩ := pairs_at hi
    obtain ⟨j, n, k, rfl, rfl, hk, h0, h3⟩ := hf i v p h1 h2
    refine (w_gTp (xs := [.int j, .str k]) (by rfl) (by rfl)).mpr ?_
    ((repeat array_mem_dec) <;> (try dsimp only))
    refine ⟨by trivial, ?_⟩
    ((repeat array_mem_dec) <;> (try dsimp only))
    refine (w_ixS (show dksOf S (.loc l) = some _ by unfold dksOf; simp only [hl]; rfl) hk).mpr ?_
    ((repeat array_mem_dec) <;> (try dsimp only))
    refine (is_below_spec _ _ _).mono ?_
    rintro _ _ ⟨rfl, rfl⟩
    exact ⟨by rw [decide_eq_true ⟨h0, h3⟩], rfl⟩
  · ((repeat array_mem_dec) <;> (try dsimp only))
    refine w_all.mpr ?_
    rw [show (pairs vs ps).all (fun _ => true) = true from List.all_eq_true.mpr fun _ _ => rfl]
    exact (leave_same rfl).mpr ⟨rfl, rfl⟩
inductive Row where
  | put (b n : Nat) | move (a b : Nat) | add (a b c : Nat) | take (a b c : Nat) | push (b : Nat) | pop (b : Nat) | say (b : Nat) | zero (b t : Nat) | go (t : Nat) | call (r : Nat) | back
def Row.pv : Row → PV
  | .put b n => .tup [.str "put", .int b, .int n]
  | .move a b => .tup [.str "move", .int a, .int b]
  | .add a b c => .tup [.str "add", .int a, .int b, .int c]
  | .take a b c => .tup [.str "take", .int a, .int b, .int c]
  | .push b => .tup [.str "push", .int b]
  | .pop b => .tup [.str "pop", .int b]
  | .say b => .tup [.str "say", .int b]
  | .zero b t => .tup [.str "zero", .int b, .int t]
  | .go t => .tup [.str "go", .int t]
  | .call r => .tup [.str "call", .int r]
  | .back => .tup [.str "back"]
def Row.Ok (rows routines : Nat) : Row → Prop
  | .put b n => b < 6 ∧ n < 1000
  | .move a b => a < 6 ∧ b < 6
  | .add a b c => a < 6 ∧ b < 6 ∧ c < 6
  | .take a b c => a < 6 ∧ b < 6 ∧ c < 6
  | .push b => b < 6
  | .pop b => b < 6
  | .say b => b < 6
  | .zero b t => b < 6 ∧ t < rows
  | .go t => t < rows
  | .call r => r < routines
  | .back => True
theorem fitsBox {rows routines b : Nat} (h : b < 6) : Fits rows routines (.int b) (.str "box") := ⟨b, 6, _, rfl, rfl, by rfl, by omega, by omega⟩
theorem fitsNum {rows routines b : Nat} (h : b < 1000) : Fits rows routines (.int b) (.str "number") := ⟨b, 1000, _, rfl, rfl, by rfl, by omega, by omega⟩
theorem fitsRow {rows routines b : Nat} (h : b < rows) : Fits rows routines (.int b) (.str "row") := ⟨b, rows, _, rfl, rfl, by rfl, by omega, by omega⟩
theorem fitsRou {rows routines b : Nat} (h : b < routines) : Fits rows routines (.int b) (.str "routine") := ⟨b, routines, _, rfl, rfl, by rfl, by omega, by omega⟩
theorem fits0 {rows routines : Nat} : ∀ (i : Nat) (v p : PV), ([] : List PV)[i]? = some v → ([] : List PV)[i]? = some p → Fits rows routines v p := fun i v p h => by cases h
theorem fits1 {rows routines : Nat} {v p : PV} {vs ps : List PV} (h : Fits rows routines v p) (r : ∀ (i : Nat) (v p : PV), vs[i]? = some v → ps[i]? = some p → Fits rows routines v p) : ∀ (i : Nat) (v' p' : PV), (v :: vs)[i]? = some v' → (p :: ps)[i]? = some p' → Fits rows routines v' p' := fun i v' p' h1 h2 => by
  cases i with
  | zero => cases h1; cases h2; exact h
  | succ i => exact r i v' p' h1 h2
theorem row_spec (S : Store) (l rows routines : Nat) (hl : S[l]? = some (lims rows routines)) (r : Row) (h : r.Ok rows routines) : Post (m_is_row [r.pv, .loc l] S) fun v S' => v = .bl true ∧ S' = S := by
  cases r with
  | put b n => exact is_row_spec S l rows routines _ _ [.str "box", .str "number"] hl (by decide +kernel) rfl (Nat.le_of_ble_eq_true rfl) (fits1 (fitsBox h.1) (fits1 (fitsNum h.2) fits0))
  | move a b => exact is_row_spec S l rows routines _ _ [.str "box", .str "box"] hl (by decide +kernel) rfl (Nat.le_of_ble_eq_true rfl) (fits1 (fitsBox h.1) (fits1 (fitsBox h.2) fits0))
  | add a b c => exact is_row_spec S l rows routines _ _ [.str "box", .str "box", .str "box"] hl (by decide +kernel) rfl (Nat.le_of_ble_eq_true rfl) (fits1 (fitsBox h.1) (fits1 (fitsBox h.2.1) (fits1 (fitsBox h.2.2) fits0)))
  | take a b c => exact is_row_spec S l rows routines _ _ [.str "box", .str "box", .str "box"] hl (by decide +kernel) rfl (Nat.le_of_ble_eq_true rfl) (fits1 (fitsBox h.1) (fits1 (fitsBox h.2.1) (fits1 (fitsBox h.2.2) fits0)))
  | push b => exact is_row_spec S l rows routines _ _ [.str "box"] hl (by decide +kernel) rfl (Nat.le_of_ble_eq_true rfl) (fits1 (fitsBox h) fits0)
  | pop b => exact is_row_spec S l rows routines _ _ [.str "box"] hl (by decide +kernel) rfl (Nat.le_of_ble_eq_true rfl) (fits1 (fitsBox h) fits0)
  | say b => exact is_row_spec S l rows routines _ _ [.str "box"] hl (by decide +kernel) rfl (Nat.le_of_ble_eq_true rfl) (fits1 (fitsBox h) fits0)
  | zero b t => exact is_row_spec S l rows routines _ _ [.str "box", .str "row"] hl (by decide +kernel) rfl (Nat.le_of_ble_eq_true rfl) (fits1 (fitsBox h.1) (fits1 (fitsRow h.2) fits0))
  | go t => exact is_row_spec S l rows routines _ _ [.str "row"] hl (by decide +kernel) rfl (Nat.le_of_ble_eq_true rfl) (fits1 (fitsRow h) fits0)
  | call r => exact is_row_spec S l rows routines _ _ [.str "routine"] hl (by decide +kernel) rfl (Nat.le_of_ble_eq_true rfl) (fits1 (fitsRou h) fits0)
  | back => exact is_row_spec S l rows routines _ _ [] hl (by decide +kernel) rfl (Nat.le_of_ble_eq_true rfl) fits0
end

/-! PureH -/
/-! PureH: programs are programs. -/
section
open PySem L2
def LowS (S : Store) : Prop := S.all (Cell.low S.length) = true
theorem leave_drop {S more : Store} {v w : PV} {Q : PV → Store → Prop} (h : LowS S) (hm : more ≠ []) (hv : out1 S.length (S ++ more) v = some w) : Post (leave S.length v (S ++ more)) Q ↔ Q w S := by
  have h : S.all (Cell.low S.length) = true := h
  unfold leave
  rw [if_neg (by rw [List.length_append]; intro z; exact hm (List.eq_nil_of_length_eq_zero (by omega))), List.take_left, if_pos h]
  simp only [hv]
  exact Post.ok
theorem w_eDks {ks : List Str} {a : XA} {env : LW.Env} {S : Store} {Q : PV → Store → Prop} : Post (eDks ks a env S) Q ↔ Post (a env S) fun vs S => ks.length = vs.length ∧ ks.length ≤ 15 ∧ ks.Nodup ∧ Q (.loc S.length) (S ++ [.dks ks vs]) := by
  unfold eDks
  rw [Post.bind]
  constructor <;> (intro h; refine h.mono fun vs S h => ?_)
  · split at h
    · rename_i hc
      exact ⟨hc.1, hc.2.1, hc.2.2, Post.ok.mp h⟩
    · exact (Post.bad.mp h).elim
  · rw [if_pos ⟨h.1, h.2.1, h.2.2.1⟩]
    exact Post.ok.mpr h.2.2.2
end
section
open PySem L2
def Row.isEnd : Row → Prop
  | .go _ => True
  | .back => True
  | _ => False
theorem last_at (init : List Row) (r : Row) : atI ((init ++ [r]).map Row.pv) (-1) = some r.pv := by
  rw [List.map_append]
  exact L2.atI_last _ _
theorem check_rows_spec (S : Store) (hS : LowS S) (init : List Row) (last : Row) (number : Int) (many : Nat) (he : last.isEnd) (hr : ∀ r ∈ init ++ [last], r.Ok (init ++ [last]).length many) :
    Post (m_check_rows [.tup ((init ++ [last]).map Row.pv), .int number, .int many] S) fun v S' => v = .non ∧ S' = S := by
  unfold m_check_rows
  refine w_fnP rfl ?_
  ((repeat array_mem_dec) <;> (try dsimp only))
  refine w_eDks.mpr ?_
  ((repeat array_mem_dec) <;> (try dsimp only))
  refine ⟨rfl, by decide, by decide +kernel, ?_⟩
  ((repeat array_mem_dec) <;> (try dsimp only))
  have hl : (S ++ [Cell.dks ["box", "number", "row", "routine"] [PV.int 6, PV.int 1000, PV.int ((init ++ [last]).map Row.pv).length, PV.int many]])[S.length]? = some (lims (init ++ [last]).length many) := by
    rw [List.getElem?_append_right (Nat.le_refl _), Nat.sub_self, List.length_map]
    rfl
  refine for_go (all := pairs (upto 0 ((init ++ [last]).map Row.pv).length) ((init ++ [last]).map Row.pv)) (fun i env S' => S' = _ ∧ ∃ a b, env = [some (.tup ((init ++ [last]).map Row.pv)), some (.int number), some (.int many), some (.loc S.length), a, b]) (by rfl) ⟨rfl, none, none, rfl⟩ ?_ ?_
  · rintro i env S' x ⟨rfl, a, b, rfl⟩ hx
    obtain ⟨x, y, hx, hy, rfl⟩ := pairs_at hx
    refine ⟨by rfl, ?_⟩
    rw [List.getElem?_map] at hy
    cases hh : (init ++ [last])[i]? with
    | none => rw [hh] at hy; cases hy
    | some r =>
      rw [hh] at hy
      cases hy
      ((repeat array_mem_dec) <;> (try dsimp only))
      refine (row_spec _ _ _ _ hl r (hr r (List.mem_of_getElem? hh))).mono ?_
      rintro _ _ ⟨rfl, rfl⟩
      ((repeat array_mem_dec) <;> (try dsimp only))
      exact ⟨by trivial, _, _, rfl⟩
  · rintro env S' ⟨rfl, a, b, rfl⟩
    refine ⟨by rfl, ?_⟩
    ((repeat array_mem_dec) <;> (try dsimp only))
    refine (w_ix (by rfl) (last_at init last)).mpr ?_
    cases last with
    | go t =>
      ((repeat array_mem_dec) <;> (try dsimp only))
      refine (w_notIn (by rfl) rfl rfl).mpr ?_
      rw [show inSeq (.str "go") [.str "go", .str "back"] = true by decide +kernel]
      ((repeat array_mem_dec) <;> (try dsimp only))
      exact (leave_drop hS (by simp) (by rfl)).mpr ⟨rfl, rfl⟩
    | back =>
      ((repeat array_mem_dec) <;> (try dsimp only))
      refine (w_notIn (by rfl) rfl rfl).mpr ?_
      rw [show inSeq (.str "back") [.str "go", .str "back"] = true by decide +kernel]
      ((repeat array_mem_dec) <;> (try dsimp only))
      exact (leave_drop hS (by simp) (by rfl)).mpr ⟨rfl, rfl⟩
    | _ => exact he.elim
structure Routine where
  house : Nat
  init : List Row
  last : Row
def Routine.rows (r : Routine) : List Row := r.init ++ [r.last]
structure Routine.Ok (houses many : Nat) (r : Routine) : Prop where
  house : r.house < houses
  len : r.rows.length ≤ 32
  rows : ∀ x ∈ r.rows, x.Ok r.rows.length many
  last : r.last.isEnd
def Routine.pv (r : Routine) : PV := .tup [.int r.house, .tup (r.rows.map Row.pv)]
structure Prog where
  houses : List House
  routines : List Routine
structure Prog.Ok (p : Prog) : Prop where
  h1 : 1 ≤ p.houses.length
  h3 : p.houses.length ≤ 3
  r1 : 1 ≤ p.routines.length
  r6 : p.routines.length ≤ 6
  houses : ∀ h ∈ p.houses, h.Ok
  routines : ∀ r ∈ p.routines, r.Ok p.houses.length p.routines.length
def Prog.pv (p : Prog) : PV := .tup [.tup (p.houses.map House.pv), .tup (p.routines.map Routine.pv)]
theorem Routine.rows_pos (r : Routine) : 1 ≤ r.rows.length := by
  unfold Routine.rows
  rw [List.length_append]
  exact Nat.le_add_left _ _
theorem check_routines_spec (S : Store) (hS : LowS S) (p : Prog) (ho : p.Ok) : Post (m_check_routines [.tup (p.routines.map Routine.pv), .int p.houses.length] S) fun v S' => v = .non ∧ S' = S := by
  unfold m_check_routines
  refine w_fnP rfl ?_
  ((repeat array_mem_dec) <;> (try dsimp only))
  refine (is_tuple_of_spec _ _ _ _).mono ?_
  rintro _ _ ⟨rfl, rfl⟩
  rw [List.length_map, decide_eq_true (by have := ho.r1; have := ho.r6; omega)]
  ((repeat array_mem_dec) <;> (try dsimp only))
  refine for_go (all := pairs (upto 0 (p.routines.map Routine.pv).length) (p.routines.map Routine.pv)) (fun i env S' => S' = _ ∧ ∃ a b c d, env = [some (.tup (p.routines.map Routine.pv)), some (.int p.houses.length), a, b, c, d]) (by rfl) ⟨rfl, none, none, none, none, rfl⟩ ?_ ?_
  · rintro i env S' x ⟨rfl, a, b, c, d, rfl⟩ hx
    obtain ⟨x, y, hx1, hy, rfl⟩ := pairs_at hx
    refine ⟨by rfl, ?_⟩
    rw [List.getElem?_map] at hy
    cases hh : p.routines[i]? with
    | none => rw [hh] at hy; cases hy
    | some r =>
      rw [hh] at hy
      cases hy
      have hlt : i < (upto 0 (p.routines.map Routine.pv).length).length := (List.getElem?_eq_some_iff.mp hx1).1
      rw [upto_length] at hlt
      rw [upto_get hlt] at hx1
      cases hx1
      have hr := ho.routines r (List.mem_of_getElem? hh)
      ((repeat array_mem_dec) <;> (try dsimp only))
      refine (is_tuple_of_spec _ _ _ _).mono ?_
      rintro _ _ ⟨rfl, rfl⟩
      rw [decide_eq_true (by constructor <;> simp)]
      ((repeat array_mem_dec) <;> (try dsimp only))
      refine (is_below_spec _ _ _).mono ?_
      rintro _ _ ⟨rfl, rfl⟩
      rw [decide_eq_true (by have := hr.house; omega)]
      ((repeat array_mem_dec) <;> (try dsimp only))
      refine (is_tuple_of_spec _ _ _ _).mono ?_
      rintro _ _ ⟨rfl, rfl⟩
      rw [List.length_map, decide_eq_true (by have := hr.len; have := r.rows_pos; omega)]
      ((repeat array_mem_dec) <;> (try dsimp only))
      rw [List.length_map]
      refine (check_rows_spec _ hS r.init r.last _ p.routines.length hr.last hr.rows).mono ?_
      rintro _ _ ⟨rfl, rfl⟩
      exact ⟨by trivial, _, _, _, _, rfl⟩
  · rintro env S' ⟨rfl, a, b, c, d, rfl⟩
    refine ⟨by rfl, ?_⟩
    ((repeat array_mem_dec) <;> (try dsimp only))
    exact (leave_same rfl).mpr ⟨rfl, rfl⟩
theorem check_program_spec (S : Store) (hS : LowS S) (p : Prog) (ho : p.Ok) : Post (m_check_program [p.pv] S) fun v S' => v = .non ∧ S' = S := by
  unfold m_check_program
  refine w_fnP rfl ?_
  ((repeat array_mem_dec) <;> (try dsimp only))
  refine (is_tuple_of_spec _ _ _ _).mono ?_
  rintro _ _ ⟨rfl, rfl⟩
  rw [decide_eq_true (by constructor <;> simp)]
  ((repeat array_mem_dec) <;> (try dsimp only))
  refine (check_houses_spec _ _ ho.h1 ho.h3 ho.houses).mono ?_
  rintro _ _ ⟨rfl, rfl⟩
  ((repeat array_mem_dec) <;> (try dsimp only))
  rw [List.length_map]
  refine (check_routines_spec _ hS p ho).mono ?_
  rintro _ _ ⟨rfl, rfl⟩
  exact (leave_same rfl).mpr ⟨rfl, rfl⟩
end

/-! PureI0 -/
/-! PureI0: houses and rows by numbers. -/
section
open PySem L2
theorem atI_map {α : Type} {f : α → PV} {xs : List α} {i : Nat} {x : α} (h : xs[i]? = some x) : atI (xs.map f) (i : Int) = some (f x) := by
  rw [L2.atI_nat (j := i)]
  rw [List.getElem?_map, h]
  rfl
/-- routine 0's house -/
theorem Prog.Ok.first {p : Prog} (ho : p.Ok) : ∃ r h, p.routines[0]? = some r ∧ p.houses[r.house]? = some h ∧ r.Ok p.houses.length p.routines.length ∧ h.Ok := by
  have h1 := ho.r1
  have hr := ho.routines p.routines[0] (List.getElem_mem _)
  exact ⟨p.routines[0], p.houses[p.routines[0].house]'hr.house, List.getElem?_eq_getElem _, List.getElem?_eq_getElem hr.house, hr, ho.houses _ (List.getElem_mem _)⟩
end

/-! PureJ0 -/
/-! PureJ0: draws over what stays. -/
section
open PySem L2
end

/-! PureKa -/
/-! PureKa: dicts of words. -/
section
open PySem L2
theorem w_eDc {ks : List Str} {a : XA} {env : LW.Env} {S : Store} {Q : PV → Store → Prop} : Post (eDc ks a env S) Q ↔ Post (a env S) fun vs S => ks.length = vs.length ∧ ks.length ≤ 15 ∧ ks.Nodup ∧ Q (.dc ks vs) S := by
  unfold eDc
  rw [Post.bind]
  constructor <;> (intro h; refine h.mono fun vs S h => ?_)
  · split at h
    · rename_i hc
      exact ⟨hc.1, hc.2.1, hc.2.2, Post.ok.mp h⟩
    · exact (Post.bad.mp h).elim
  · rw [if_pos ⟨h.1, h.2.1, h.2.2.1⟩]
    exact Post.ok.mpr h.2.2.2
theorem w_get2 {o k d : XE} {env : LW.Env} {S : Store} {Q : PV → Store → Prop} (h : Post (o env S) fun ov S => ∃ ks vs, ov = .dc ks vs ∧ Post (k env S) fun kv S => ∃ w, kv = .str w ∧ Post (d env S) fun dv S => Q ((lookS ks vs w).getD dv) S) : Post (eGet2 o k d env S) Q := by
  unfold eGet2
  rw [Post.bind]
  refine h.mono ?_
  rintro _ S ⟨ks, vs, rfl, h⟩
  show Post ((k env S).bind _) Q
  rw [Post.bind]
  refine h.mono ?_
  rintro _ S ⟨w, rfl, h⟩
  rw [Post.bind]
  exact h.mono fun dv S h => Post.ok.mpr h
end

/-! PureL -/
/-! PureL: routines that are drawn row by row: the dict e and its lists. -/
section
open PySem L2
theorem w_meth1 {f : Nat → PV → Store → R PV} {o a : XE} {env : LW.Env} {S : Store} {Q : PV → Store → Prop} (h : Post (o env S) fun x S => ∃ l xs, x = .loc l ∧ S[l]? = some (.lst xs) ∧ Post (a env S) fun y S => Post (f l y S) Q) : Post (eMeth1 f o a env S) Q := by
  unfold eMeth1
  rw [Post.bind]
  refine h.mono ?_
  rintro _ S ⟨l, xs, rfl, h, k⟩
  simp only [h]
  rw [Post.bind]
  exact k
theorem w_meth0 {f : Nat → Store → R PV} {o : XE} {env : LW.Env} {S : Store} {Q : PV → Store → Prop} (h : Post (o env S) fun x S => ∃ l xs, x = .loc l ∧ S[l]? = some (.lst xs) ∧ Post (f l S) Q) : Post (eMeth0 f o env S) Q := by
  unfold eMeth0
  rw [Post.bind]
  refine h.mono ?_
  rintro _ S ⟨l, xs, rfl, h, k⟩
  simp only [h]
  exact k
theorem w_mAppend {l : Nat} {xs : List PV} {y : PV} {S : Store} {Q : PV → Store → Prop} (h : S[l]? = some (.lst xs)) (h2 : xs.length < lim) : Post (mAppend l y S) Q ↔ Q .non (S.set l (.lst (xs ++ [y]))) := by
  unfold mAppend
  simp only [h]
  rw [if_pos h2]
  exact Post.ok
theorem w_mExtend {l : Nat} {xs ys : List PV} {y : PV} {S : Store} {Q : PV → Store → Prop} (h : S[l]? = some (.lst xs)) (hy : lstOf S y = some ys) (h2 : xs.length + ys.length ≤ lim) : Post (mExtend l y S) Q ↔ Q .non (S.set l (.lst (xs ++ ys))) := by
  unfold mExtend
  simp only [h, hy]
  rw [if_pos h2]
  exact Post.ok
theorem w_mPop {l : Nat} {xs : List PV} {y : PV} {S : Store} {Q : PV → Store → Prop} (h : S[l]? = some (.lst xs)) (h2 : xs.getLast? = some y) : Post (mPop l S) Q ↔ Q y (S.set l (.lst xs.dropLast)) := by
  unfold mPop
  simp only [h, h2]
  exact Post.ok
theorem w_sPar {i j : Nat} {a : XA} {env : LW.Env} {S : Store} {QS : Fl × LW.Env → Store → Prop} : Post (sPar i j a env S) QS ↔ Post (a env S) fun xs S => ∃ x y, xs = [x, y] ∧ QS (.nx, (env.set i (some x)).set j (some y)) S := by
  unfold sPar
  rw [Post.bind]
  constructor <;> (intro h; refine h.mono fun xs S h => ?_)
  · split at h
    · exact ⟨_, _, rfl, Post.ok.mp h⟩
    · exact (Post.bad.mp h).elim
  · obtain ⟨x, y, rfl, h⟩ := h
    exact Post.ok.mpr h
theorem w_ifT {A B : Prop} {d : Decidable True} : (@ite Prop True d A B) ↔ A := by rw [if_pos True.intro]
theorem w_ifF {A B : Prop} {d : Decidable False} : (@ite Prop False d A B) ↔ B := by rw [if_neg id]
theorem pick {xs : List PV} {r : Int} (h0 : 0 ≤ r) (h1 : r < xs.length) : ∃ x, x ∈ xs ∧ atI xs r = some x := by
  obtain ⟨n, rfl⟩ : ∃ n : Nat, r = n := ⟨r.toNat, by omega⟩
  have hn : n < xs.length := by omega
  refine ⟨xs[n], List.getElem_mem hn, ?_⟩
  rw [L2.atI_nat (j := n)]
  exact List.getElem?_eq_getElem hn
theorem get_app {A B : Store} {i : Nat} : (A ++ B)[A.length + i]? = B[i]? := by
  rw [List.getElem?_append_right (Nat.le_add_right _ _), Nat.add_sub_cancel_left]
theorem set_app {A B : Store} {i : Nat} {c : Cell} : (A ++ B).set (A.length + i) c = A ++ B.set i c := by
  rw [List.set_append_right _ _ (Nat.le_add_right _ _), Nat.add_sub_cancel_left]
theorem eq_nil_ls {xs : List PV} {S : Store} : (plain 20 (res 20 S (.ls xs)) = true) → eqv (res 20 S (.ls xs)) (.ls []) = xs.isEmpty := by
  intro _
  cases xs <;> rfl
theorem w_eqE' {xs : List PV} {S : Store} {Q : PV → Store → Prop} (h : plain 20 (res 20 S (.ls xs)) = true) : Post (oEq (.ls xs) (.ls []) S) Q ↔ Q (.bl xs.isEmpty) S := by
  unfold oEq
  rw [if_pos ⟨h, rfl⟩]
  show Post (R.ok (PV.bl (eqv (res 20 S (.ls xs)) (.ls []))) S) Q ↔ _
  rw [eq_nil_ls h]
  exact Post.ok
theorem w_neE' {xs : List PV} {S : Store} {Q : PV → Store → Prop} (h : plain 20 (res 20 S (.ls xs)) = true) : Post (oNe (.ls xs) (.ls []) S) Q ↔ Q (.bl (!xs.isEmpty)) S := by
  unfold oNe
  rw [if_pos ⟨h, rfl⟩]
  show Post (R.ok (PV.bl (!eqv (res 20 S (.ls xs)) (.ls []))) S) Q ↔ _
  rw [eq_nil_ls h]
  exact Post.ok
end
section
open PySem L2
theorem plain_ivs (xs : List Nat) (S : Store) : plain 20 (res 20 S (.ls (ivs xs))) = true := by
  have h : ∀ xs : List Nat, ((ivs xs).map (res 19 S)).all (plain 19) = true := by
    intro xs
    induction xs with
    | nil => rfl
    | cons x r ih =>
      show (true && ((ivs r).map (res 19 S)).all (plain 19)) = true
      rw [ih]
      rfl
  exact h xs
theorem pick_ivs {xs : List Nat} {r : Int} (h0 : 0 ≤ r) (h1 : r < xs.length) : ∃ b : Nat, b ∈ xs ∧ atI (ivs xs) r = some (.int b) := by
  obtain ⟨x, hx, h⟩ := pick (xs := ivs xs) h0 (by rw [ivs_length]; exact h1)
  obtain ⟨i, hi, rfl⟩ := ivs_mem hx
  exact ⟨i, hi, h⟩
/-- what a routine is made of -/
structure Es where
  rows : List Row
  houses : List House
  owners : List Nat
  boxes : List Str
  free : List Nat
def Es.cells (e : Es) (m : Nat) : Store := [.lst (e.rows.map Row.pv), .dks ["rows", "houses", "owners", "boxes", "free"] [.loc (m + 2), .tup (e.houses.map House.pv), .ls (ivs e.owners), .loc (m + 4), .ls (ivs e.free)], .lst (e.boxes.map .str)]
abbrev Es.st (e : Es) (g : Hs) (rest : Store) : Store := g.st (rest ++ e.cells rest.length)
structure Es.Ok (many : Nat) (e : Es) : Prop where
  six : e.boxes.length = 6
  marks : ∀ b ∈ e.boxes, PyData.strOk b = true
  rows : ∀ r ∈ e.rows, r.Ok (e.rows.length + 1) many
  free : Boxes e.free
  most : 0 < e.free.length
  mpos : 0 < many
  owned : e.owners.length = many
  few : many ≤ 6
  owners : ∀ o ∈ e.owners, o < e.houses.length
  houses : ∀ h ∈ e.houses, h.Ok
def Es.Like (e e' : Es) : Prop := e'.houses = e.houses ∧ e'.owners = e.owners ∧ e'.free = e.free ∧ e.rows.length ≤ e'.rows.length
theorem Row.Ok.mono {n n' m : Nat} {r : Row} (h : r.Ok n m) (hn : n ≤ n') : r.Ok n' m := by
  cases r with
  | zero b t => exact ⟨h.1, Nat.lt_of_lt_of_le h.2 hn⟩
  | go t => exact Nat.lt_of_lt_of_le (show t < n from h) hn
  | put b n => exact h
  | move a b => exact h
  | add a b c => exact h
  | take a b c => exact h
  | push b => exact h
  | pop b => exact h
  | say b => exact h
  | call r => exact h
  | back => exact h
section
variable {e : Es} {g : Hs} {rest : Store} {Q : PV → Store → Prop} {i : Nat} {b : Str} {many : Nat}
theorem Es.len : (e.st g rest).length = rest.length + 5 := by
  show (rest ++ e.cells rest.length).length + 1 + 1 = _
  rw [List.length_append]
  rfl
theorem Es.at0 : (e.st g rest)[rest.length + 2]? = some (.lst (e.rows.map Row.pv)) := get_app (A := rest) (B := e.cells rest.length) (i := 0)
theorem Es.at1 : (e.st g rest)[rest.length + 3]? = some (.dks ["rows", "houses", "owners", "boxes", "free"] [.loc (rest.length + 2), .tup (e.houses.map House.pv), .ls (ivs e.owners), .loc (rest.length + 4), .ls (ivs e.free)]) := get_app (A := rest) (B := e.cells rest.length) (i := 1)
theorem Es.at2 : (e.st g rest)[rest.length + 4]? = some (.lst (e.boxes.map .str)) := get_app (A := rest) (B := e.cells rest.length) (i := 2)
theorem Es.set0 {rs : List Row} : (e.st g rest).set (rest.length + 2) (.lst (rs.map Row.pv)) = Es.st { e with rows := rs } g rest := congrArg (fun z => Cell.lst (g.l.map .int) :: Cell.lst [.int g.a, .loc 0, .int g.c] :: z) (set_app (A := rest) (B := e.cells rest.length) (i := 0))
theorem Es.set2 {bs : List Str} : (e.st g rest).set (rest.length + 4) (.lst (bs.map .str)) = Es.st { e with boxes := bs } g rest := congrArg (fun z => Cell.lst (g.l.map .int) :: Cell.lst [.int g.a, .loc 0, .int g.c] :: z) (set_app (A := rest) (B := e.cells rest.length) (i := 2))
theorem Es.dksAt : dksOf (e.st g rest) (.loc (rest.length + 3)) = some ((["rows", "houses", "owners", "boxes", "free"] : List Str), [PV.loc (rest.length + 2), PV.tup (e.houses.map House.pv), PV.ls (ivs e.owners), PV.loc (rest.length + 4), PV.ls (ivs e.free)]) := by
  show (match (e.st g rest)[rest.length + 3]? with | some (.dks ks vs) => some (ks, vs) | _ => none) = _
  rw [Es.at1]
theorem w_eRows : Post (oIx (.loc (rest.length + 3)) (.str "rows") (e.st g rest)) Q ↔ Q (.loc (rest.length + 2)) (e.st g rest) := w_ixS Es.dksAt rfl
theorem w_eHouses : Post (oIx (.loc (rest.length + 3)) (.str "houses") (e.st g rest)) Q ↔ Q (.tup (e.houses.map House.pv)) (e.st g rest) := w_ixS Es.dksAt rfl
theorem w_eOwners : Post (oIx (.loc (rest.length + 3)) (.str "owners") (e.st g rest)) Q ↔ Q (.ls (ivs e.owners)) (e.st g rest) := w_ixS Es.dksAt rfl
theorem w_eBoxes : Post (oIx (.loc (rest.length + 3)) (.str "boxes") (e.st g rest)) Q ↔ Q (.loc (rest.length + 4)) (e.st g rest) := w_ixS Es.dksAt rfl
theorem w_eFree : Post (oIx (.loc (rest.length + 3)) (.str "free") (e.st g rest)) Q ↔ Q (.ls (ivs e.free)) (e.st g rest) := w_ixS Es.dksAt rfl
theorem Es.seq0 : seqOf (e.st g rest) (.loc (rest.length + 2)) = some (e.rows.map Row.pv) := by
  show (match (e.st g rest)[rest.length + 2]? with | some (.lst xs) => some xs | _ => none) = _
  rw [Es.at0]
theorem Es.seq2 : seqOf (e.st g rest) (.loc (rest.length + 4)) = some (e.boxes.map .str) := by
  show (match (e.st g rest)[rest.length + 4]? with | some (.lst xs) => some xs | _ => none) = _
  rw [Es.at2]
theorem w_eBox (h : e.boxes[i]? = some b) : Post (oIx (.loc (rest.length + 4)) (.int (i : Int)) (e.st g rest)) Q ↔ Q (.str b) (e.st g rest) := w_ix Es.seq2 (atI_map h)
theorem w_eLenR : Post (bLen [.loc (rest.length + 2)] (e.st g rest)) Q ↔ Q (.int e.rows.length) (e.st g rest) := by rw [w_len Es.seq0, List.length_map]
theorem w_eLenI {S : Store} {xs : List Nat} : Post (bLen [.ls (ivs xs)] S) Q ↔ Q (.int xs.length) S := by rw [w_len rfl, ivs_length]
theorem Es.Ok.at (h : e.Ok many) {i : Nat} (hi : i < 6) : ∃ b, e.boxes[i]? = some b ∧ PyData.strOk b = true := by
  have h6 : i < e.boxes.length := by rw [h.six]; exact hi
  exact ⟨e.boxes[i], List.getElem?_eq_getElem h6, h.marks _ (List.getElem_mem h6)⟩
theorem w_eAdd {r : Row} (h : e.rows.length < 20000) : Post (mAppend (rest.length + 2) r.pv (e.st g rest)) Q ↔ Q .non (Es.st { e with rows := e.rows ++ [r] } g rest) := by
  rw [w_mAppend Es.at0 (by rw [List.length_map]; exact Nat.lt_trans h (by decide)), show e.rows.map Row.pv ++ [r.pv] = (e.rows ++ [r]).map Row.pv by rw [List.map_append]; rfl, Es.set0]
theorem w_eMore {y : PV} {rs : List Row} (hy : y = .ls (rs.map Row.pv)) (h : e.rows.length + rs.length < 20000) : Post (mExtend (rest.length + 2) y (e.st g rest)) Q ↔ Q .non (Es.st { e with rows := e.rows ++ rs } g rest) := by
  subst hy
  rw [w_mExtend (ys := rs.map Row.pv) Es.at0 rfl (by rw [List.length_map, List.length_map]; exact Nat.le_of_lt (Nat.lt_trans h (by decide))), show e.rows.map Row.pv ++ rs.map Row.pv = (e.rows ++ rs).map Row.pv by rw [List.map_append], Es.set0]
theorem w_eSetB {QU : Unit → Store → Prop} (h : e.Ok many) (hi : i < 6) : Post (oSet (.loc (rest.length + 4)) (.int (i : Int)) (.str b) (e.st g rest)) QU ↔ QU () (Es.st { e with boxes := e.boxes.set i b } g rest) := by
  rw [w_setL Es.at2 (ixOf_nat (by rw [List.length_map, h.six]; exact hi)), ← Es.set2 (e := e) (bs := e.boxes.set i b), List.map_set]
theorem Es.Ok.box (h : e.Ok many) (hb : PyData.strOk b = true) : Es.Ok many { e with boxes := e.boxes.set i b } :=
  ⟨by show (e.boxes.set i b).length = 6; rw [List.length_set]; exact h.six, fun c hc => (List.mem_or_eq_of_mem_set hc).elim (fun z => h.marks c z) (fun z => z ▸ hb), h.rows, h.free, h.most, h.mpos, h.owned, h.few, h.owners, h.houses⟩
theorem Es.Ok.more (h : e.Ok many) {rs : List Row} (hr : ∀ r ∈ rs, r.Ok (e.rows.length + rs.length + 1) many) : Es.Ok many { e with rows := e.rows ++ rs } :=
  ⟨h.six, h.marks, fun r hr' => by
    show r.Ok ((e.rows ++ rs).length + 1) many
    rw [List.length_append]
    rcases List.mem_append.mp hr' with z | z
    · exact (h.rows r z).mono (by omega)
    · exact hr r z, h.free, h.most, h.mpos, h.owned, h.few, h.owners, h.houses⟩
end
end
local macro_rules | `(tactic| sizeOf_list_dec) => `(tactic| array_mem_dec)
local macro_rules | `(tactic| sizeOf_list_dec) => `(tactic| (with_reducible refine w_ifF.mpr ?_))
local macro_rules | `(tactic| sizeOf_list_dec) => `(tactic| (with_reducible refine w_ifT.mpr ?_))
local macro_rules | `(tactic| sizeOf_list_dec) => `(tactic| (with_reducible refine w_meth1 ?_))
local macro_rules | `(tactic| sizeOf_list_dec) => `(tactic| (with_reducible refine w_eLenI.mpr ?_))
local macro_rules | `(tactic| sizeOf_list_dec) => `(tactic| (with_reducible refine w_eLenR.mpr ?_))
local macro_rules | `(tactic| sizeOf_list_dec) => `(tactic| (with_reducible refine w_eFree.mpr ?_))
local macro_rules | `(tactic| sizeOf_list_dec) => `(tactic| (with_reducible refine w_eBoxes.mpr ?_))
local macro_rules | `(tactic| sizeOf_list_dec) => `(tactic| (with_reducible refine w_eOwners.mpr ?_))
local macro_rules | `(tactic| sizeOf_list_dec) => `(tactic| (with_reducible refine w_eHouses.mpr ?_))
local macro_rules | `(tactic| sizeOf_list_dec) => `(tactic| (with_reducible refine w_eRows.mpr ?_))
section
open PySem L2
end

/-! PureM -/
/-! PureM: one simple row. -/
section
open PySem L2
theorem lc_some {env : LW.Env} {S : Store} {QA : List PV → Store → Prop} {v n : Nat} {t : XB} (hn : n ≤ 1000) (hv : v < env.length) (p : Nat → Bool)
    (ht : ∀ i, i < n → Post (t (env.set v (some (.int (i : Int)))) S) fun k S' => k = p i ∧ S' = S) (hQ : ∀ xs : List Nat, xs.Pairwise (· < ·) → (∀ i, i ∈ xs ↔ i < n ∧ p i = true) → QA (ivs xs) S) : LcP (.rng 0 n) (gNm v) t (eVar v) env S QA :=
  lc_filter hn hv p ht (hQ _ (List.Pairwise.filter _ List.pairwise_lt_range) fun i => by rw [List.mem_filter, List.mem_range])
theorem some_boxes {xs : List Nat} {p : Nat → Bool} (h : xs.Pairwise (· < ·)) (m : ∀ i, i ∈ xs ↔ i < 6 ∧ p i = true) : Boxes xs := ⟨h, fun x hx => ((m x).mp hx).1⟩
inductive SRow (goal : Nat) : Row → Prop
  | put (n : Nat) (h : n < 1000) : SRow goal (.put goal n)
  | say (b : Nat) (h : b < 6) : SRow goal (.say b)
  | move (b : Nat) (h : b < 6) : SRow goal (.move goal b)
  | add (b c : Nat) (h : b < 6) (h2 : c < 6) : SRow goal (.add goal b c)
  | take (b c : Nat) (h : b < 6) (h2 : c < 6) : SRow goal (.take goal b c)
theorem SRow.ok {goal : Nat} (hg : goal < 6) {r : Row} (h : SRow goal r) (n m : Nat) : r.Ok n m := by
  cases h with
  | put n h => exact ⟨hg, h⟩
  | say b h => exact h
  | move b h => exact ⟨hg, h⟩
  | add b c h h2 => exact ⟨hg, h, h2⟩
  | take b c h h2 => exact ⟨hg, h, h2⟩
/-- how a dict of this kind is after a step -/
def EsOut (many : Nat) (e : Es) (rest : Store) (k : Nat) (v : PV) (S : Store) : Prop := ∃ e' g', v = .non ∧ S = Es.st e' g' rest ∧ g'.Ok ∧ e'.Ok many ∧ e.Like e' ∧ e'.rows.length ≤ e.rows.length + k
theorem simple_spec (g : Hs) (rest : Store) (e : Es) (many : Nat) (hg : g.Ok) (he : e.Ok many) (hs : e.rows.length ≤ 9000) :
    Post (m_simple [.loc 1, .loc (rest.length + 3)] (e.st g rest)) (EsOut many e rest 1) := by
  have hf6 := he.free.len
  have hf0 := he.most
  unfold m_simple
  refine w_fnP rfl ?_
  ((repeat sizeOf_list_dec) <;> (try dsimp only))
  refine lc_some (n := 6) (by decide) (by show 3 < 10; decide) (fun i => decide (e.boxes[i]? = some ("good" : Str))) (fun i hi => ?_) (fun good good1 good2 => ?_)
  · obtain ⟨b, hb, hbo⟩ := he.at hi
    ((repeat sizeOf_list_dec) <;> (try dsimp only))
    refine (w_eBox hb).mpr ?_
    ((repeat sizeOf_list_dec) <;> (try dsimp only))
    refine (w_eqS hbo (by decide +kernel)).mpr ?_
    ((repeat sizeOf_list_dec) <;> (try dsimp only))
    exact ⟨by rw [hb]; simp, by trivial⟩
  ((repeat sizeOf_list_dec) <;> (try dsimp only))
  ((refine Post.mono (next_spec _ _ _ hg ?hn0 ?hn1) ?_); (case hn0 => omega); (case hn1 => omega))
  rintro _ _ ⟨r1, g1, rfl, rfl, hg1, a1, b1⟩
  obtain ⟨goal, hgoal, hat⟩ := pick_ivs a1 b1
  have hgoal6 : goal < 6 := he.free.2 _ hgoal
  refine (w_ix rfl hat).mpr ?_
  ((repeat sizeOf_list_dec) <;> (try dsimp only))
  ((refine Post.mono (next_spec _ _ _ hg1 ?hn0 ?hn1) ?_); (case hn0 => omega); (case hn1 => omega))
  rintro _ _ ⟨turn, g2, rfl, rfl, hg2, a2, b2⟩
  ((repeat ((fail_if_success (with_reducible refine w_if.mpr ?_)); sizeOf_list_dec)) <;> (try dsimp only))
  have hgood : Boxes good := some_boxes good1 good2
  have hgl := hgood.len
  refine Post.mono (Q := fun p S => p.1 = .nx ∧ ∃ r g3 x7 x8 x9, p.2 = [some (.loc 1), some (.loc (rest.length + 3)), some (.ls (ivs good)), none, some (.int goal), some (.int turn), some r.pv, x7, x8, x9] ∧ S = e.st g3 rest ∧ g3.Ok ∧ SRow goal r) ?_ ?_
  · ((repeat sizeOf_list_dec) <;> (try dsimp only))
    refine (w_eqE' (plain_ivs _ _)).mpr ?_
    ((repeat sizeOf_list_dec) <;> (try dsimp only))
    cases hne : (ivs good).isEmpty with
    | true =>
      ((repeat sizeOf_list_dec) <;> (try dsimp only))
      refine (number_spec _ _ hg2).mono ?_
      rintro _ _ ⟨n, g3, rfl, rfl, hg3, n0, n1⟩
      ((repeat sizeOf_list_dec) <;> (try dsimp only))
      exact ⟨by trivial, .put goal n.toNat, g3, _, _, _, by show _ = [_, _, _, _, _, _, some (PV.tup [_, _, _]), _, _, _]; rw [Int.toNat_of_nonneg n0]; rfl, rfl, hg3, .put _ (by omega)⟩
    | false =>
      have hg0 : 0 < good.length := by
        cases good with
        | nil => cases hne
        | cons a r => exact Nat.succ_pos _
      have pickGood : ∀ {i : Int}, 0 ≤ i → i < good.length → ∃ b : Nat, b < 6 ∧ e.boxes[b]? = some ("good" : Str) ∧ atI (ivs good) i = some (.int b) := fun h0 h1 => by
        obtain ⟨b, hb, h⟩ := pick_ivs h0 h1
        exact ⟨b, hgood.2 b hb, of_decide_eq_true ((good2 b).mp hb).2, h⟩
      ((repeat sizeOf_list_dec) <;> (try dsimp only))
      cases ht0 : (turn == 0) with
      | true =>
        ((repeat sizeOf_list_dec) <;> (try dsimp only))
        refine (number_spec _ _ hg2).mono ?_
        rintro _ _ ⟨n, g3, rfl, rfl, hg3, n0, n1⟩
        ((repeat sizeOf_list_dec) <;> (try dsimp only))
        exact ⟨by trivial, .put goal n.toNat, g3, _, _, _, by show _ = [_, _, _, _, _, _, some (PV.tup [_, _, _]), _, _, _]; rw [Int.toNat_of_nonneg n0]; rfl, rfl, hg3, .put _ (by omega)⟩
      | false =>
        ((repeat sizeOf_list_dec) <;> (try dsimp only))
        cases ht1 : (turn == 1) with
        | true =>
          ((repeat sizeOf_list_dec) <;> (try dsimp only))
          ((refine Post.mono (next_spec _ _ _ hg2 ?hn0 ?hn1) ?_); (case hn0 => omega); (case hn1 => omega))
          rintro _ _ ⟨r3, g3, rfl, rfl, hg3, a3, b3⟩
          obtain ⟨b, hb6, hbg, hb⟩ := pickGood a3 b3
          refine (w_ix rfl hb).mpr ?_
          ((repeat sizeOf_list_dec) <;> (try dsimp only))
          exact ⟨by trivial, .say b, g3, _, _, _, rfl, rfl, hg3, .say _ hb6⟩
        | false =>
          ((repeat sizeOf_list_dec) <;> (try dsimp only))
          cases ht2 : (turn == 2) with
          | true =>
            ((repeat sizeOf_list_dec) <;> (try dsimp only))
            refine lc_some (n := 6) (by decide) (by show 3 < 10; decide) (fun i => !decide (e.boxes[i]? = some ("loose" : Str))) (fun i hi => ?_) (fun sm sm1 sm2 => ?_)
            · obtain ⟨b, hb, hbo⟩ := he.at hi
              ((repeat sizeOf_list_dec) <;> (try dsimp only))
              refine (w_eBox hb).mpr ?_
              ((repeat sizeOf_list_dec) <;> (try dsimp only))
              refine (w_neS hbo (by decide +kernel)).mpr ?_
              ((repeat sizeOf_list_dec) <;> (try dsimp only))
              exact ⟨by rw [hb]; simp, by trivial⟩
            have hsb : Boxes sm := some_boxes sm1 sm2
            have hsl := hsb.len
            have hs0 : 0 < sm.length := by
              obtain ⟨b, hb6, hbg, hb⟩ := pickGood (i := 0) (by omega) (by omega)
              exact List.length_pos_of_mem ((sm2 b).mpr ⟨hb6, by rw [hbg]; decide +kernel⟩)
            ((repeat sizeOf_list_dec) <;> (try dsimp only))
            ((refine Post.mono (next_spec _ _ _ hg2 ?hn0 ?hn1) ?_); (case hn0 => omega); (case hn1 => omega))
            rintro _ _ ⟨r3, g3, rfl, rfl, hg3, a3, b3⟩
            obtain ⟨b, hb, hbat⟩ := pick_ivs a3 b3
            refine (w_ix rfl hbat).mpr ?_
            ((repeat sizeOf_list_dec) <;> (try dsimp only))
            exact ⟨by trivial, .move goal b, g3, _, _, _, rfl, rfl, hg3, .move _ (hsb.2 b hb)⟩
          | false =>
            ((repeat sizeOf_list_dec) <;> (try dsimp only))
            refine w_sPar.mpr ?_
            ((repeat sizeOf_list_dec) <;> (try dsimp only))
            ((refine Post.mono (next_spec _ _ _ hg2 ?hn0 ?hn1) ?_); (case hn0 => omega); (case hn1 => omega))
            rintro _ _ ⟨r3, g3, rfl, rfl, hg3, a3, b3⟩
            obtain ⟨b, hb6, hbg, hb⟩ := pickGood a3 b3
            refine (w_ix rfl hb).mpr ?_
            ((repeat sizeOf_list_dec) <;> (try dsimp only))
            ((refine Post.mono (next_spec _ _ _ hg3 ?hn0 ?hn1) ?_); (case hn0 => omega); (case hn1 => omega))
            rintro _ _ ⟨r4, g4, rfl, rfl, hg4, a4, b4⟩
            obtain ⟨c, hc6, hcg, hc⟩ := pickGood a4 b4
            refine (w_ix rfl hc).mpr ?_
            ((repeat sizeOf_list_dec) <;> (try dsimp only))
            refine ⟨_, _, rfl, ?_⟩
            ((repeat sizeOf_list_dec) <;> (try dsimp only))
            rcases (by omega : turn % 2 = 0 ∨ turn % 2 = 1) with hm | hm <;> rw [hm]
            · ((repeat sizeOf_list_dec) <;> (try dsimp only))
              exact ⟨by trivial, .add goal b c, g4, _, _, _, rfl, rfl, hg4, .add _ _ hb6 hc6⟩
            · ((repeat sizeOf_list_dec) <;> (try dsimp only))
              exact ⟨by trivial, .take goal b c, g4, _, _, _, rfl, rfl, hg4, .take _ _ hb6 hc6⟩
  · rintro ⟨fl, env⟩ S ⟨hfl, r, g3, x7, x8, x9, henv, rfl, hg3, hr⟩
    cases hfl
    cases henv
    have hok := hr.ok hgoal6 (e.rows.length + 1 + 1) many
    have he2 : Es.Ok many { e with rows := e.rows ++ [r] } := he.more fun r' hr' => by
      rw [List.mem_singleton.mp hr']
      exact hok
    have hlen : (e.rows ++ [r]).length = e.rows.length + 1 := by rw [List.length_append]; rfl
    have fin : ∀ e' : Es, e'.Ok many → e'.rows = e.rows ++ [r] → e'.houses = e.houses → e'.owners = e.owners → e'.free = e.free → ∀ g : Hs, g.Ok → Post (leave (e.st g3 rest).length .non (e'.st g rest)) (EsOut many e rest 1) := fun e' h1 h2 h3 h4 h5 g hg => by
      refine (leave_same (by rw [Es.len, Es.len])).mpr ?_
      exact ⟨e', g, rfl, rfl, hg, h1, ⟨h3, h4, h5, by rw [h2, hlen]; omega⟩, by rw [h2, hlen]; omega⟩
    have hlen0 : ∀ g : Hs, (e.st g rest).length = (e.st g3 rest).length := fun g => by rw [Es.len, Es.len]
    rw [hlen0]
    ((repeat sizeOf_list_dec) <;> (try dsimp only))
    refine ⟨_, _, rfl, Es.at0, ?_⟩
    ((repeat sizeOf_list_dec) <;> (try dsimp only))
    refine (w_eAdd (by omega)).mpr ?_
    cases hr with
    | say b hb =>
      ((repeat sizeOf_list_dec) <;> (try dsimp only))
      rw [if_neg (by decide +kernel)]
      ((repeat sizeOf_list_dec) <;> (try dsimp only))
      exact fin _ he2 rfl rfl rfl rfl _ hg3
    | move b hb =>
      obtain ⟨m, hm, hmo⟩ := he2.at hb
      ((repeat sizeOf_list_dec) <;> (try dsimp only))
      rw [if_pos (by decide +kernel)]
      ((repeat sizeOf_list_dec) <;> (try dsimp only))
      rw [if_pos (by decide +kernel)]
      ((repeat sizeOf_list_dec) <;> (try dsimp only))
      refine (w_eBox hm).mpr ?_
      ((repeat sizeOf_list_dec) <;> (try dsimp only))
      refine (w_eSetB he2 hgoal6).mpr ?_
      exact fin _ (he2.box hmo) rfl rfl rfl rfl _ hg3
    | put n hn =>
      ((repeat sizeOf_list_dec) <;> (try dsimp only))
      rw [if_pos (by decide +kernel)]
      ((repeat sizeOf_list_dec) <;> (try dsimp only))
      rw [if_neg (by decide +kernel)]
      ((repeat sizeOf_list_dec) <;> (try dsimp only))
      refine (w_eSetB he2 hgoal6).mpr ?_
      exact fin _ (he2.box (by decide +kernel)) rfl rfl rfl rfl _ hg3
    | add b c hb hc =>
      ((repeat sizeOf_list_dec) <;> (try dsimp only))
      rw [if_pos (by decide +kernel)]
      ((repeat sizeOf_list_dec) <;> (try dsimp only))
      rw [if_neg (by decide +kernel)]
      ((repeat sizeOf_list_dec) <;> (try dsimp only))
      refine (w_eSetB he2 hgoal6).mpr ?_
      exact fin _ (he2.box (by decide +kernel)) rfl rfl rfl rfl _ hg3
    | take b c hb hc =>
      ((repeat sizeOf_list_dec) <;> (try dsimp only))
      rw [if_pos (by decide +kernel)]
      ((repeat sizeOf_list_dec) <;> (try dsimp only))
      rw [if_neg (by decide +kernel)]
      ((repeat sizeOf_list_dec) <;> (try dsimp only))
      refine (w_eSetB he2 hgoal6).mpr ?_
      exact fin _ (he2.box (by decide +kernel)) rfl rfl rfl rfl _ hg3
end

/-! PureN -/
/-! PureN: a test of zero with rows behind it. -/
section
open PySem L2
theorem plain_strs {S : Store} {bs : List Str} (h : ∀ b ∈ bs, PyData.strOk b = true) : plain 20 (res 20 S (.ls (bs.map .str))) = true := by
  show ((bs.map PV.str).map (res 19 S)).all (plain 19) = true
  rw [List.map_map, List.all_map]
  exact List.all_eq_true.mpr fun b hb => h b hb
theorem plain_strsL {S : Store} {l : Nat} {bs : List Str} (hl : S[l]? = some (.lst (bs.map .str))) (h : ∀ b ∈ bs, PyData.strOk b = true) : plain 20 (res 20 S (.loc l)) = true := by
  have e : res 20 S (.loc l) = .ls ((bs.map PV.str).map (res 19 S)) := by
    show (match S[l]? with | some (.lst xs) => PV.ls (xs.map (res 19 S)) | _ => .loc l) = _
    rw [hl]
  rw [e]
  exact plain_strs (S := S) h
theorem w_eqAny {S : Store} {x y : PV} {Q : PV → Store → Prop} (h : plain 20 (res 20 S x) = true) (h2 : plain 20 (res 20 S y) = true) (hQ : ∀ k, Q (.bl k) S) : Post (oEq x y S) Q := by
  unfold oEq
  rw [if_pos ⟨h, h2⟩]
  exact Post.ok.mpr (hQ _)
end
section
open PySem L2
section
variable {e : Es} {g : Hs} {rest : Store} {Q : PV → Store → Prop} {i : Nat} {b : Str} {many : Nat}
theorem w_eSetR {r : Row} {QU : Unit → Store → Prop} (hi : i < e.rows.length) : Post (oSet (.loc (rest.length + 2)) (.int (i : Int)) r.pv (e.st g rest)) QU ↔ QU () (Es.st { e with rows := e.rows.set i r } g rest) := by
  rw [w_setL Es.at0 (ixOf_nat (by rw [List.length_map]; exact hi)), ← Es.set0 (e := e) (rs := e.rows.set i r), List.map_set]
theorem Es.Ok.row (h : e.Ok many) {r : Row} (hr : r.Ok (e.rows.length + 1) many) : Es.Ok many { e with rows := e.rows.set i r } :=
  ⟨h.six, h.marks, fun c hc => by
    show c.Ok ((e.rows.set i r).length + 1) many
    rw [List.length_set]
    exact (List.mem_or_eq_of_mem_set hc).elim (fun z => h.rows c z) (fun z => z ▸ hr), h.free, h.most, h.mpos, h.owned, h.few, h.owners, h.houses⟩
end
theorem zeroed_spec (g : Hs) (rest : Store) (e : Es) (many : Nat) (hg : g.Ok) (he : e.Ok many) (hs : e.rows.length ≤ 8000) :
    Post (m_zeroed [.loc 1, .loc (rest.length + 3)] (e.st g rest)) (EsOut many e rest 4) := by
  unfold m_zeroed
  refine w_fnP rfl ?_
  have fin : ∀ e' : Es, e'.Ok many → e'.houses = e.houses → e'.owners = e.owners → e'.free = e.free → e.rows.length ≤ e'.rows.length → e'.rows.length ≤ e.rows.length + 4 → ∀ g1 : Hs, g1.Ok → Post (leave (e.st g rest).length .non (e'.st g1 rest)) (EsOut many e rest 4) := fun e' h1 h3 h4 h5 h6 h7 g hg => by
    refine (leave_same (by rw [Es.len, Es.len])).mpr ?_
    exact ⟨e', g, rfl, rfl, hg, h1, ⟨h3, h4, h5, h6⟩, h7⟩
  generalize hL : (e.st g rest).length = L at fin ⊢
  ((repeat sizeOf_list_dec) <;> (try dsimp only))
  refine lc_some (n := 6) (by decide) (by show 3 < 8; decide) (fun i => decide (e.boxes[i]? = some ("good" : Str))) (fun i hi => ?_) (fun good good1 good2 => ?_)
  · obtain ⟨b, hb, hbo⟩ := he.at hi
    ((repeat sizeOf_list_dec) <;> (try dsimp only))
    refine (w_eBox hb).mpr ?_
    ((repeat sizeOf_list_dec) <;> (try dsimp only))
    refine (w_eqS hbo (by decide +kernel)).mpr ?_
    ((repeat sizeOf_list_dec) <;> (try dsimp only))
    exact ⟨by rw [hb]; simp, by trivial⟩
  have hgood : Boxes good := some_boxes good1 good2
  have hgl := hgood.len
  ((repeat sizeOf_list_dec) <;> (try dsimp only))
  refine (w_eqE' (plain_ivs _ _)).mpr ?_
  ((repeat sizeOf_list_dec) <;> (try dsimp only))
  cases hne : (ivs good).isEmpty with
  | true =>
    ((repeat sizeOf_list_dec) <;> (try dsimp only))
    exact fin e he rfl rfl rfl (Nat.le_refl _) (by omega) g hg
  | false =>
  have hg0 : 0 < good.length := by
    cases good with
    | nil => cases hne
    | cons a r => exact Nat.succ_pos _
  ((repeat sizeOf_list_dec) <;> (try dsimp only))
  ((refine Post.mono (next_spec _ _ _ hg ?hn0 ?hn1) ?_); (case hn0 => omega); (case hn1 => omega))
  rintro _ _ ⟨r1, g1, rfl, rfl, hg1, a1, b1⟩
  obtain ⟨test, htest, hat⟩ := pick_ivs a1 b1
  have ht6 : test < 6 := hgood.2 _ htest
  refine (w_ix rfl hat).mpr ?_
  ((repeat sizeOf_list_dec) <;> (try dsimp only))
  refine ⟨_, _, rfl, Es.at0, ?_⟩
  ((repeat sizeOf_list_dec) <;> (try dsimp only))
  refine (w_eAdd (r := .zero test 0) (by omega)).mpr ?_
  have he1 : Es.Ok many { e with rows := e.rows ++ [.zero test 0] } := he.more fun r' hr' => by
    rw [List.mem_singleton.mp hr']
    exact ⟨ht6, Nat.succ_pos _⟩
  have hl1 : (e.rows ++ [Row.zero test 0]).length = e.rows.length + 1 := by rw [List.length_append]; rfl
  generalize e.rows ++ [Row.zero test 0] = rs1 at he1 hl1
  ((repeat sizeOf_list_dec) <;> (try dsimp only))
  refine (w_list Es.seq2).mpr ?_
  ((repeat sizeOf_list_dec) <;> (try dsimp only))
  ((refine Post.mono (next_spec _ _ _ hg1 ?hn0 ?hn1) ?_); (case hn0 => omega); (case hn1 => omega))
  rintro _ _ ⟨r2, g2, rfl, rfl, hg2, a2, b2⟩
  obtain ⟨n2, rfl⟩ : ∃ n : Nat, r2 = n := ⟨r2.toNat, by omega⟩
  have hn2 : ((1 : Int) + (n2 : Int)).toNat = n2 + 1 := by omega
  ((repeat sizeOf_list_dec) <;> (try dsimp only))
  rw [hn2]
  refine for_go (all := upto 0 (n2 + 1)) (fun i env S => ∃ e' g' x, S = Es.st e' g' rest ∧ g'.Ok ∧ e'.Ok many ∧ e'.houses = e.houses ∧ e'.owners = e.owners ∧ e'.free = e.free ∧ e.rows.length + 1 ≤ e'.rows.length ∧ e'.rows.length ≤ e.rows.length + 1 + i ∧ env = [some (.loc 1), some (.loc (rest.length + 3)), some (.ls (ivs good)), none, some (.int test), some (.int (e.rows.length : Int)), some (.ls (e.boxes.map .str)), x]) (by rfl) ⟨_, g2, none, rfl, hg2, he1, rfl, rfl, rfl, Nat.le_of_eq hl1.symm, Nat.le_of_eq hl1, rfl⟩ ?_ ?_
  · rintro i env S x ⟨e', g', x7, rfl, hg', he', q1, q2, q3, q4, q5, rfl⟩ hx
    refine ⟨by rfl, ?_⟩
    have hi : i < n2 + 1 := by
      have := (List.getElem?_eq_some_iff.mp hx).1
      rw [upto_length] at this
      exact this
    ((repeat sizeOf_list_dec) <;> (try dsimp only))
    refine (simple_spec g' rest e' many hg' he' (by omega)).mono ?_
    rintro _ _ ⟨e2, g3, rfl, rfl, hg3, he2, ⟨s1, s2, s3, s4⟩, s5⟩
    ((repeat sizeOf_list_dec) <;> (try dsimp only))
    exact ⟨e2, g3, _, rfl, hg3, he2, s1.trans q1, s2.trans q2, s3.trans q3, by omega, by omega, rfl⟩
  · rintro env S ⟨e', g', x7, rfl, hg', he', q1, q2, q3, q4, q5, rfl⟩
    rw [upto_length] at q5
    refine ⟨by rfl, ?_⟩
    -- the row that goes back
    ((repeat ((fail_if_success (with_reducible refine w_if.mpr ?_)); sizeOf_list_dec)) <;> (try dsimp only))
    refine Post.mono (Q := fun p S => p.1 = .nx ∧ ∃ e3 g3, p.2 = [some (.loc 1), some (.loc (rest.length + 3)), some (.ls (ivs good)), none, some (.int test), some (.int (e.rows.length : Int)), some (.ls (e.boxes.map .str)), x7] ∧ S = Es.st e3 g3 rest ∧ g3.Ok ∧ e3.Ok many ∧ e3.houses = e.houses ∧ e3.owners = e.owners ∧ e3.free = e.free ∧ e.rows.length + 1 ≤ e3.rows.length ∧ e3.rows.length ≤ e'.rows.length + 1) ?_ ?_
    · ((repeat sizeOf_list_dec) <;> (try dsimp only))
      ((refine Post.mono (next_spec _ _ _ hg' ?hn0 ?hn1) ?_); (case hn0 => omega); (case hn1 => omega))
      rintro _ _ ⟨r3, g3, rfl, rfl, hg3, a3, b3⟩
      ((repeat sizeOf_list_dec) <;> (try dsimp only))
      cases hz : (r3 == 0) with
      | false =>
        ((repeat sizeOf_list_dec) <;> (try dsimp only))
        exact ⟨by trivial, e', g3, by trivial, rfl, hg3, he', q1, q2, q3, q4, by omega⟩
      | true =>
        ((repeat sizeOf_list_dec) <;> (try dsimp only))
        obtain ⟨b, hb, hbo⟩ := he'.at ht6
        refine (w_eBox hb).mpr ?_
        ((repeat sizeOf_list_dec) <;> (try dsimp only))
        refine (w_eqS hbo (by decide +kernel)).mpr ?_
        ((repeat sizeOf_list_dec) <;> (try dsimp only))
        cases hbg : decide (b = "good") with
        | false =>
          ((repeat sizeOf_list_dec) <;> (try dsimp only))
          exact ⟨by trivial, e', g3, by trivial, rfl, hg3, he', q1, q2, q3, q4, by omega⟩
        | true =>
          ((repeat sizeOf_list_dec) <;> (try dsimp only))
          refine w_eqAny (plain_strs he.marks) (plain_strsL Es.at2 he'.marks) fun k => ?_
          ((repeat sizeOf_list_dec) <;> (try dsimp only))
          cases k with
          | false =>
            ((repeat sizeOf_list_dec) <;> (try dsimp only))
            exact ⟨by trivial, e', g3, by trivial, rfl, hg3, he', q1, q2, q3, q4, by omega⟩
          | true =>
            ((repeat sizeOf_list_dec) <;> (try dsimp only))
            refine ⟨_, _, rfl, Es.at0, ?_⟩
            ((repeat sizeOf_list_dec) <;> (try dsimp only))
            refine (w_eAdd (r := .go e.rows.length) (by omega)).mpr ?_
            have hl3 : (e'.rows ++ [Row.go e.rows.length]).length = e'.rows.length + 1 := by rw [List.length_append]; rfl
            exact ⟨by trivial, _, g3, by trivial, rfl, hg3, he'.more fun r' hr' => by rw [List.mem_singleton.mp hr']; exact (show e.rows.length < _ by have : [Row.go e.rows.length].length = 1 := rfl; omega), q1, q2, q3, by rw [hl3]; omega, by rw [hl3]; omega⟩
    · rintro ⟨fl, env⟩ S ⟨hfl, e3, g3, henv, rfl, hg3, he3, p1, p2, p3, p4, p5⟩
      cases hfl
      cases henv
      ((repeat sizeOf_list_dec) <;> (try dsimp only))
      refine (w_eSetR (r := .zero test e3.rows.length) (i := e.rows.length) (by omega)).mpr ?_
      have he4 : Es.Ok many { e3 with rows := e3.rows.set e.rows.length (.zero test e3.rows.length) } := he3.row ⟨ht6, Nat.lt_succ_self _⟩
      have hl4 : (e3.rows.set e.rows.length (.zero test e3.rows.length)).length = e3.rows.length := List.length_set ..
      generalize e3.rows.set e.rows.length (.zero test e3.rows.length) = rs4 at he4 hl4
      ((repeat sizeOf_list_dec) <;> (try dsimp only))
      refine for_go (all := upto 0 6) (fun i env S => ∃ bs x, S = Es.st { e3 with rows := rs4, boxes := bs } g3 rest ∧ Es.Ok many { e3 with rows := rs4, boxes := bs } ∧ env = [some (.loc 1), some (.loc (rest.length + 3)), some (.ls (ivs good)), x, some (.int test), some (.int (e.rows.length : Int)), some (.ls (e.boxes.map .str)), x7]) (by rfl) ⟨_, none, rfl, he4, rfl⟩ ?_ ?_
      · rintro i env S x ⟨bs, x3, rfl, hok, rfl⟩ hx
        refine ⟨by rfl, ?_⟩
        have hi : i < 6 := by
          have := (List.getElem?_eq_some_iff.mp hx).1
          rw [upto_length] at this
          exact this
        rw [upto_get hi, Int.zero_add] at hx
        cases hx
        obtain ⟨b, hb, hbo⟩ := hok.at hi
        obtain ⟨b2, hb2, hbo2⟩ := he.at hi
        ((repeat sizeOf_list_dec) <;> (try dsimp only))
        refine (w_eBox hb).mpr ?_
        ((repeat sizeOf_list_dec) <;> (try dsimp only))
        refine (w_ix rfl (atI_map hb2)).mpr ?_
        refine (w_neS hbo hbo2).mpr ?_
        ((repeat sizeOf_list_dec) <;> (try dsimp only))
        cases hd : (!decide (b = b2)) with
        | false =>
          ((repeat sizeOf_list_dec) <;> (try dsimp only))
          exact ⟨bs, _, rfl, hok, rfl⟩
        | true =>
          ((repeat sizeOf_list_dec) <;> (try dsimp only))
          refine (w_eSetB hok hi).mpr ?_
          ((repeat sizeOf_list_dec) <;> (try dsimp only))
          exact ⟨_, _, rfl, hok.box (by decide +kernel), rfl⟩
      · rintro env S ⟨bs, x3, rfl, hok, rfl⟩
        refine ⟨by rfl, ?_⟩
        ((repeat sizeOf_list_dec) <;> (try dsimp only))
        exact fin _ hok p1 p2 p3 (by show e.rows.length ≤ rs4.length; omega) (by show rs4.length ≤ _; omega) g3 hg3
end

/-! PureO -/
/-! PureO: a call with what is laid in and saved about it. -/
section
open PySem L2
/-- [x for x in xs if p(x)] over boxes -/
theorem lc_keep {it : LW.It} {zs : List Nat} {env : LW.Env} {S : Store} {QA : List PV → Store → Prop} {v : Nat} {t : XB} (ha : it.items S = some (ivs zs)) (hn : zs.length ≤ 1000) (hv : v < env.length) (p : Nat → Bool)
    (ht : ∀ i, i ∈ zs → Post (t (env.set v (some (.int (i : Int)))) S) fun k S' => k = p i ∧ S' = S) (hQ : QA (ivs (zs.filter p)) S) : LcP it (gNm v) t (eVar v) env S QA := by
  refine ⟨ivs zs, ha, lc_inv (fun i acc S' => i ≤ zs.length ∧ acc = ivs ((zs.take i).filter p) ∧ S' = S) ?_ ?_ _ 0 rfl (Nat.zero_le _) _ _ ⟨Nat.zero_le _, rfl, rfl⟩⟩
  · rintro i acc S' x ⟨hi, rfl, rfl⟩ hx
    refine ⟨ha, ?_⟩
    obtain ⟨b, hb, rfl⟩ : ∃ b : Nat, zs[i]? = some b ∧ x = .int b := by
      unfold ivs at hx
      rw [List.getElem?_map] at hx
      cases e : zs[i]? with
      | none => rw [e] at hx; cases hx
      | some b => rw [e] at hx; exact ⟨b, rfl, (Option.some.inj hx).symm⟩
    have hlt := (List.getElem?_eq_some_iff.mp hb).1
    refine w_gNm.mpr ?_
    refine (ht b (List.mem_of_getElem? hb)).mono ?_
    rintro k S2 ⟨rfl, rfl⟩
    have hr : (zs.take (i + 1)).filter p = (zs.take i).filter p ++ (if p b = true then [b] else []) := by
      rw [List.take_add_one, hb, List.filter_append]
      by_cases hp : p b = true <;> simp [hp]
    by_cases hp : p b = true
    · rw [if_pos hp]
      refine (w_var (x := .int (b : Int)) ?_).mpr ⟨?_, hlt, ?_, rfl⟩
      · rw [List.getElem?_set_self hv]
      · rw [ivs_length]
        refine Nat.lt_of_le_of_lt (Nat.le_trans (List.length_filter_le _ _) ?_) (by decide : 1000 < lim)
        rw [List.length_take]
        omega
      · rw [hr, if_pos hp]
        unfold ivs
        rw [List.map_append]
        rfl
    · rw [if_neg hp]
      refine ⟨hlt, ?_, rfl⟩
      rw [hr, if_neg hp, List.append_nil]
  · rintro acc S' ⟨_, rfl, rfl⟩
    rw [ivs_length, List.take_length]
    exact ⟨ha, hQ⟩
/-- .. where the test draws -/
theorem lc_sub {it : LW.It} {zs : List Nat} {env : LW.Env} {g : Hs} {rest : Store} {QA : List PV → Store → Prop} {v : Nat} {t : XB} (ha : ∀ S, it.items S = some (ivs zs)) (hg : g.Ok) (hn : zs.length ≤ 1000) (hv : v < env.length)
    (ht : ∀ i g, i ∈ zs → Hs.Ok g → Post (t (env.set v (some (.int (i : Int)))) (g.st rest)) fun k S' => ∃ g', S' = Hs.st g' rest ∧ g'.Ok) (hQ : ∀ ys g', Hs.Ok g' → ys.Sublist zs → QA (ivs ys) (g'.st rest)) : LcP it (gNm v) t (eVar v) env (g.st rest) QA := by
  refine ⟨ivs zs, ha _, lc_inv (fun i acc S' => i ≤ zs.length ∧ ∃ ys g', acc = ivs ys ∧ ys.Sublist (zs.take i) ∧ Hs.Ok g' ∧ S' = g'.st rest) ?_ ?_ _ 0 rfl (Nat.zero_le _) _ _ ⟨Nat.zero_le _, [], g, rfl, List.nil_sublist _, hg, rfl⟩⟩
  · rintro i acc S' x ⟨hi, ys, g', rfl, hs, hg', rfl⟩ hx
    refine ⟨ha _, ?_⟩
    obtain ⟨b, hb, rfl⟩ : ∃ b : Nat, zs[i]? = some b ∧ x = .int b := by
      unfold ivs at hx
      rw [List.getElem?_map] at hx
      cases e : zs[i]? with
      | none => rw [e] at hx; cases hx
      | some b => rw [e] at hx; exact ⟨b, rfl, (Option.some.inj hx).symm⟩
    have hlt := (List.getElem?_eq_some_iff.mp hb).1
    refine w_gNm.mpr ?_
    refine (ht b g' (List.mem_of_getElem? hb) hg').mono ?_
    rintro k S2 ⟨g2, rfl, hg2⟩
    have hr : zs.take (i + 1) = zs.take i ++ [b] := by rw [List.take_add_one, hb]; rfl
    cases k with
    | true =>
      rw [if_pos rfl]
      refine (w_var (x := .int (b : Int)) ?_).mpr ⟨?_, hlt, ys ++ [b], g2, ?_, ?_, hg2, rfl⟩
      · rw [List.getElem?_set_self hv]
      · rw [ivs_length]
        refine Nat.lt_of_le_of_lt (Nat.le_trans hs.length_le ?_) (by decide : 1000 < lim)
        rw [List.length_take]
        omega
      · unfold ivs
        rw [List.map_append]
        rfl
      · rw [hr]
        exact hs.append (List.Sublist.refl _)
    | false =>
      rw [if_neg (by decide)]
      refine ⟨hlt, ys, g2, rfl, ?_, hg2, rfl⟩
      rw [hr]
      exact hs.trans (List.sublist_append_left _ _)
  · rintro acc S' ⟨_, ys, g', rfl, hs, hg', rfl⟩
    rw [ivs_length, List.take_length] at hs
    exact ⟨ha _, hQ ys g' hg' hs⟩
/-- [f(x) for x in xs] over boxes -/
theorem lc_each {it : LW.It} {zs : List Nat} {env : LW.Env} {S : Store} {QA : List PV → Store → Prop} {v : Nat} {e : XE} (f : Nat → PV) (ha : it.items S = some (ivs zs)) (hn : zs.length ≤ 1000)
    (he : ∀ i, i ∈ zs → Post (e (env.set v (some (.int (i : Int)))) S) fun y S' => y = f i ∧ S' = S) (hQ : QA (zs.map f) S) : LcP it (gNm v) bYes e env S QA := by
  refine ⟨ivs zs, ha, lc_inv (fun i acc S' => i ≤ zs.length ∧ acc = (zs.take i).map f ∧ S' = S) ?_ ?_ _ 0 rfl (Nat.zero_le _) _ _ ⟨Nat.zero_le _, rfl, rfl⟩⟩
  · rintro i acc S' x ⟨hi, rfl, rfl⟩ hx
    refine ⟨ha, ?_⟩
    obtain ⟨b, hb, rfl⟩ : ∃ b : Nat, zs[i]? = some b ∧ x = .int b := by
      unfold ivs at hx
      rw [List.getElem?_map] at hx
      cases e : zs[i]? with
      | none => rw [e] at hx; cases hx
      | some b => rw [e] at hx; exact ⟨b, rfl, (Option.some.inj hx).symm⟩
    have hlt := (List.getElem?_eq_some_iff.mp hb).1
    refine w_gNm.mpr (w_yes.mpr ?_)
    rw [if_pos rfl]
    refine (he b (List.mem_of_getElem? hb)).mono ?_
    rintro y S2 ⟨rfl, rfl⟩
    refine ⟨?_, hlt, ?_, rfl⟩
    · rw [List.length_map, List.length_take]
      exact Nat.lt_of_le_of_lt (by omega) (by decide : 1000 < lim)
    · rw [List.take_add_one, hb, List.map_append]
      rfl
  · rintro acc S' ⟨_, rfl, rfl⟩
    rw [ivs_length, List.take_length]
    exact ⟨ha, hQ⟩
theorem rev_items {zs : List Nat} {S : Store} : (LW.It.rev (.ls (ivs zs))).items S = some (ivs zs.reverse) := by
  show some (ivs zs).reverse = _
  unfold ivs
  rw [List.map_reverse]
theorem ivs_app (xs : List Nat) (b : Nat) : ivs xs ++ [.int b] = ivs (xs ++ [b]) := by
  unfold ivs
  rw [List.map_append]
  rfl
theorem ivs_at {zs : List Nat} {i : Nat} {x : PV} (hx : (ivs zs)[i]? = some x) : ∃ b : Nat, b ∈ zs ∧ x = .int b := by
  unfold ivs at hx
  rw [List.getElem?_map] at hx
  cases e : zs[i]? with
  | none => rw [e] at hx; cases hx
  | some b => rw [e] at hx; exact ⟨b, List.mem_of_getElem? e, (Option.some.inj hx).symm⟩
theorem calling_spec (g : Hs) (rest : Store) (e : Es) (many : Nat) (hg : g.Ok) (he : e.Ok many) (hs : e.rows.length ≤ 8000) :
    Post (m_calling [.loc 1, .loc (rest.length + 3)] (e.st g rest)) (EsOut many e rest 19) := by
  unfold m_calling
  refine w_fnP rfl ?_
  have fin : ∀ e' : Es, e'.Ok many → e'.houses = e.houses → e'.owners = e.owners → e'.free = e.free → e.rows.length ≤ e'.rows.length → e'.rows.length ≤ e.rows.length + 19 → ∀ g1 : Hs, g1.Ok → Post (leave (e.st g rest).length .non (e'.st g1 rest)) (EsOut many e rest 19) := fun e' h1 h3 h4 h5 h6 h7 g hg => by
    refine (leave_same (by rw [Es.len, Es.len])).mpr ?_
    exact ⟨e', g, rfl, rfl, hg, h1, ⟨h3, h4, h5, h6⟩, h7⟩
  generalize hL : (e.st g rest).length = L at fin ⊢
  have how := he.owned
  have hfew := he.few
  have hmp := he.mpos
  ((repeat sizeOf_list_dec) <;> (try dsimp only))
  rw [how]
  ((refine Post.mono (next_spec _ _ _ hg ?hn0 ?hn1) ?_); (case hn0 => omega); (case hn1 => omega))
  rintro _ _ ⟨r1, g1, rfl, rfl, hg1, a1, b1⟩
  obtain ⟨called, rfl⟩ : ∃ n : Nat, r1 = n := ⟨r1.toNat, by omega⟩
  have hcm : called < many := by omega
  ((repeat sizeOf_list_dec) <;> (try dsimp only))
  have hco : called < e.owners.length := by omega
  refine (w_ix rfl (atI_map (List.getElem?_eq_getElem hco))).mpr ?_
  have hoh : e.owners[called] < e.houses.length := he.owners _ (List.getElem_mem hco)
  refine (w_ix rfl (atI_map (List.getElem?_eq_getElem hoh))).mpr ?_
  have hk := he.houses _ (List.getElem_mem hoh)
  generalize e.houses[e.owners[called]] = k at hk ⊢
  have hil := hk.ins.len
  ((repeat sizeOf_list_dec) <;> (try dsimp only))
  refine lc_some (n := 6) (by decide) (by show 7 < 10; decide) (fun i => !e.free.contains i) (fun i hi => ?_) (fun fixed fixed1 fixed2 => ?_)
  · ((repeat sizeOf_list_dec) <;> (try dsimp only))
    refine (w_notIn rfl rfl (flat_ivs _)).mpr ?_
    rw [inSeq_ivs]
    ((repeat sizeOf_list_dec) <;> (try dsimp only))
    exact ⟨by trivial, by trivial⟩
  ((repeat sizeOf_list_dec) <;> (try dsimp only))
  refine (w_addT (by rw [ivs_length]; exact Nat.le_trans (Nat.add_le_add_right hil _) (Nat.le_of_ble_eq_true rfl))).mpr ?_
  rw [ivs_app]
  ((repeat sizeOf_list_dec) <;> (try dsimp only))
  refine lc_keep (zs := k.ins ++ [k.out]) rfl (by rw [List.length_append]; exact Nat.le_trans (Nat.add_le_add_right hil _) (Nat.le_of_ble_eq_true rfl)) (by show 7 < 10; decide) (fun i => fixed.contains i) (fun i hi => ?_) ?_
  · ((repeat sizeOf_list_dec) <;> (try dsimp only))
    refine (w_in rfl rfl (flat_ivs _)).mpr ?_
    rw [inSeq_ivs]
    ((repeat sizeOf_list_dec) <;> (try dsimp only))
    exact ⟨by trivial, by trivial⟩
  ((repeat sizeOf_list_dec) <;> (try dsimp only))
  refine (w_neE' (plain_ivs _ _)).mpr ?_
  cases hz : (!(ivs ((k.ins ++ [k.out]).filter fun i => fixed.contains i)).isEmpty) with
  | true =>
    ((repeat sizeOf_list_dec) <;> (try dsimp only))
    exact fin e he rfl rfl rfl (Nat.le_refl _) (by omega) g1 hg1
  | false =>
  ((repeat sizeOf_list_dec) <;> (try dsimp only))
  refine for_go (all := ivs k.ins) (fun i env S => ∃ e' g' x, S = Es.st e' g' rest ∧ g'.Ok ∧ e'.Ok many ∧ e'.houses = e.houses ∧ e'.owners = e.owners ∧ e'.free = e.free ∧ e.rows.length ≤ e'.rows.length ∧ e'.rows.length ≤ e.rows.length + i ∧ env = [some (.loc 1), some (.loc (rest.length + 3)), some (.int called), some (.tup (ivs k.ins)), some (.int k.out), some (.tup (ivs k.kept)), some (.ls (ivs fixed)), x, none, none]) (by rfl) ⟨e, g1, none, rfl, hg1, he, rfl, rfl, rfl, Nat.le_refl _, Nat.le_refl _, rfl⟩ ?_ ?_
  · rintro i env S x ⟨e', g', x7, rfl, hg', he', q1, q2, q3, q4, q5, rfl⟩ hx
    refine ⟨by rfl, ?_⟩
    have hi := (List.getElem?_eq_some_iff.mp hx).1
    rw [ivs_length] at hi
    obtain ⟨b, hb, rfl⟩ := ivs_at hx
    have hb6 := hk.ins.2 b hb
    obtain ⟨m, hm, hmo⟩ := he'.at hb6
    ((repeat sizeOf_list_dec) <;> (try dsimp only))
    refine (w_eBox hm).mpr ?_
    ((repeat sizeOf_list_dec) <;> (try dsimp only))
    refine (w_neS hmo (by decide +kernel)).mpr ?_
    ((repeat sizeOf_list_dec) <;> (try dsimp only))
    cases hmg : (!decide (m = "good")) with
    | false =>
      ((repeat sizeOf_list_dec) <;> (try dsimp only))
      exact ⟨e', g', _, rfl, hg', he', q1, q2, q3, q4, by omega, rfl⟩
    | true =>
      ((repeat sizeOf_list_dec) <;> (try dsimp only))
      refine ⟨_, _, rfl, Es.at0, ?_⟩
      ((repeat sizeOf_list_dec) <;> (try dsimp only))
      refine (number_spec _ _ hg').mono ?_
      rintro _ _ ⟨n, g3, rfl, rfl, hg3, n0, n1⟩
      obtain ⟨n, rfl⟩ : ∃ n' : Nat, n = n' := ⟨n.toNat, by omega⟩
      ((repeat sizeOf_list_dec) <;> (try dsimp only))
      refine (w_eAdd (r := .put b n) (by omega)).mpr ?_
      have he2 : Es.Ok many { e' with rows := e'.rows ++ [.put b n] } := he'.more fun r' hr' => by
        rw [List.mem_singleton.mp hr']
        exact ⟨hb6, by omega⟩
      have hl2 : (e'.rows ++ [Row.put b n]).length = e'.rows.length + 1 := by rw [List.length_append]; rfl
      ((repeat sizeOf_list_dec) <;> (try dsimp only))
      refine (w_eSetB he2 hb6).mpr ?_
      ((repeat sizeOf_list_dec) <;> (try dsimp only))
      exact ⟨_, g3, _, rfl, hg3, he2.box (by decide +kernel), q1, q2, q3, by show _ ≤ (e'.rows ++ [Row.put b n]).length; omega, by show (e'.rows ++ [Row.put b n]).length ≤ _; omega, rfl⟩
  · rintro env S ⟨e1, g2, x7, rfl, hg2, he1, q1, q2, q3, q4, q5, rfl⟩
    rw [ivs_length] at q5
    refine ⟨by rfl, ?_⟩
    ((repeat sizeOf_list_dec) <;> (try dsimp only))
    refine lc_some (n := 6) (by decide) (by show 7 < 10; decide) (fun i => !k.kept.contains i && (!decide (e1.boxes[i]? = some ("loose" : Str)) && !((i : Int) == k.out))) (fun i hi => ?_) (fun sm sm1 sm2 => ?_)
    · obtain ⟨m, hm, hmo⟩ := he1.at hi
      ((repeat sizeOf_list_dec) <;> (try dsimp only))
      refine (w_notIn rfl rfl (flat_ivs _)).mpr ?_
      rw [inSeq_ivs]
      ((repeat sizeOf_list_dec) <;> (try dsimp only))
      cases hc1 : k.kept.contains i with
      | true =>
        ((repeat sizeOf_list_dec) <;> (try dsimp only))
        exact ⟨by trivial, by trivial⟩
      | false =>
        ((repeat sizeOf_list_dec) <;> (try dsimp only))
        refine (w_eBox hm).mpr ?_
        ((repeat sizeOf_list_dec) <;> (try dsimp only))
        refine (w_neS hmo (by decide +kernel)).mpr ?_
        ((repeat sizeOf_list_dec) <;> (try dsimp only))
        rw [hm]
        cases hc2 : decide (m = "loose") with
        | true =>
          ((repeat sizeOf_list_dec) <;> (try dsimp only))
          exact ⟨by have : m = "loose" := of_decide_eq_true hc2; rw [this]; simp, by trivial⟩
        | false =>
          ((repeat sizeOf_list_dec) <;> (try dsimp only))
          exact ⟨by have : ¬ m = "loose" := of_decide_eq_false hc2; simp [this], by trivial⟩
    have hsb : Boxes sm := some_boxes sm1 sm2
    have hsl := hsb.len
    ((repeat sizeOf_list_dec) <;> (try dsimp only))
    refine lc_sub (zs := sm) (fun _ => rfl) hg2 (by omega) (by show 7 < 10; decide) (fun i g' hi hg' => ?_) (fun saved g3 hg3 hsub => ?_)
    · ((repeat sizeOf_list_dec) <;> (try dsimp only))
      refine (w_in rfl rfl (flat_ivs _)).mpr ?_
      rw [inSeq_ivs]
      ((repeat sizeOf_list_dec) <;> (try dsimp only))
      cases hf : fixed.contains i with
      | true =>
        ((repeat sizeOf_list_dec) <;> (try dsimp only))
        exact ⟨g', rfl, hg'⟩
      | false =>
        ((repeat sizeOf_list_dec) <;> (try dsimp only))
        ((refine Post.mono (next_spec _ _ _ hg' ?hn0 ?hn1) ?_); (case hn0 => omega); (case hn1 => omega))
        rintro _ _ ⟨r2, g3, rfl, rfl, hg3, a2, b2⟩
        ((repeat sizeOf_list_dec) <;> (try dsimp only))
        exact ⟨g3, rfl, hg3⟩
    have hsv : Boxes saved := hsb.sub hsub
    have hvl := hsv.len
    ((repeat sizeOf_list_dec) <;> (try dsimp only))
    refine ⟨_, _, rfl, Es.at0, ?_⟩
    ((repeat sizeOf_list_dec) <;> (try dsimp only))
    refine lc_each (zs := saved) (fun i => (Row.push i).pv) rfl (by omega) (fun i hi => ?_) ?_
    · ((repeat sizeOf_list_dec) <;> (try dsimp only))
      exact ⟨by trivial, by trivial⟩
    ((repeat sizeOf_list_dec) <;> (try dsimp only))
    refine (w_eMore (rs := saved.map Row.push) (by rw [List.map_map]; rfl) (by rw [List.length_map]; omega)).mpr ?_
    have he2 : Es.Ok many { e1 with rows := e1.rows ++ saved.map Row.push } := he1.more fun r' hr' => by
      obtain ⟨b, hb, rfl⟩ := List.mem_map.mp hr'
      exact hsv.2 b hb
    have hl2 : (e1.rows ++ saved.map Row.push).length = e1.rows.length + saved.length := by rw [List.length_append, List.length_map]
    generalize e1.rows ++ saved.map Row.push = rs2 at he2 hl2 ⊢
    ((repeat sizeOf_list_dec) <;> (try dsimp only))
    refine ⟨_, _, rfl, Es.at0, ?_⟩
    ((repeat sizeOf_list_dec) <;> (try dsimp only))
    refine (w_eAdd (r := .call called) (by show rs2.length < _; omega)).mpr ?_
    have he3 : Es.Ok many { e1 with rows := rs2 ++ [.call called] } := he2.more fun r' hr' => by
      rw [List.mem_singleton.mp hr']
      exact hcm
    have hl3 : (rs2 ++ [Row.call called]).length = rs2.length + 1 := by rw [List.length_append]; rfl
    dsimp only
    generalize rs2 ++ [Row.call called] = rs3 at he3 hl3 ⊢
    ((repeat sizeOf_list_dec) <;> (try dsimp only))
    refine ⟨_, _, rfl, Es.at0, ?_⟩
    ((repeat sizeOf_list_dec) <;> (try dsimp only))
    refine lc_each (zs := saved.reverse) (fun i => (Row.pop i).pv) rev_items (by rw [List.length_reverse]; omega) (fun i hi => ?_) ?_
    · ((repeat sizeOf_list_dec) <;> (try dsimp only))
      exact ⟨by trivial, by trivial⟩
    ((repeat sizeOf_list_dec) <;> (try dsimp only))
    refine (w_eMore (rs := saved.reverse.map Row.pop) (by rw [List.map_map]; rfl) (by rw [List.length_map, List.length_reverse]; show rs3.length + _ < _; omega)).mpr ?_
    have he4 : Es.Ok many { e1 with rows := rs3 ++ saved.reverse.map Row.pop } := he3.more fun r' hr' => by
      obtain ⟨b, hb, rfl⟩ := List.mem_map.mp hr'
      exact hsv.2 b (List.mem_reverse.mp hb)
    have hl4 : (rs3 ++ saved.reverse.map Row.pop).length = rs3.length + saved.length := by rw [List.length_append, List.length_map, List.length_reverse]
    dsimp only
    generalize rs3 ++ saved.reverse.map Row.pop = rs4 at he4 hl4 ⊢
    ((repeat sizeOf_list_dec) <;> (try dsimp only))
    refine for_go (all := ivs sm) (fun i env S => ∃ bs x, S = Es.st { e1 with rows := rs4, boxes := bs } g3 rest ∧ Es.Ok many { e1 with rows := rs4, boxes := bs } ∧ env = [some (.loc 1), some (.loc (rest.length + 3)), some (.int called), some (.tup (ivs k.ins)), some (.int k.out), some (.tup (ivs k.kept)), some (.ls (ivs fixed)), x, some (.ls (ivs sm)), some (.ls (ivs saved))]) (by rfl) ⟨_, _, rfl, he4, rfl⟩ ?_ ?_
    · rintro i env S x ⟨bs, x8, rfl, hok, rfl⟩ hx
      refine ⟨by rfl, ?_⟩
      obtain ⟨b, hb, rfl⟩ := ivs_at hx
      have hb6 := hsb.2 b hb
      obtain ⟨m, hm, hmo⟩ := hok.at hb6
      ((repeat sizeOf_list_dec) <;> (try dsimp only))
      refine (w_in rfl rfl (flat_ivs _)).mpr ?_
      rw [inSeq_ivs]
      ((repeat sizeOf_list_dec) <;> (try dsimp only))
      cases hc : saved.contains b with
      | true =>
        ((repeat sizeOf_list_dec) <;> (try dsimp only))
        refine (w_eBox hm).mpr ?_
        ((repeat sizeOf_list_dec) <;> (try dsimp only))
        refine (w_eSetB hok hb6).mpr ?_
        ((repeat sizeOf_list_dec) <;> (try dsimp only))
        exact ⟨_, _, rfl, hok.box hmo, rfl⟩
      | false =>
        ((repeat sizeOf_list_dec) <;> (try dsimp only))
        refine (w_eSetB hok hb6).mpr ?_
        ((repeat sizeOf_list_dec) <;> (try dsimp only))
        exact ⟨_, _, rfl, hok.box (by decide +kernel), rfl⟩
    · rintro env S ⟨bs, x8, rfl, hok, rfl⟩
      refine ⟨by rfl, ?_⟩
      ((repeat sizeOf_list_dec) <;> (try dsimp only))
      refine (w_eSetB hok hk.out).mpr ?_
      ((repeat sizeOf_list_dec) <;> (try dsimp only))
      exact fin _ (hok.box (by decide +kernel)) q1 q2 q3 (by show _ ≤ rs4.length; omega) (by show rs4.length ≤ _; omega) g3 hg3
end

/-! PureP -/
/-! PureP: a routine, drawn row by row. -/
section
open PySem L2
theorem w_str {i : Int} {S : Store} {Q : PV → Store → Prop} (h : i.natAbs.log2 < 1920) : Post (bStr [.int i] S) Q ↔ Q (.str (toString i : String)) S := by
  unfold bStr
  simp only []
  rw [if_pos h]
  exact Post.ok
theorem w_addLoc {l : Nat} {xs ys : List PV} {S : Store} {Q : PV → Store → Prop} (h : S[l]? = some (.lst xs)) (h2 : xs.length + ys.length ≤ lim) : Post (oAdd (.loc l) (.ls ys) S) Q ↔ Q (.ls (xs ++ ys)) S := by
  unfold oAdd
  simp only [lstOf, h]
  rw [if_pos h2]
  exact Post.ok
theorem w_addLL {xs ys : List PV} {S : Store} {Q : PV → Store → Prop} (h2 : xs.length + ys.length ≤ lim) : Post (oAdd (.ls xs) (.ls ys) S) Q ↔ Q (.ls (xs ++ ys)) S := by
  unfold oAdd
  simp only [lstOf]
  rw [if_pos h2]
  exact Post.ok
theorem lows_all (n : Nat) : ∀ xs : List PV, (∀ x ∈ xs, low n x = true) → lows n xs = true
  | [], _ => by unfold lows; rfl
  | x :: r, h => by
    unfold lows
    rw [h x (by simp), lows_all n r fun y hy => h y (by simp [hy])]
    rfl
theorem low_tup {n : Nat} {xs : List PV} (h : ∀ x ∈ xs, low n x = true) : low n (.tup xs) = true := by
  unfold low
  exact lows_all n xs h
theorem low_int {n : Nat} {i : Int} : low n (.int i) = true := by unfold low; rfl
theorem low_str {n : Nat} {i : Str} : low n (.str i) = true := by unfold low; rfl
end
section
open PySem L2
theorem low_ivs {n : Nat} (xs : List Nat) : ∀ x ∈ ivs xs, low n x = true := fun x hx => by
  obtain ⟨i, _, rfl⟩ := ivs_mem hx
  exact low_int
theorem Row.low (n : Nat) (r : Row) : LW.low n r.pv = true := by
  cases r <;> (unfold Row.pv; exact low_tup (by intro x hx; simp only [List.mem_cons, List.not_mem_nil, or_false] at hx; rcases hx with rfl | rfl | rfl | rfl <;> first | exact low_str | exact low_int))
theorem Rows.low (n : Nat) (rs : List Row) : LW.low n (.tup (rs.map Row.pv)) = true := low_tup fun x hx => by
  obtain ⟨r, _, rfl⟩ := List.mem_map.mp hx
  exact r.low n
theorem Routine.low (n : Nat) (r : Routine) : LW.low n r.pv = true := by
  unfold Routine.pv
  exact low_tup (by intro x hx; simp only [List.mem_cons, List.not_mem_nil, or_false] at hx; rcases hx with rfl | rfl; exact low_int; exact Rows.low n _)
def LowR (rest : Store) : Prop := rest.all (Cell.low (rest.length + 2)) = true
theorem LowR.st {rest : Store} (h : LowR rest) (g : Hs) : LowS (g.st rest) := by
  have h : rest.all (Cell.low (rest.length + 2)) = true := h
  show (Cell.low (rest.length + 1 + 1) (.lst (g.l.map .int)) && (Cell.low (rest.length + 1 + 1) (.lst [.int g.a, .loc 0, .int g.c]) && rest.all (Cell.low (rest.length + 1 + 1)))) = true
  rw [h]
  have h1 : Cell.low (rest.length + 1 + 1) (.lst (g.l.map .int)) = true := lows_all _ _ fun x hx => by
    obtain ⟨i, _, rfl⟩ := List.mem_map.mp hx
    exact low_int
  have h2 : Cell.low (rest.length + 1 + 1) (.lst [.int g.a, .loc 0, .int g.c]) = true := lows_all _ _ fun x hx => by
    simp only [List.mem_cons, List.not_mem_nil, or_false] at hx
    rcases hx with rfl | rfl | rfl
    · exact low_int
    · unfold LW.low
      exact decide_eq_true (Nat.succ_pos _)
    · exact low_int
  rw [h1, h2]
  rfl
def House.mark (k : House) (i : Nat) : Str := if k.ins.contains i = true then "good" else if k.kept.contains i = true then (toString (i : Int) : String) else "loose"
theorem House.mark_ok (k : House) {i : Nat} (hi : i < 6) : PyData.strOk (k.mark i) = true := by
  unfold House.mark
  split
  · decide +kernel
  · split
    · rcases (by omega : i = 0 ∨ i = 1 ∨ i = 2 ∨ i = 3 ∨ i = 4 ∨ i = 5) with rfl | rfl | rfl | rfl | rfl | rfl <;> decide +kernel
    · decide +kernel
theorem Hs.app {g : Hs} {A B : Store} : g.st A ++ B = g.st (A ++ B) := rfl
theorem Hs.len2 {g : Hs} {A : Store} {a b : Cell} : (g.st (A ++ [a, b])).length = A.length + 4 := by
  show (A ++ [a, b]).length + 1 + 1 = _
  rw [List.length_append]
  rfl
theorem Hs.at1 {g : Hs} {A B : Store} {a b : Cell} : (g.st (A ++ a :: b :: B))[A.length + 3]? = some b := get_app (A := A) (B := a :: b :: B) (i := 1)
theorem Hs.set1 {g : Hs} {A B : Store} {a b c : Cell} : (g.st (A ++ a :: b :: B)).set (A.length + 3) c = g.st (A ++ a :: c :: B) := congrArg (fun z => Cell.lst (g.l.map .int) :: Cell.lst [.int g.a, .loc 0, .int g.c] :: z) (set_app (A := A) (B := a :: b :: B) (i := 1))
theorem back_ok {e : Es} {many : Nat} (he : e.Ok many) {pops : List Nat} (hp : ∀ b ∈ pops, b < 6) : ∀ r ∈ (e.rows ++ pops.map Row.pop) ++ [Row.back], r.Ok ((e.rows ++ pops.map Row.pop) ++ [Row.back]).length many := fun r hr => by
  rw [List.length_append, List.length_append]
  rcases List.mem_append.mp hr with h | h
  · rcases List.mem_append.mp h with h | h
    · exact (he.rows r h).mono (by show _ ≤ _ + 1; omega)
    · obtain ⟨b, hb, rfl⟩ := List.mem_map.mp h
      exact hp b hb
  · rw [List.mem_singleton.mp h]
    trivial
theorem kept_spec (g : Hs) (rest : Store) (hlow : LowR rest) (hg : g.Ok) (hs : List House) (owners : List Nat) (nh most : Nat) (hho : ∀ h ∈ hs, House.Ok h) (how : ∀ o ∈ owners, o < hs.length) (h6 : owners.length ≤ 6) (hnh : nh < owners.length) (hmost : most ≤ 100) :
    Post (m_kept [.loc 1, .tup (hs.map House.pv), .ls (ivs owners), .int nh, .int most] (g.st rest)) fun v S => ∃ (r : Routine) (g' : Hs), v = r.pv ∧ r.Ok hs.length owners.length ∧ S = g'.st rest ∧ g'.Ok := by
  unfold m_kept
  refine w_fnP rfl ?_
  have fin : ∀ (init : List Row) (e' : Es) (g1 : Hs), g1.Ok → (∀ r ∈ init ++ [Row.back], r.Ok (init ++ [Row.back]).length owners.length) → (init ++ [Row.back]).length ≤ 32 → Post (leave (g.st rest).length (.tup [.int (owners[nh] : Nat), .tup ((init ++ [Row.back]).map Row.pv)]) (e'.st g1 rest)) fun v S => ∃ (r : Routine) (g' : Hs), v = r.pv ∧ r.Ok hs.length owners.length ∧ S = g'.st rest ∧ g'.Ok := fun init e' g1 hg1 hok hlen => by
    show Post (leave (g1.st rest).length (Routine.pv ⟨owners[nh], init, .back⟩) (g1.st rest ++ e'.cells rest.length)) _
    refine (leave_drop (w := Routine.pv ⟨owners[nh], init, .back⟩) (hlow.st g1) (by unfold Es.cells; simp) ?_).mpr ⟨⟨owners[nh], init, .back⟩, g1, rfl, ⟨how _ (List.getElem_mem hnh), hlen, hok, trivial⟩, rfl, hg1⟩
    show (if LW.low _ (Routine.pv ⟨owners[nh], init, .back⟩) = true then some _ else none) = _
    rw [if_pos (Routine.low _ _)]
  generalize hL : (g.st rest).length = L at fin ⊢
  ((repeat sizeOf_list_dec) <;> (try dsimp only))
  have hoa : atI (ivs owners) (nh : Int) = some (.int (owners[nh] : Nat)) := atI_map (List.getElem?_eq_getElem hnh)
  refine (w_ix rfl hoa).mpr ?_
  have hoh : owners[nh] < hs.length := how _ (List.getElem_mem hnh)
  refine (w_ix rfl (atI_map (List.getElem?_eq_getElem hoh))).mpr ?_
  have hk := hho _ (List.getElem_mem hoh)
  generalize hs[owners[nh]] = k at hk ⊢
  have hil := hk.ins.len
  have hkl := hk.kept.len
  ((repeat sizeOf_list_dec) <;> (try dsimp only))
  refine lc_sub (zs := k.kept) (fun _ => rfl) hg (by omega) (by show 9 < 14; decide) (fun i g' hi hg' => ?_) (fun saved g1 hg1 hsub => ?_)
  · ((repeat sizeOf_list_dec) <;> (try dsimp only))
    ((refine Post.mono (next_spec _ _ _ hg' ?hn0 ?hn1) ?_); (case hn0 => omega); (case hn1 => omega))
    rintro _ _ ⟨r2, g3, rfl, rfl, hg3, a2, b2⟩
    ((repeat sizeOf_list_dec) <;> (try dsimp only))
    exact ⟨g3, rfl, hg3⟩
  have hsv : Boxes saved := hk.kept.sub hsub
  have hvl := hsv.len
  ((repeat sizeOf_list_dec) <;> (try dsimp only))
  refine w_eDks.mpr ?_
  ((repeat sizeOf_list_dec) <;> (try dsimp only))
  refine lc_each (zs := saved) (fun i => (Row.push i).pv) rfl (by omega) (fun i hi => ?_) ?_
  · ((repeat sizeOf_list_dec) <;> (try dsimp only))
    exact ⟨by trivial, by trivial⟩
  rw [show (g1.st rest).length = rest.length + 2 from rfl]
  ((repeat sizeOf_list_dec) <;> (try dsimp only))
  refine ⟨rfl, by decide, by decide +kernel, ?_⟩
  rw [show (g1.st rest ++ [Cell.lst (saved.map fun i => (Row.push i).pv)]).length = rest.length + 3 by rw [List.length_append]; rfl]
  ((repeat sizeOf_list_dec) <;> (try dsimp only))
  refine lc_each (zs := List.range 6) (fun i => PV.str (k.mark i)) (by rfl) (by decide) (fun i hi => ?_) ?_
  · have hi6 : i < 6 := List.mem_range.mp hi
    ((repeat sizeOf_list_dec) <;> (try dsimp only))
    refine (w_in rfl rfl (flat_ivs _)).mpr ?_
    rw [inSeq_ivs]
    ((repeat sizeOf_list_dec) <;> (try dsimp only))
    unfold House.mark
    cases hc : k.ins.contains i with
    | true =>
      ((repeat sizeOf_list_dec) <;> (try dsimp only))
      exact ⟨by trivial, by trivial⟩
    | false =>
      ((repeat sizeOf_list_dec) <;> (try dsimp only))
      refine (w_in rfl rfl (flat_ivs _)).mpr ?_
      rw [inSeq_ivs]
      ((repeat sizeOf_list_dec) <;> (try dsimp only))
      cases hc2 : k.kept.contains i with
      | true =>
        ((repeat sizeOf_list_dec) <;> (try dsimp only))
        refine (w_str ?_).mpr ?_
        · rcases (by omega : i = 0 ∨ i = 1 ∨ i = 2 ∨ i = 3 ∨ i = 4 ∨ i = 5) with rfl | rfl | rfl | rfl | rfl | rfl <;> decide
        ((repeat sizeOf_list_dec) <;> (try dsimp only))
        exact ⟨by trivial, by trivial⟩
      | false =>
        ((repeat sizeOf_list_dec) <;> (try dsimp only))
        exact ⟨by trivial, by trivial⟩
  simp only [Hs.app, List.append_assoc, List.cons_append, List.nil_append]
  rw [Hs.len2]
  ((repeat sizeOf_list_dec) <;> (try dsimp only))
  refine (w_setS (Hs.at1 (B := [_])) (by show 3 < lim; decide)).mpr ?_
  rw [Hs.set1]
  ((repeat sizeOf_list_dec) <;> (try dsimp only))
  refine lc_some (n := 6) (by decide) (by show 9 < 14; decide) (fun i => !k.kept.contains i || saved.contains i) (fun i hi => ?_) (fun free free1 free2 => ?_)
  · ((repeat sizeOf_list_dec) <;> (try dsimp only))
    refine (w_notIn rfl rfl (flat_ivs _)).mpr ?_
    rw [inSeq_ivs]
    ((repeat sizeOf_list_dec) <;> (try dsimp only))
    cases hc : k.kept.contains i with
    | false =>
      ((repeat sizeOf_list_dec) <;> (try dsimp only))
      exact ⟨by trivial, by trivial⟩
    | true =>
      ((repeat sizeOf_list_dec) <;> (try dsimp only))
      refine (w_in rfl rfl (flat_ivs _)).mpr ?_
      rw [inSeq_ivs]
      ((repeat sizeOf_list_dec) <;> (try dsimp only))
      exact ⟨by trivial, by trivial⟩
  ((repeat sizeOf_list_dec) <;> (try dsimp only))
  refine (w_setS (Hs.at1 (B := [_])) (by show 4 < lim; decide)).mpr ?_
  rw [Hs.set1]
  have hmk : ((List.range 6).map fun i => PV.str (k.mark i)) = ((List.range 6).map k.mark).map PV.str := (List.map_map ..).symm
  have hpk : (saved.map fun i => (Row.push i).pv) = (saved.map Row.push).map Row.pv := by rw [List.map_map]; rfl
  rw [hmk, hpk]
  have he0 : Es.Ok owners.length ⟨saved.map Row.push, hs, owners, (List.range 6).map k.mark, free⟩ := by
    refine ⟨rfl, fun b hb => ?_, fun r hr => ?_, some_boxes free1 free2, ?_, by show 0 < owners.length; omega, rfl, h6, how, hho⟩
    · obtain ⟨i, hi, rfl⟩ := List.mem_map.mp hb
      exact k.mark_ok (List.mem_range.mp hi)
    · obtain ⟨i, hi, rfl⟩ := List.mem_map.mp hr
      exact hsv.2 i hi
    · refine List.length_pos_of_mem ((free2 k.out).mpr ⟨hk.out, ?_⟩)
      cases hc : k.kept.contains k.out with
      | false => rfl
      | true => exact ((hk.apart _ (List.contains_iff_mem.mp hc)).2 rfl).elim
  show Post (sSeq _ _ _ (Es.st ⟨saved.map Row.push, hs, owners, (List.range 6).map k.mark, free⟩ g1 rest)) _
  generalize hE : (⟨saved.map Row.push, hs, owners, (List.range 6).map k.mark, free⟩ : Es) = e0 at he0 ⊢
  have hl0 : e0.rows.length ≤ 6 := by rw [← hE]; show (saved.map Row.push).length ≤ 6; rw [List.length_map]; omega
  have hh0 : e0.houses = hs := by rw [← hE]
  have ho0 : e0.owners = owners := by rw [← hE]
  clear hE
  ((repeat sizeOf_list_dec) <;> (try dsimp only))
  ((refine Post.mono (next_spec _ _ _ hg1 ?hn0 ?hn1) ?_); (case hn0 => omega); (case hn1 => omega))
  rintro _ _ ⟨r2, g2, rfl, rfl, hg2, a2, b2⟩
  obtain ⟨n2, rfl⟩ : ∃ n : Nat, r2 = n := ⟨r2.toNat, by omega⟩
  ((repeat sizeOf_list_dec) <;> (try dsimp only))
  rw [Int.toNat_natCast]
  refine for_go (all := upto 0 n2) (fun i env S => ∃ e' g' x11 x12, S = Es.st e' g' rest ∧ g'.Ok ∧ e'.Ok owners.length ∧ e'.rows.length ≤ 6 + 19 * i ∧ env = [some (.loc 1), some (.tup (hs.map House.pv)), some (.ls (ivs owners)), some (.int nh), some (.int most), some (.tup (ivs k.ins)), some (.int k.out), some (.tup (ivs k.kept)), some (.ls (ivs saved)), none, some (.loc (rest.length + 3)), x11, x12, none]) (by rfl) ⟨e0, g2, none, none, rfl, hg2, he0, by omega, rfl⟩ ?_ ?_
  · rintro i env S x ⟨e', g', x11, x12, rfl, hg', he', q1, rfl⟩ hx
    refine ⟨by rfl, ?_⟩
    have hi : i < n2 := by
      have := (List.getElem?_eq_some_iff.mp hx).1
      rw [upto_length] at this
      exact this
    ((repeat sizeOf_list_dec) <;> (try dsimp only))
    ((refine Post.mono (next_spec _ _ _ hg' ?hn0 ?hn1) ?_); (case hn0 => omega); (case hn1 => omega))
    rintro _ _ ⟨turn, g3, rfl, rfl, hg3, a3, b3⟩
    ((repeat sizeOf_list_dec) <;> (try dsimp only))
    cases hd : decide (turn < 2) with
    | true =>
      ((repeat sizeOf_list_dec) <;> (try dsimp only))
      refine (calling_spec g3 rest e' owners.length hg3 he' (by omega)).mono ?_
      rintro _ _ ⟨e2, g4, rfl, rfl, hg4, he2, hlk, hl2⟩
      ((repeat sizeOf_list_dec) <;> (try dsimp only))
      exact ⟨e2, g4, _, _, rfl, hg4, he2, by omega, rfl⟩
    | false =>
      ((repeat sizeOf_list_dec) <;> (try dsimp only))
      cases hd2 : (turn == 2) with
      | true =>
        ((repeat sizeOf_list_dec) <;> (try dsimp only))
        refine (zeroed_spec g3 rest e' owners.length hg3 he' (by omega)).mono ?_
        rintro _ _ ⟨e2, g4, rfl, rfl, hg4, he2, hlk, hl2⟩
        ((repeat sizeOf_list_dec) <;> (try dsimp only))
        exact ⟨e2, g4, _, _, rfl, hg4, he2, by omega, rfl⟩
      | false =>
        ((repeat sizeOf_list_dec) <;> (try dsimp only))
        refine (simple_spec g3 rest e' owners.length hg3 he' (by omega)).mono ?_
        rintro _ _ ⟨e2, g4, rfl, rfl, hg4, he2, hlk, hl2⟩
        ((repeat sizeOf_list_dec) <;> (try dsimp only))
        exact ⟨e2, g4, _, _, rfl, hg4, he2, by omega, rfl⟩
  · rintro env S ⟨e1, g3, x11, x12, rfl, hg3, he1, q1, rfl⟩
    rw [upto_length] at q1
    refine ⟨by rfl, ?_⟩
    ((repeat ((fail_if_success (with_reducible refine w_if.mpr ?_)); sizeOf_list_dec)) <;> (try dsimp only))
    refine Post.mono (Q := fun p S => p.1 = .nx ∧ ∃ e3 g3, p.2 = [some (.loc 1), some (.tup (hs.map House.pv)), some (.ls (ivs owners)), some (.int nh), some (.int most), some (.tup (ivs k.ins)), some (.int k.out), some (.tup (ivs k.kept)), some (.ls (ivs saved)), none, some (.loc (rest.length + 3)), x11, x12, none] ∧ S = Es.st e3 g3 rest ∧ g3.Ok ∧ e3.Ok owners.length ∧ e3.rows.length ≤ 3000) ?_ ?_
    · obtain ⟨m, hm, hmo⟩ := he1.at hk.out
      ((repeat sizeOf_list_dec) <;> (try dsimp only))
      refine (w_eBox hm).mpr ?_
      ((repeat sizeOf_list_dec) <;> (try dsimp only))
      refine (w_neS hmo (by decide +kernel)).mpr ?_
      ((repeat sizeOf_list_dec) <;> (try dsimp only))
      cases hmg : (!decide (m = "good")) with
      | false =>
        ((repeat sizeOf_list_dec) <;> (try dsimp only))
        exact ⟨by trivial, e1, g3, by trivial, rfl, hg3, he1, by omega⟩
      | true =>
        ((repeat sizeOf_list_dec) <;> (try dsimp only))
        refine ⟨_, _, rfl, Es.at0, ?_⟩
        ((repeat sizeOf_list_dec) <;> (try dsimp only))
        refine (number_spec _ _ hg3).mono ?_
        rintro _ _ ⟨n, g4, rfl, rfl, hg4, n0, n1⟩
        obtain ⟨n, rfl⟩ : ∃ n' : Nat, n = n' := ⟨n.toNat, by omega⟩
        ((repeat sizeOf_list_dec) <;> (try dsimp only))
        refine (w_eAdd (r := .put k.out n) (by omega)).mpr ?_
        exact ⟨by trivial, _, g4, by trivial, rfl, hg4, he1.more fun r' hr' => by
          rw [List.mem_singleton.mp hr']
          exact ⟨hk.out, by omega⟩, by show (e1.rows ++ [Row.put k.out n]).length ≤ _; rw [List.length_append]; show _ + 1 ≤ _; omega⟩
    · rintro ⟨fl, env⟩ S ⟨hfl, e3, g4, henv, rfl, hg4, he3, p5⟩
      cases hfl
      cases henv
      ((repeat sizeOf_list_dec) <;> (try dsimp only))
      refine lc_each (zs := saved.reverse) (fun i => (Row.pop i).pv) rev_items (by rw [List.length_reverse]; omega) (fun i hi => ?_) ?_
      · ((repeat sizeOf_list_dec) <;> (try dsimp only))
        exact ⟨by trivial, by trivial⟩
      refine (w_addLoc Es.at0 (by rw [List.length_map, List.length_map, List.length_reverse]; exact Nat.le_trans (by omega) (by decide : 4000 ≤ lim))).mpr ?_
      ((repeat sizeOf_list_dec) <;> (try dsimp only))
      refine (w_addLL (by rw [List.length_append, List.length_map, List.length_map, List.length_reverse]; exact Nat.le_trans (by show _ + 1 ≤ 4000; omega) (by decide : 4000 ≤ lim))).mpr ?_
      rw [show e3.rows.map Row.pv ++ (saved.reverse.map fun i => (Row.pop i).pv) ++ [PV.tup [PV.str "back"]] = ((e3.rows ++ saved.reverse.map Row.pop) ++ [Row.back]).map Row.pv by rw [List.map_append, List.map_append, List.map_map]; rfl]
      have hb := back_ok he3 (pops := saved.reverse) fun x hx => hsv.2 x (List.mem_reverse.mp hx)
      ((repeat sizeOf_list_dec) <;> (try dsimp only))
      rw [List.length_map]
      cases hd : decide ((32 : Int) < ((e3.rows ++ saved.reverse.map Row.pop) ++ [Row.back]).length) with
      | true =>
        ((repeat sizeOf_list_dec) <;> (try dsimp only))
        refine (w_ix rfl hoa).mpr ?_
        ((repeat sizeOf_list_dec) <;> (try dsimp only))
        exact fin [.put k.out 1] e3 g4 hg4 (fun r hr => by
          simp only [List.cons_append, List.nil_append, List.mem_cons, List.not_mem_nil, or_false] at hr
          rcases hr with rfl | rfl
          · exact ⟨hk.out, by decide⟩
          · trivial) (Nat.le_of_ble_eq_true rfl)
      | false =>
        ((repeat sizeOf_list_dec) <;> (try dsimp only))
        refine (w_ix rfl hoa).mpr ?_
        ((repeat sizeOf_list_dec) <;> (try dsimp only))
        exact fin _ e3 g4 hg4 hb (by have := of_decide_eq_false hd; omega)
end

/-! PureQa -/
/-! PureQa: programs that are drawn. -/
section
open PySem L2
theorem cut_take (xs : List PV) (n : Nat) : cut xs none (some (n : Int)) = xs.take n := by
  have h1 : HT.sIx xs.length xs.length (some (n : Int)) = min n xs.length := HT.sIx_nat xs.length xs.length n
  unfold cut
  rw [h1, HT.sIx_none]
  show List.take (min n xs.length - 0) (List.drop 0 xs) = _
  rw [List.drop_zero, Nat.sub_zero]
  rcases Nat.le_total n xs.length with h | h
  · rw [Nat.min_eq_left h]
  · rw [Nat.min_eq_right h, List.take_of_length_le (Nat.le_refl _), List.take_of_length_le h]
theorem cut_drop (xs : List PV) (n : Nat) : cut xs (some (n : Int)) none = xs.drop n := by
  have h1 : HT.sIx xs.length 0 (some (n : Int)) = min n xs.length := HT.sIx_nat xs.length 0 n
  unfold cut
  rw [h1, HT.sIx_none]
  show List.take (xs.length - min n xs.length) (List.drop (min n xs.length) xs) = _
  rcases Nat.le_total n xs.length with h | h
  · rw [Nat.min_eq_left h, ← List.length_drop, List.take_length]
  · rw [Nat.min_eq_right h, Nat.sub_self, List.drop_eq_nil_of_le h]
    rfl
theorem w_addT' {xs ys : List PV} {S : Store} {Q : PV → Store → Prop} (h : xs.length + ys.length ≤ 1000) : Post (oAdd (.tup xs) (.tup ys) S) Q ↔ Q (.tup (xs ++ ys)) S := w_addT (Nat.le_trans h (by decide))
theorem map_of {α : Type} {f : α → PV} {P : α → Prop} : ∀ {xs : List PV}, (∀ (i : Nat) (x : PV), xs[i]? = some x → ∃ a, x = f a ∧ P a) → ∃ ys : List α, xs = ys.map f ∧ ∀ a ∈ ys, P a
  | [], _ => ⟨[], rfl, fun x h => absurd h List.not_mem_nil⟩
  | x :: r, h => by
    obtain ⟨s, rfl, h1⟩ := h 0 x rfl
    obtain ⟨ss, rfl, h2⟩ := map_of (xs := r) fun i x hx => h (i + 1) x hx
    refine ⟨s :: ss, rfl, fun x hx => ?_⟩
    rcases List.mem_cons.mp hx with rfl | hx
    · exact h1
    · exact h2 x hx
end
section
open PySem L2
/-- [f(x) for x in xs], xs written values -/
theorem lc_vals {α : Type} {enc : α → PV} {it : LW.It} {zs : List α} {env : LW.Env} {S : Store} {QA : List PV → Store → Prop} {v : Nat} {e : XE} (f : α → PV) (ha : it.items S = some (zs.map enc)) (hn : zs.length ≤ 1000)
    (he : ∀ z, z ∈ zs → Post (e (env.set v (some (enc z))) S) fun y S' => y = f z ∧ S' = S) (hQ : QA (zs.map f) S) : LcP it (gNm v) bYes e env S QA := by
  refine ⟨zs.map enc, ha, lc_inv (fun i acc S' => i ≤ zs.length ∧ acc = (zs.take i).map f ∧ S' = S) ?_ ?_ _ 0 rfl (Nat.zero_le _) _ _ ⟨Nat.zero_le _, rfl, rfl⟩⟩
  · rintro i acc S' x ⟨hi, rfl, rfl⟩ hx
    refine ⟨ha, ?_⟩
    obtain ⟨b, hb, rfl⟩ : ∃ b : α, zs[i]? = some b ∧ x = enc b := by
      rw [List.getElem?_map] at hx
      cases e : zs[i]? with
      | none => rw [e] at hx; cases hx
      | some b => rw [e] at hx; exact ⟨b, rfl, (Option.some.inj hx).symm⟩
    have hlt := (List.getElem?_eq_some_iff.mp hb).1
    refine w_gNm.mpr (w_yes.mpr ?_)
    rw [if_pos rfl]
    refine (he b (List.mem_of_getElem? hb)).mono ?_
    rintro y S2 ⟨rfl, rfl⟩
    refine ⟨?_, hlt, ?_, rfl⟩
    · rw [List.length_map, List.length_take]
      exact Nat.lt_of_le_of_lt (by omega) (by decide : 1000 < lim)
    · rw [List.take_add_one, hb, List.map_append]
      rfl
  · rintro acc S' ⟨_, rfl, rfl⟩
    rw [List.length_map, List.take_length]
    exact ⟨ha, hQ⟩
def Row.word : Row → Str
  | .put _ _ => "put" | .move _ _ => "move" | .add _ _ _ => "add" | .take _ _ _ => "take" | .push _ => "push" | .pop _ => "pop"
  | .say _ => "say" | .zero _ _ => "zero" | .go _ => "go" | .call _ => "call" | .back => "back"
theorem w_word {r : Row} {S : Store} {Q : PV → Store → Prop} : Post (oIx r.pv (.int 0) S) Q ↔ Q (.str r.word) S := by cases r <;> exact w_ix (xs := _ :: _) rfl rfl
def Row.endB : Row → Bool
  | .go _ => true
  | .back => true
  | _ => false
theorem Row.endB_is {r : Row} (h : r.endB = true) : r.isEnd := by cases r <;> first | trivial | cases h
theorem Row.in_end (r : Row) : inSeq (.str r.word) [.str "go", .str "back"] = r.endB := by cases r <;> (simp only [Row.word, Row.endB]; decide +kernel)
def Row.toB : Row → Bool
  | .go _ => true
  | .zero _ _ => true
  | _ => false
theorem Row.in_to (r : Row) : inSeq (.str r.word) [.str "go", .str "zero"] = r.toB := by cases r <;> (simp only [Row.word, Row.toB]; decide +kernel)
def Row.clip (n : Nat) : Row → Row
  | .go t => .go (min t (n - 1))
  | .zero b t => .zero b (min t (n - 1))
  | r => r
theorem Row.clip_ok {n m k : Nat} {r : Row} (h : r.Ok k m) (hn : 0 < n) : (r.clip n).Ok n m := by
  cases r with
  | zero b t => exact ⟨h.1, by show min t (n - 1) < n; omega⟩
  | go t => exact (show min t (n - 1) < n by omega)
  | put b n => exact h
  | move a b => exact h
  | add a b c => exact h
  | take a b c => exact h
  | push b => exact h
  | pop b => exact h
  | say b => exact h
  | call r => exact h
  | back => exact h
abbrev IsProg (rest : Store) (v : PV) (S : Store) : Prop := ∃ (p : Prog) (g' : Hs), v = p.pv ∧ p.Ok ∧ S = g'.st rest ∧ g'.Ok
theorem program_specN (g : Hs) (rest : Store) (hlow : LowR rest) (hg : g.Ok) (up : Nat) (hup : 1 ≤ up ∧ up ≤ 6) : Post (m_program [.loc 1, .int up] (g.st rest)) (IsProg rest) := by
  unfold m_program
  refine w_fnP rfl ?_
  ((repeat sizeOf_list_dec) <;> (try dsimp only))
  ((refine Post.mono (next_spec _ _ _ hg ?hn0 ?hn1) ?_); (case hn0 => omega); (case hn1 => omega))
  rintro _ _ ⟨r1, g1, rfl, rfl, hg1, a1, b1⟩
  obtain ⟨n1, rfl⟩ : ∃ n : Nat, r1 = n := ⟨r1.toNat, by omega⟩
  ((repeat sizeOf_list_dec) <;> (try dsimp only))
  rw [show ((1 : Int) + (n1 : Int)).toNat = n1 + 1 by omega]
  refine lc_draws (P := fun _ x => ∃ h : House, x = h.pv ∧ h.Ok) hg1 (by omega) (fun i g0 hi hg0 => ?_) (fun xs g2 hg2 hl hP => ?_)
  · ((repeat sizeOf_list_dec) <;> (try dsimp only))
    refine (house_spec _ _ hg0).mono ?_
    rintro _ _ ⟨h, g3, rfl, hh, rfl, hg3⟩
    exact ⟨g3, rfl, hg3, h, rfl, hh⟩
  obtain ⟨hs, rfl, hhs⟩ := map_of hP
  rw [List.length_map] at hl
  ((repeat sizeOf_list_dec) <;> (try dsimp only))
  ((refine Post.mono (next_spec _ _ _ hg2 ?hn0 ?hn1) ?_); (case hn0 => omega); (case hn1 => omega))
  rintro _ _ ⟨r2, g3, rfl, rfl, hg3, a2, b2⟩
  obtain ⟨n2, rfl⟩ : ∃ n : Nat, r2 = n := ⟨r2.toNat, by omega⟩
  ((repeat sizeOf_list_dec) <;> (try dsimp only))
  rw [show ((1 : Int) + (n2 : Int)).toNat = n2 + 1 by omega]
  refine lc_draws (P := fun _ x => ∃ o : Nat, x = .int o ∧ o < hs.length) hg3 (by omega) (fun i g0 hi hg0 => ?_) (fun xs g4 hg4 hl2 hP2 => ?_)
  · ((repeat sizeOf_list_dec) <;> (try dsimp only))
    rw [List.length_map]
    ((refine Post.mono (next_spec _ _ _ hg0 ?hn0 ?hn1) ?_); (case hn0 => omega); (case hn1 => omega))
    rintro _ _ ⟨r3, g5, rfl, rfl, hg5, a3, b3⟩
    obtain ⟨n3, rfl⟩ : ∃ n : Nat, r3 = n := ⟨r3.toNat, by omega⟩
    exact ⟨g5, rfl, hg5, n3, rfl, by omega⟩
  obtain ⟨owners, hxs, how⟩ := map_of (f := fun i : Nat => PV.int (i : Int)) hP2
  have hxs : xs = ivs owners := hxs
  subst hxs
  rw [ivs_length] at hl2
  ((repeat sizeOf_list_dec) <;> (try dsimp only))
  ((refine Post.mono (next_spec _ _ _ hg4 ?hn0 ?hn1) ?_); (case hn0 => omega); (case hn1 => omega))
  rintro _ _ ⟨r4, g5, rfl, rfl, hg5, a4, b4⟩
  obtain ⟨most, hmx, hm⟩ : ∃ mx : Nat, mx ≤ 100 ∧ atI [PV.int 6, PV.int 14] r4 = some (.int mx) := by
    rcases (by omega : r4 = 0 ∨ r4 = 1) with rfl | rfl
    · exact ⟨6, by decide, rfl⟩
    · exact ⟨14, by decide, rfl⟩
  refine (w_ix rfl hm).mpr ?_
  ((repeat sizeOf_list_dec) <;> (try dsimp only))
  rw [Int.toNat_natCast]
  refine lc_draws (P := fun _ x => ∃ r : Routine, x = r.pv ∧ r.Ok hs.length owners.length) hg5 (by omega) (fun i g0 hi hg0 => ?_) (fun xs g6 hg6 hl3 hP3 => ?_)
  · ((repeat sizeOf_list_dec) <;> (try dsimp only))
    refine (kept_spec g0 rest hlow hg0 hs owners i most hhs how (by omega) hi hmx).mono ?_
    rintro _ _ ⟨r, g7, rfl, hr, rfl, hg7⟩
    exact ⟨g7, rfl, hg7, r, rfl, hr⟩
  obtain ⟨rs, rfl, hrs⟩ := map_of hP3
  rw [List.length_map] at hl3
  ((repeat sizeOf_list_dec) <;> (try dsimp only))
  refine (leave_same rfl).mpr ⟨⟨hs, rs⟩, g6, rfl, ⟨by show 1 ≤ hs.length; omega, by show hs.length ≤ 3; omega, by show 1 ≤ rs.length; omega, by show rs.length ≤ 6; omega, hhs, ?_⟩, rfl, hg6⟩
  show ∀ r ∈ rs, r.Ok hs.length rs.length
  rw [hl3]
  exact hrs
theorem program_spec (g : Hs) (rest : Store) (hlow : LowR rest) (hg : g.Ok) : Post (m_program [.loc 1, .int 6] (g.st rest)) (IsProg rest) := program_specN g rest hlow hg 6 (by decide)
theorem set_take_drop {α : Type} {x : α} : ∀ {xs : List α} {i : Nat}, i < xs.length → xs.take i ++ [x] ++ xs.drop (i + 1) = xs.set i x
  | [], _, h => by cases h
  | a :: r, 0, _ => rfl
  | a :: r, i + 1, h => by
    show a :: (r.take i ++ [x] ++ r.drop (i + 1)) = a :: r.set i x
    rw [set_take_drop (Nat.lt_of_succ_lt_succ h)]
theorem min_int (t n : Nat) : (if ((n : Int) - 1) < (t : Int) then ((n : Int) - 1) else (t : Int)) = (min t (n - 1) : Nat) ∨ n = 0 := by
  by_cases hn : n = 0
  · exact .inr hn
  · left
    split <;> omega
end

/-! PureLow -/
/-! PureLow: what is low. -/
section
open PySem L2
mutual
theorem low_mono {n n' : Nat} (hn : n ≤ n') : ∀ v : PV, LW.low n v = true → LW.low n' v = true
  | .non, _ => by unfold LW.low; rfl
  | .bl _, _ => by unfold LW.low; rfl
  | .int _, _ => by unfold LW.low; rfl
  | .str _, _ => by unfold LW.low; rfl
  | .tup xs, h => by unfold LW.low at h ⊢; exact lows_mono hn xs h
  | .ls xs, h => by unfold LW.low at h ⊢; exact lows_mono hn xs h
  | .fz xs, h => by unfold LW.low at h ⊢; exact lows_mono hn xs h
  | .dc _ xs, h => by unfold LW.low at h ⊢; exact lows_mono hn xs h
  | .loc l, h => by unfold LW.low at h ⊢; exact decide_eq_true (Nat.lt_of_lt_of_le (of_decide_eq_true h) hn)
theorem lows_mono {n n' : Nat} (hn : n ≤ n') : ∀ vs : List PV, lows n vs = true → lows n' vs = true
  | [], _ => by unfold lows; rfl
  | v :: r, h => by
    unfold lows at h ⊢
    rw [Bool.and_eq_true] at h ⊢
    exact ⟨low_mono hn v h.1, lows_mono hn r h.2⟩
end
theorem cell_mono {n n' : Nat} (hn : n ≤ n') (c : Cell) (h : Cell.low n c = true) : Cell.low n' c = true := by
  cases c <;> exact lows_mono hn _ h
theorem LowS.rest {g : Hs} {rest : Store} (h : LowS (g.st rest)) : LowR rest := by
  have h : (g.st rest).all (Cell.low (g.st rest).length) = true := h
  have h2 : (Cell.low (rest.length + 1 + 1) (.lst (g.l.map .int)) && (Cell.low (rest.length + 1 + 1) (.lst [.int g.a, .loc 0, .int g.c]) && rest.all (Cell.low (rest.length + 1 + 1)))) = true := h
  rw [Bool.and_eq_true, Bool.and_eq_true] at h2
  exact h2.2.2
end

/-! PureGen -/
/-! PureGen: stores. -/
section
open PySem L2
theorem get_last0 {S : Store} {c : Cell} : (S ++ [c])[S.length]? = some c := get_app (A := S) (B := [c]) (i := 0)
theorem set_last0 {S : Store} {c d : Cell} : (S ++ [c]).set S.length d = S ++ [d] := set_app (A := S) (B := [c]) (i := 0)
theorem w_aStar {m : XE} {r : XA} {env : LW.Env} {S : Store} {QA : List PV → Store → Prop} : Post (aStar m r env S) QA ↔ Post (m env S) fun x S1 => ∃ ys, seqOf S1 x = some ys ∧ Post (r env S1) fun zs S2 => QA (ys ++ zs) S2 := by
  unfold aStar
  rw [Post.bind]
  constructor <;> (intro h; refine h.mono fun x S h => ?_)
  · split at h
    · rename_i ys hy
      rw [Post.bind] at h
      exact ⟨ys, hy, h.mono fun _ _ h => Post.ok.mp h⟩
    · exact (Post.bad.mp h).elim
  · obtain ⟨ys, hy, h⟩ := h
    rw [hy]
    simp only []
    rw [Post.bind]
    exact h.mono fun _ _ h => Post.ok.mpr h
theorem w_tupN {xs : List PV} {S : Store} {Q : PV → Store → Prop} (h : xs.length ≤ lim) : Post (if xs.length ≤ lim then R.ok (.tup xs) S else .bad) Q ↔ Q (.tup xs) S := by rw [if_pos h]; exact Post.ok
theorem st_more {g : Hs} {rest B : Store} {S : Store} (h : S = g.st rest ++ B) (hl : LowS S) : ∃ rest2, S = g.st rest2 ∧ LowR rest2 := ⟨rest ++ B, h, LowS.rest (g := g) (by rw [← Hs.app, ← h]; exact hl)⟩
end

/-! PureTb -/
/-! PureTb: operations on texts from behind. No mirrors here. -/
section
open PySem L2
section
variable {S : Store} {env : LW.Env} {Q : PV → Store → Prop} {QA : List PV → Store → Prop} {x y z : PV} {xs ys : List PV} {a b : Str}
theorem strsP_map : ∀ ys : List Str, strsP (ys.map .str) = some ys
  | [] => rfl
  | y :: r => by
    show (strsP (r.map .str)).map (y :: ·) = _
    rw [strsP_map r]
    rfl
/-- the items of a value list or one of the store -/
theorem w_joinS {o e : XE} : Post (eJoinS o e env S) Q ↔ Post (o env S) fun x S1 => ∃ s, x = .str s ∧ Post (e env S1) fun y S2 => ∃ ys : List Str, lstOf S2 y = some (ys.map .str) ∧ (ys.map (·.length)).sum + ys.length * s.length ≤ 16777216 ∧ Q (.str (Txt.join s ys)) S2 := by
  unfold eJoinS
  rw [Post.bind]
  constructor
  · intro h
    refine h.mono fun x S1 h => ?_
    cases x with
    | str s =>
      refine ⟨s, rfl, ?_⟩
      refine (Post.bind.mp h).mono fun y S2 h => ?_
      split at h
      · rename_i ys hy
        split at h
        · rename_i hl
          cases hx : lstOf S2 y with
          | none => rw [hx] at hy; cases hy
          | some zs =>
            rw [hx] at hy
            have hy : strsP zs = some ys := hy
            have e : ∀ {zs : List PV} {ys : List Str}, strsP zs = some ys → zs = ys.map .str := by
              intro zs
              induction zs with
              | nil => intro ys h; cases h; rfl
              | cons z r ih =>
                intro ys h
                cases z with
                | str t =>
                  have h : (strsP r).map (t :: ·) = some ys := h
                  cases hr : strsP r with
                  | none => rw [hr] at h; cases h
                  | some us =>
                    rw [hr] at h
                    cases h
                    rw [ih hr]
                    rfl
                | _ => cases h
            exact ⟨ys, by rw [e hy], hl, Post.ok.mp h⟩
        · exact (Post.bad.mp h).elim
      · exact (Post.bad.mp h).elim
    | _ => exact (Post.bad.mp h).elim
  · intro h
    refine h.mono ?_
    rintro _ S1 ⟨s, rfl, h⟩
    refine Post.bind.mpr (h.mono ?_)
    rintro y S2 ⟨ys, hy, hl, h⟩
    rw [hy, show (some (ys.map PV.str)).bind strsP = some ys from strsP_map ys]
    simp only
    rw [if_pos hl]
    exact Post.ok.mpr h
theorem w_splitS {o e : XE} : Post (eSplitS o e env S) Q ↔ Post (o env S) fun x S1 => ∃ s, x = .str s ∧ Post (e env S1) fun y S2 => ∃ b, y = .str b ∧ (b.length == 0) = false ∧ s.length + 2 ≤ sizeLine ∧ Q (.ls ((Txt.split s b).map .str)) S2 := by
  unfold eSplitS
  rw [Post.bind]
  constructor
  · intro h
    refine h.mono fun x S1 h => ?_
    cases x with
    | str s =>
      refine ⟨s, rfl, ?_⟩
      refine (Post.bind.mp h).mono fun y S2 h => ?_
      cases y with
      | str b =>
        simp only at h
        split at h
        · rename_i hl
          exact ⟨b, rfl, hl.1, hl.2, Post.ok.mp h⟩
        · exact (Post.bad.mp h).elim
      | _ => exact (Post.bad.mp h).elim
    | _ => exact (Post.bad.mp h).elim
  · intro h
    refine h.mono ?_
    rintro _ S1 ⟨s, rfl, h⟩
    refine Post.bind.mpr (h.mono ?_)
    rintro y S2 ⟨b, rfl, h1, h2, h⟩
    simp only
    rw [if_pos ⟨h1, h2⟩]
    exact Post.ok.mpr h
theorem w_lenS (h : a.length ≤ 1000000) : Post (bLenS [.str a] S) Q ↔ Q (.int a.length) S := by
  unfold bLenS
  simp only
  rw [if_pos h]
  exact Post.ok
theorem w_lenL : Post (bLenS [.ls xs] S) Q ↔ Q (.int xs.length) S := Post.ok
theorem w_strS : Post (bStrS [.str a] S) Q ↔ Q (.str a) S := Post.ok
theorem log2_small {n : Nat} (h : n < 1000000) : n.log2 < 1920 := by
  by_cases h0 : n = 0
  · rw [h0]; decide
  · exact (Nat.log2_lt h0).mpr (Nat.lt_of_lt_of_le h (Nat.le_trans (show 1000000 ≤ 2 ^ 50 by decide) (Nat.pow_le_pow_right (by decide) (by decide))))
theorem w_strSN {n : Nat} (h : n < 1000000) : Post (bStrS [.int (n : Int)] S) Q ↔ Q (.str (LW.dec n)) S := by
  show Post (bStr [.int (n : Int)] S) Q ↔ _
  unfold bStr
  simp only
  rw [if_pos (by rw [Int.natAbs_natCast]; exact log2_small h)]
  exact Post.ok
theorem w_intSS {n : Int} (h : PySem.intText? a = some n) (hl : a.length ≤ 640) : Post (bIntS [.str a] S) Q ↔ Q (.int n) S := by
  unfold bIntS
  simp only [h]
  rw [if_pos hl]
  exact Post.ok
theorem w_iChs {e : XE} {QI : It → Store → Prop} : Post (iChs e env S) QI ↔ Post (e env S) fun x S => ∃ s, x = .str s ∧ QI (.seq (.ls (signs s))) S := by
  unfold iChs
  rw [Post.bind]
  constructor
  · intro h
    refine h.mono fun x S1 h => ?_
    cases x with
    | str s => exact ⟨s, rfl, Post.ok.mp h⟩
    | _ => exact (Post.bad.mp h).elim
  · intro h
    refine h.mono ?_
    rintro _ S1 ⟨s, rfl, h⟩
    exact Post.ok.mpr h
theorem w_inC {c : Nat} {z : Str} : Post (oInC (.str ⟨#[c]⟩) (.str z) S) Q ↔ Q (.bl (decide (c ∈ z.cps.toList))) S := Post.ok
theorem w_ixC {c : Nat} {z : Str} {i : Int} (h : atI z.cps.toList i = some c) (hl : z.length ≤ 1000000) : Post (oIxC (.str z) (.int i) S) Q ↔ Q (.str ⟨#[c]⟩) S := by
  unfold oIxC
  simp only [h]
  rw [if_pos hl]
  exact Post.ok
theorem w_addS (h : a.length + b.length ≤ 1000000) : Post (oAddS (.str a) (.str b) S) Q ↔ Q (.str (a ++ b)) S := by
  unfold oAddS
  simp only
  rw [if_pos h]
  exact Post.ok
/-- f-strings -/
theorem w_fmtS {m : XE} (h : Post (m env S) fun x S1 => ∃ y : Str, x = .str y ∧ y.length ≤ lim ∧ Q (.str y) S1) : Post (eFmt m env S) Q := by
  unfold eFmt
  rw [Post.bind]
  refine h.mono ?_
  rintro _ S1 ⟨y, rfl, hl, h⟩
  simp only
  rw [if_pos hl]
  exact Post.ok.mpr h
theorem w_fmtN {m : XE} (h : Post (m env S) fun x S1 => ∃ n : Nat, x = .int (n : Int) ∧ n < 1000000 ∧ Q (.str (LW.dec n)) S1) : Post (eFmt m env S) Q := by
  unfold eFmt
  rw [Post.bind]
  refine h.mono ?_
  rintro _ S1 ⟨n, rfl, hl, h⟩
  simp only
  rw [if_pos (by rw [Int.natAbs_natCast]; exact log2_small hl)]
  exact Post.ok.mpr h
theorem w_j0 {acc : Str} : Post (jGo [] acc env S) Q ↔ Q (.str acc) S := Post.ok
theorem w_j1 {m : XE} {ms : List XE} {acc : Str} (h : Post (m env S) fun x S1 => ∃ y : Str, x = .str y ∧ (acc ++ y).length ≤ lim ∧ Post (jGo ms (acc ++ y) env S1) Q) : Post (jGo (m :: ms) acc env S) Q := by
  unfold jGo
  rw [Post.bind]
  refine h.mono ?_
  rintro _ S1 ⟨y, rfl, hl, h⟩
  simp only
  rw [if_pos hl]
  exact h
theorem w_join0 {ms : List XE} : Post (eJoin ms env S) Q ↔ Post (jGo ms Str.empty env S) Q := Iff.rfl
/-- [f(x) for x in xs], long ones too -/
theorem lc_valsL {α : Type} {enc : α → PV} {it : LW.It} {zs : List α} {v : Nat} {e : XE} (f : α → PV) (ha : it.items S = some (zs.map enc)) (hn : zs.length ≤ 100000)
    (he : ∀ z, z ∈ zs → Post (e (env.set v (some (enc z))) S) fun y S' => y = f z ∧ S' = S) (hQ : QA (zs.map f) S) : LcP it (gNm v) bYes e env S QA := by
  refine ⟨zs.map enc, ha, lc_inv (fun i acc S' => i ≤ zs.length ∧ acc = (zs.take i).map f ∧ S' = S) ?_ ?_ _ 0 rfl (Nat.zero_le _) _ _ ⟨Nat.zero_le _, rfl, rfl⟩⟩
  · rintro i acc S' x ⟨hi, rfl, rfl⟩ hx
    refine ⟨ha, ?_⟩
    rw [List.getElem?_map, Option.map_eq_some_iff] at hx
    obtain ⟨b, hb, rfl⟩ := hx
    have hlt := (List.getElem?_eq_some_iff.mp hb).1
    refine w_gNm.mpr (w_yes.mpr ?_)
    rw [if_pos rfl]
    refine (he b (List.mem_of_getElem? hb)).mono ?_
    rintro y S2 ⟨rfl, rfl⟩
    refine ⟨?_, hlt, ?_, rfl⟩
    · rw [List.length_map, List.length_take]
      exact Nat.lt_of_le_of_lt (Nat.le_trans (Nat.min_le_right _ _) hn) (by decide : 100000 < lim)
    · rw [List.take_add_one, hb, List.map_append]
      rfl
  · rintro acc S' ⟨_, rfl, rfl⟩
    rw [List.length_map, List.take_length]
    exact ⟨ha, hQ⟩
theorem w_allL {α : Type} {p : α → Bool} {xs : List α} : Post (bAll [.ls (xs.map fun x => PV.bl (p x))] S) Q ↔ Q (.bl (xs.all p)) S := by
  have e : ∀ xs : List α, bools (xs.map fun x => PV.bl (p x)) = some (xs.map p) := by
    intro xs
    induction xs with
    | nil => rfl
    | cons x r ih =>
      show (bools (r.map fun x => PV.bl (p x))).map (p x :: ·) = _
      rw [ih]
      rfl
  unfold bAll
  show Post (match (some (xs.map fun x => PV.bl (p x))).bind bools with | some ks => R.ok (PV.bl (ks.all id)) S | none => .bad) Q ↔ _
  rw [show (some (xs.map fun x => PV.bl (p x))).bind bools = some (xs.map p) from e xs]
  show Post (R.ok (PV.bl ((xs.map p).all id)) S) Q ↔ _
  rw [Post.ok, List.all_map]
  exact Iff.rfl
end
end

/-! PureTc -/
/-! PureTc: a program's words and lines; what a reader makes of words. -/
section
open PySem L2
def marks (bs : List Nat) : Str := if bs = [] then "-" else Txt.join "" (bs.map dec)
def House.words (h : House) : List Str := ["house", marks h.ins, dec h.out, marks h.kept]
def Row.args : Row → List Nat
  | .put b n => [b, n] | .move a b => [a, b] | .add a b c => [a, b, c] | .take a b c => [a, b, c] | .push b => [b] | .pop b => [b]
  | .say b => [b] | .zero b t => [b, t] | .go t => [t] | .call r => [r] | .back => []
theorem Row.pv_eq (r : Row) : r.pv = .tup (.str r.word :: ivs r.args) := by cases r <;> rfl
inductive Item where
  | house (h : House) | routine (n : Nat) | row (r : Row)
def Item.words : Item → List Str
  | .house h => h.words
  | .routine n => ["routine", dec n]
  | .row r => r.word :: r.args.map dec
def Item.line (i : Item) : Str := Txt.join " " i.words
def Routine.items (r : Routine) : List Item := .routine r.house :: r.rows.map .row
def Prog.items (p : Prog) : List Item := p.houses.map .house ++ p.routines.flatMap Routine.items
def Prog.text (p : Prog) : Str := Txt.join "\n" (p.items.map Item.line)
/-- a word that a program holds: short, no blank, no line end -/
def okW (w : Str) : Bool := decide (w.length ≤ 7) && w.cps.toList.all fun c => decide (33 ≤ c ∧ c < 127)
structure Item.Ok (i : Item) : Prop where
  words : ∀ w ∈ i.words, okW w = true
  some_ : i.words ≠ []
  four : i.words.length ≤ 4
theorem dec_facts {n : Nat} (h : n < 1000) : PySem.intText? (dec n) = some (n : Int) ∧ (1 ≤ (dec n).length ∧ (dec n).length ≤ 3) ∧ (dec n).cps.toList.all figB = true ∧ (dec n = ("0" : Str) ∨ (dec n).cps.toList.head? ≠ some 48) := by
  have h := dec_all n h
  unfold decB at h
  simp only [Bool.and_eq_true, Bool.or_eq_true, beq_iff_eq, decide_eq_true_eq] at h
  exact ⟨h.1.1.1.1, h.1.1.1.2, h.1.1.2, h.1.2⟩
theorem figB_iff {c : Nat} : figB c = true ↔ 48 ≤ c ∧ c ≤ 57 := by
  unfold figB
  rw [decide_eq_true_eq, show ("0123456789" : Str).cps.toList = [48, 49, 50, 51, 52, 53, 54, 55, 56, 57] by decide +kernel]
  simp only [List.mem_cons, List.not_mem_nil, or_false]
  omega
theorem okW_dec {n : Nat} (h : n < 1000) : okW (dec n) = true := by
  obtain ⟨_, h2, h3, _⟩ := dec_facts h
  unfold okW
  rw [Bool.and_eq_true]
  refine ⟨decide_eq_true (by omega), List.all_eq_true.mpr fun c hc => decide_eq_true ?_⟩
  have := figB_iff.mp (List.all_eq_true.mp h3 c hc)
  omega
theorem tl_dec {b : Nat} (h : b < 10) : (dec b).cps.toList = [48 + b] := by
  have := TL.tl_num b
  rw [TL.numL_lt h] at this
  exact this
theorem tl_marks : ∀ (bs : List Nat), (∀ b ∈ bs, b < 10) → (Txt.join "" (bs.map dec)).cps.toList = bs.map (48 + ·) := fun bs h => by
  rw [TL.join_eq]
  have e := TL.tl_join "" (bs.map dec)
  rw [show (TL.tl ("" : Str)) = [] by rfl] at e
  show TL.tl _ = _
  rw [e]
  clear e
  induction bs with
  | nil => rfl
  | cons b r ih =>
    have hb : TL.tl (dec b) = [48 + b] := tl_dec (h b (by simp))
    have ih := ih fun x hx => h x (by simp [hx])
    cases r with
    | nil =>
      show TL.tl (dec b) = _
      rw [hb]
      rfl
    | cons c r =>
      show TL.tl (dec b) ++ ([] ++ TL.joinL [] (((c :: r).map dec).map TL.tl)) = _
      rw [hb, ih]
      rfl
theorem marks_tl {bs : List Nat} (h : Boxes bs) (h0 : bs ≠ []) : (marks bs).cps.toList = bs.map (48 + ·) := by
  unfold marks
  rw [if_neg h0]
  exact tl_marks bs fun b hb => by have := h.2 b hb; omega
theorem okW_marks {bs : List Nat} (h : Boxes bs) : okW (marks bs) = true := by
  by_cases h0 : bs = []
  · subst h0
    decide +kernel
  · have e := marks_tl h h0
    unfold okW
    rw [TL.len_tl]
    show (decide ((marks bs).cps.toList.length ≤ 7) && _) = true
    rw [e, Bool.and_eq_true]
    refine ⟨decide_eq_true ?_, List.all_eq_true.mpr fun c hc => decide_eq_true ?_⟩
    · rw [List.length_map]
      have := h.len
      omega
    · obtain ⟨b, hb, rfl⟩ := List.mem_map.mp hc
      have := h.2 b hb
      omega
theorem okW_word (r : Row) : okW r.word = true := by cases r <;> (simp only [Row.word]; decide +kernel)
theorem Row.args_lt {r : Row} {n m : Nat} (h : r.Ok n m) (hn : n ≤ 1000) (hm : m ≤ 1000) : ∀ a ∈ r.args, a < 1000 := by
  cases r <;> simp only [Row.args, Row.Ok, List.mem_cons, List.not_mem_nil, or_false, forall_eq_or_imp, forall_eq, false_imp_iff, implies_true] at h ⊢ <;> omega
theorem Row.args_len (r : Row) : r.args.length ≤ 3 := by cases r <;> exact Nat.le_of_ble_eq_true rfl
theorem Item.house_ok {h : House} (ho : h.Ok) : (Item.house h).Ok := ⟨fun w hw => by
    simp only [Item.words, House.words, List.mem_cons, List.not_mem_nil, or_false] at hw
    rcases hw with rfl | rfl | rfl | rfl
    · decide +kernel
    · exact okW_marks ho.ins
    · exact okW_dec (by have := ho.out; omega)
    · exact okW_marks ho.kept, List.cons_ne_nil _ _, Nat.le_refl _⟩
theorem Item.routine_ok {n : Nat} (h : n < 1000) : (Item.routine n).Ok := ⟨fun w hw => by
    simp only [Item.words, List.mem_cons, List.not_mem_nil, or_false] at hw
    rcases hw with rfl | rfl
    · decide +kernel
    · exact okW_dec h, List.cons_ne_nil _ _, by show 2 ≤ 4; decide⟩
theorem Item.row_ok {r : Row} (h : ∀ a ∈ r.args, a < 1000) : (Item.row r).Ok := ⟨fun w hw => by
    simp only [Item.words, List.mem_cons, List.mem_map] at hw
    rcases hw with rfl | ⟨a, ha, rfl⟩
    · exact okW_word r
    · exact okW_dec (h a ha), List.cons_ne_nil _ _, by show (r.word :: r.args.map dec).length ≤ 4; rw [List.length_cons, List.length_map]; have := r.args_len; omega⟩
theorem Prog.items_ok {p : Prog} (hp : p.Ok) : ∀ i ∈ p.items, i.Ok := fun i hi => by
  unfold Prog.items at hi
  rcases List.mem_append.mp hi with hi | hi
  · obtain ⟨h, hh, rfl⟩ := List.mem_map.mp hi
    exact Item.house_ok (hp.houses h hh)
  · obtain ⟨r, hr, hi⟩ := List.mem_flatMap.mp hi
    have ro := hp.routines r hr
    have h3 := hp.h3
    have h6 := hp.r6
    unfold Routine.items at hi
    rcases List.mem_cons.mp hi with rfl | hi
    · exact Item.routine_ok (by have := ro.house; omega)
    · obtain ⟨x, hx, rfl⟩ := List.mem_map.mp hi
      exact Item.row_ok (Row.args_lt (ro.rows x hx) (by have := ro.len; omega) (by omega))
/-! lengths, signs of joined texts -/
theorem joinL_mem {S : List Nat} {c : Nat} : ∀ {ps : List (List Nat)}, c ∈ TL.joinL S ps → c ∈ S ∨ ∃ p ∈ ps, c ∈ p
  | [], h => absurd h List.not_mem_nil
  | [p], h => .inr ⟨p, by simp, h⟩
  | p :: q :: r, h => by
    rcases List.mem_append.mp (show c ∈ p ++ (S ++ TL.joinL S (q :: r)) from h) with h | h
    · exact .inr ⟨p, by simp, h⟩
    · rcases List.mem_append.mp h with h | h
      · exact .inl h
      · rcases joinL_mem h with h | ⟨x, hx, h⟩
        · exact .inl h
        · exact .inr ⟨x, List.mem_cons_of_mem _ hx, h⟩
theorem join_mem {s : Str} {ws : List Str} {c : Nat} (h : c ∈ (Txt.join s ws).cps.toList) : c ∈ s.cps.toList ∨ ∃ w ∈ ws, c ∈ w.cps.toList := by
  rw [TL.join_eq, show (Str.join s ws).cps.toList = _ from TL.tl_join s ws] at h
  rcases joinL_mem h with h | ⟨p, hp, h⟩
  · exact .inl h
  · obtain ⟨w, hw, rfl⟩ := List.mem_map.mp hp
    exact .inr ⟨w, hw, h⟩
theorem join_len (s : Str) (ws : List Str) : (Txt.join s ws).length ≤ (ws.map (·.length)).sum + ws.length * s.length := by
  rw [TL.join_eq]
  exact StrLaws.join_length_le s ws
theorem sum_le {ws : List Str} {k : Nat} (h : ∀ w ∈ ws, w.length ≤ k) : (ws.map (·.length)).sum ≤ ws.length * k := by
  induction ws with
  | nil => exact Nat.zero_le _
  | cons w r ih =>
    have h1 := h w (by simp)
    have h2 := ih fun x hx => h x (by simp [hx])
    rw [List.map_cons, List.sum_cons, List.length_cons, Nat.succ_mul]
    omega
theorem okW_len {w : Str} (h : okW w = true) : w.length ≤ 7 := by
  unfold okW at h
  rw [Bool.and_eq_true] at h
  exact of_decide_eq_true h.1
theorem okW_sign {w : Str} (h : okW w = true) {c : Nat} (hc : c ∈ w.cps.toList) : 33 ≤ c ∧ c < 127 := by
  unfold okW at h
  rw [Bool.and_eq_true] at h
  exact of_decide_eq_true (List.all_eq_true.mp h.2 c hc)
theorem Item.line_len {i : Item} (h : i.Ok) : i.line.length ≤ 32 := by
  have h1 := join_len " " i.words
  have h2 := sum_le (ws := i.words) (k := 7) fun w hw => okW_len (h.words w hw)
  have h3 := h.four
  have h4 : (" " : Str).length = 1 := by decide +kernel
  rw [h4] at h1
  show (Txt.join " " i.words).length ≤ 32
  omega
theorem Item.line_sign {i : Item} (h : i.Ok) {c : Nat} (hc : c ∈ i.line.cps.toList) : 32 ≤ c ∧ c < 127 := by
  rcases join_mem hc with hc | ⟨w, hw, hc⟩
  · have : (" " : Str).cps.toList = [32] := by decide +kernel
    rw [this] at hc
    rw [List.mem_singleton.mp hc]
    decide
  · have := okW_sign (h.words w hw) hc
    omega
/-- what was joined comes apart -/
theorem Item.split {i : Item} (h : i.Ok) : Txt.split i.line " " = i.words :=
  TL.split_join (s := 32) (S := []) (by decide +kernel) (by decide +kernel) h.some_ fun w hw hc => by
    have := okW_sign (h.words w hw) hc
    omega
theorem Prog.items_ne {p : Prog} (hp : p.Ok) : p.items ≠ [] := by
  have h1 := hp.h1
  unfold Prog.items
  cases h : p.houses with
  | nil => rw [h] at h1; cases h1
  | cons a r => exact List.cons_ne_nil _ _
theorem Prog.split {p : Prog} (hp : p.Ok) : Txt.split p.text "\n" = p.items.map Item.line :=
  TL.split_join (s := 10) (S := []) (by decide +kernel) (by decide +kernel) (fun e => Prog.items_ne hp (List.map_eq_nil_iff.mp e)) fun l hl hc => by
    obtain ⟨i, hi, rfl⟩ := List.mem_map.mp hl
    have := Item.line_sign (Prog.items_ok hp i hi) hc
    omega
theorem flat_len {α β : Type} {f : α → List β} {k : Nat} : ∀ {xs : List α}, (∀ x ∈ xs, (f x).length ≤ k) → (xs.flatMap f).length ≤ xs.length * k
  | [], _ => Nat.zero_le _
  | x :: r, h => by
    have h1 := h x (by simp)
    have h2 := flat_len (f := f) (xs := r) fun y hy => h y (by simp [hy])
    rw [List.flatMap_cons, List.length_append, List.length_cons, Nat.succ_mul]
    omega
theorem Prog.items_len {p : Prog} (hp : p.Ok) : p.items.length ≤ 201 := by
  have h3 := hp.h3
  have h6 := hp.r6
  have h := flat_len (f := Routine.items) (k := 33) (xs := p.routines) fun r hr => by
    unfold Routine.items
    rw [List.length_cons, List.length_map]
    have := (hp.routines r hr).len
    omega
  unfold Prog.items
  rw [List.length_append, List.length_map]
  omega
theorem lines_sum {is : List Item} (h : ∀ i ∈ is, i.Ok) : ((is.map Item.line).map (·.length)).sum ≤ is.length * 32 := by
  have := sum_le (ws := is.map Item.line) (k := 32) fun w hw => by
    obtain ⟨i, hi, rfl⟩ := List.mem_map.mp hw
    exact Item.line_len (h i hi)
  rw [List.length_map] at this
  exact this
theorem Prog.text_len {p : Prog} (hp : p.Ok) : p.text.length ≤ 10000 := by
  have h1 := join_len "\n" (p.items.map Item.line)
  have h2 := lines_sum (Prog.items_ok hp)
  have h3 := Prog.items_len hp
  have h4 : ("\n" : Str).length = 1 := by decide +kernel
  rw [h4, List.length_map] at h1
  show (Txt.join "\n" (p.items.map Item.line)).length ≤ 10000
  omega
theorem Prog.text_ok {p : Prog} (hp : p.Ok) : PyData.strOk p.text = true := by
  show p.text.cps.all (· < 0x110000) = true
  rw [← Array.all_toList]
  refine List.all_eq_true.mpr fun c hc => decide_eq_true ?_
  rcases join_mem hc with hc | ⟨w, hw, hc⟩
  · have : ("\n" : Str).cps.toList = [10] := by decide +kernel
    rw [this] at hc
    rw [List.mem_singleton.mp hc]
    decide
  · obtain ⟨i, hi, rfl⟩ := List.mem_map.mp hw
    have := Item.line_sign (Prog.items_ok hp i hi) hc
    omega
/-! words as a reader looks at them -/
def figsB (w : Str) : Bool := decide (0 < w.length) && w.cps.toList.all figB
def numB (w : Str) : Bool := figsB w && decide (w.length ≤ 3) && (decide (w = ("0" : Str)) || decide (w.cps.toList.head? ≠ some 48))
def boxB (w : Str) : Bool := decide (w = ("-" : Str)) || figsB w
def numOf (w : Str) : Nat := NumText.digitsVal w.cps.toList
def boxesOf (w : Str) : List Nat := if w = ("-" : Str) then [] else w.cps.toList.map (· - 48)
theorem figs_digits {w : Str} (h : w.cps.toList.all figB = true) : NumText.AllDigits w.cps.toList := fun c hc => figB_iff.mp (List.all_eq_true.mp h c hc)
theorem num_reads {w : Str} (h : figsB w = true) (hl : w.length ≤ 640) : PySem.intText? w = some (numOf w : Int) := by
  unfold figsB at h
  rw [Bool.and_eq_true, decide_eq_true_eq, TL.len_tl] at h
  exact PySem.intText_digits (figs_digits h.2) (List.length_pos_iff.mp h.1) (by omega)
end

/-! PureTd -/
/-! PureTd: a program's text, as the program writes it. -/
section
open PySem L2
theorem w_dec {n : Nat} {S : Store} {Q : PV → Store → Prop} (h : n < 1000000) : Post (bStr [.int (n : Int)] S) Q ↔ Q (.str (dec n)) S := w_str (by rw [Int.natAbs_natCast]; exact log2_small h)
theorem decs_len {bs : List Nat} (h : ∀ b ∈ bs, b < 1000) (hl : bs.length ≤ 1000) (s : Str) (hs : s.length ≤ 1) : ((bs.map dec).map (·.length)).sum + (bs.map dec).length * s.length ≤ 16777216 := by
  have h1 := sum_le (ws := bs.map dec) (k := 3) fun w hw => by
    obtain ⟨b, hb, rfl⟩ := List.mem_map.mp hw
    exact (dec_facts (h b hb)).2.1.2
  rw [List.length_map] at h1 ⊢
  have h2 : bs.length * s.length ≤ bs.length * 1 := Nat.mul_le_mul_left _ hs
  omega
theorem boxes_word_spec (S : Store) (bs : List Nat) (h : Boxes bs) : Post (m_boxes_word [.tup (ivs bs)] S) fun v S' => v = .str (marks bs) ∧ S' = S := by
  have hl := h.len
  unfold m_boxes_word
  refine w_fnP rfl ?_
  ((repeat sizeOf_list_dec) <;> (try dsimp only))
  rw [ivs_length]
  by_cases h0 : bs = []
  · subst h0
    rw [if_pos (by rfl)]
    ((repeat sizeOf_list_dec) <;> (try dsimp only))
    exact (leave_same rfl).mpr ⟨rfl, rfl⟩
  · have hp := List.length_pos_iff.mpr h0
    rw [if_neg (by rw [beq_iff_eq]; omega)]
    ((repeat sizeOf_list_dec) <;> (try dsimp only))
    refine w_joinS.mpr ?_
    ((repeat sizeOf_list_dec) <;> (try dsimp only))
    refine ⟨_, rfl, ?_⟩
    ((repeat sizeOf_list_dec) <;> (try dsimp only))
    refine lc_valsL (enc := fun b : Nat => PV.int (b : Int)) (zs := bs) (fun b : Nat => PV.str (dec b)) (by rfl) (by omega) (fun b hb => ?_) ?_
    · ((repeat sizeOf_list_dec) <;> (try dsimp only))
      refine (w_dec (by have := h.2 b hb; omega)).mpr ⟨rfl, rfl⟩
    · refine ⟨bs.map dec, by rw [List.map_map]; rfl, decs_len (fun b hb => by have := h.2 b hb; omega) (by omega) _ (by decide +kernel), ?_⟩
      refine (leave_same rfl).mpr ⟨?_, rfl⟩
      unfold marks
      rw [if_neg h0]
theorem app_len (a b : Str) : (a ++ b).length = a.length + b.length := by
  show (a.cps ++ b.cps).size = a.cps.size + b.cps.size
  rw [Array.size_append]
theorem empty_app (a : Str) : Str.empty ++ a = a := TL.ext_tl (by rw [TL.tl_append]; rfl)
theorem join_two (s a b : Str) (r : List Str) : Txt.join s (a :: b :: r) = a ++ s ++ Txt.join s (b :: r) := by
  rw [TL.join_eq, TL.join_eq]
  rfl
theorem join_one (s a : Str) : Txt.join s [a] = a := by
  rw [TL.join_eq]
  rfl
theorem app_assoc (a b c : Str) : a ++ b ++ c = a ++ (b ++ c) := TL.ext_tl (by rw [TL.tl_append, TL.tl_append, TL.tl_append, TL.tl_append, List.append_assoc])
theorem marks_len {bs : List Nat} (h : Boxes bs) : (marks bs).length ≤ 7 := okW_len (okW_marks h)
theorem le_lim {n : Nat} (h : n ≤ 1000) : n ≤ lim := Nat.le_trans h (by decide)
theorem house_text (h : House) : (Str.empty ++ "house " ++ marks h.ins ++ " " ++ dec h.out ++ " " ++ marks h.kept : Str) = (Item.house h).line := by
  show _ = Txt.join " " ["house", marks h.ins, dec h.out, marks h.kept]
  rw [join_two, join_two, join_two, join_one, empty_app, show ("house " : Str) = "house" ++ " " by decide +kernel]
  simp only [app_assoc]
theorem house_line_spec (S : Store) (h : House) (ho : h.Ok) : Post (m_house_line [h.pv] S) fun v S' => v = .str (Item.house h).line ∧ S' = S := by
  have l1 := marks_len ho.ins
  have l2 := marks_len ho.kept
  have ho6 := ho.out
  have l3 := okW_len (okW_dec (n := h.out) (by omega))
  have l4 : ("house " : Str).length = 6 := by decide +kernel
  have l5 : (" " : Str).length = 1 := by decide +kernel
  have l6 : (Str.empty : Str).length = 0 := by decide +kernel
  unfold m_house_line
  refine w_fnP rfl ?_
  ((repeat sizeOf_list_dec) <;> (try dsimp only))
  refine w_join0.mpr ?_
  refine w_j1 ?_
  ((repeat sizeOf_list_dec) <;> (try dsimp only))
  refine ⟨_, rfl, le_lim (by rw [app_len]; omega), ?_⟩
  refine w_j1 (w_fmtS ?_)
  ((repeat sizeOf_list_dec) <;> (try dsimp only))
  refine (boxes_word_spec _ _ ho.ins).mono ?_
  rintro _ _ ⟨rfl, rfl⟩
  refine ⟨_, rfl, le_lim (by omega), _, rfl, le_lim (by rw [app_len, app_len]; omega), ?_⟩
  refine w_j1 ?_
  ((repeat sizeOf_list_dec) <;> (try dsimp only))
  refine ⟨_, rfl, le_lim (by rw [app_len, app_len, app_len]; omega), ?_⟩
  refine w_j1 (w_fmtN ?_)
  ((repeat sizeOf_list_dec) <;> (try dsimp only))
  refine ⟨h.out, rfl, by omega, _, rfl, le_lim (by rw [app_len, app_len, app_len, app_len]; omega), ?_⟩
  refine w_j1 ?_
  ((repeat sizeOf_list_dec) <;> (try dsimp only))
  refine ⟨_, rfl, le_lim (by rw [app_len, app_len, app_len, app_len, app_len]; omega), ?_⟩
  refine w_j1 (w_fmtS ?_)
  ((repeat sizeOf_list_dec) <;> (try dsimp only))
  refine (boxes_word_spec _ _ ho.kept).mono ?_
  rintro _ _ ⟨rfl, rfl⟩
  refine ⟨_, rfl, le_lim (by omega), _, rfl, le_lim (by rw [app_len, app_len, app_len, app_len, app_len, app_len]; omega), ?_⟩
  refine w_j0.mpr ?_
  refine (leave_same rfl).mpr ⟨?_, rfl⟩
  rw [house_text]
theorem routine_text (n : Nat) : (Str.empty ++ "routine " ++ dec n : Str) = (Item.routine n).line := by
  show _ = Txt.join " " ["routine", dec n]
  rw [join_two, join_one, empty_app, show ("routine " : Str) = "routine" ++ " " by decide +kernel]
/-- a row's parts with their words -/
def Row.parts (r : Row) : List (PV × Str) := (PV.str r.word, r.word) :: r.args.map fun a => (PV.int (a : Nat), dec a)
theorem Row.parts_pv (r : Row) : r.pv = .tup (r.parts.map Prod.fst) := by
  rw [Row.pv_eq]
  unfold Row.parts
  rw [List.map_cons, List.map_map]
  rfl
theorem Row.parts_words (r : Row) : r.parts.map (fun z => PV.str z.2) = (r.word :: r.args.map dec).map PV.str := by
  unfold Row.parts
  rw [List.map_cons, List.map_cons, List.map_map, List.map_map]
  rfl
theorem words_len {ws : List Str} (h : ∀ w ∈ ws, okW w = true) (h4 : ws.length ≤ 4) (s : Str) (hs : s.length ≤ 1) : (ws.map (·.length)).sum + ws.length * s.length ≤ 16777216 := by
  have h1 := sum_le (k := 7) fun w hw => okW_len (h w hw)
  have h2 : ws.length * s.length ≤ ws.length * 1 := Nat.mul_le_mul_left _ hs
  omega
theorem routine_lines_spec (S : Store) (r : Routine) (hh : r.house < 1000) (ha : ∀ x ∈ r.rows, ∀ a ∈ x.args, a < 1000) (hl : r.rows.length ≤ 900) : Post (m_routine_lines [r.pv] S) fun v S' => v = .ls ((r.items.map Item.line).map .str) ∧ S' = S := by
  have l1 : ("routine " : Str).length = 8 := by decide +kernel
  have l2 := okW_len (okW_dec hh)
  have l6 : (Str.empty : Str).length = 0 := by decide +kernel
  unfold m_routine_lines
  refine w_fnP rfl ?_
  ((repeat sizeOf_list_dec) <;> (try dsimp only))
  refine w_join0.mpr ?_
  refine w_j1 ?_
  ((repeat sizeOf_list_dec) <;> (try dsimp only))
  refine ⟨_, rfl, le_lim (by rw [app_len]; omega), ?_⟩
  refine w_j1 (w_fmtN ?_)
  ((repeat sizeOf_list_dec) <;> (try dsimp only))
  refine ⟨r.house, rfl, by omega, _, rfl, le_lim (by rw [app_len, app_len]; omega), ?_⟩
  refine w_j0.mpr ?_
  ((repeat sizeOf_list_dec) <;> (try dsimp only))
  refine lc_valsL (enc := Row.pv) (zs := r.rows) (fun x : Row => PV.str (Item.row x).line) (by rfl) (by omega) (fun x hx => ?_) ?_
  · refine w_joinS.mpr ?_
    ((repeat sizeOf_list_dec) <;> (try dsimp only))
    refine ⟨_, rfl, ?_⟩
    ((repeat sizeOf_list_dec) <;> (try dsimp only))
    refine lc_valsL (enc := Prod.fst) (zs := x.parts) (fun z : PV × Str => PV.str z.2) (by rw [Row.parts_pv]; rfl) (by unfold Row.parts; rw [List.length_cons, List.length_map]; have := x.args_len; omega) (fun z hz => ?_) ?_
    · unfold Row.parts at hz
      rcases List.mem_cons.mp hz with rfl | hz
      · ((repeat sizeOf_list_dec) <;> (try dsimp only))
        exact w_strS.mpr ⟨rfl, rfl⟩
      · obtain ⟨a, haa, rfl⟩ := List.mem_map.mp hz
        ((repeat sizeOf_list_dec) <;> (try dsimp only))
        exact (w_strSN (by have := ha x hx a haa; omega)).mpr ⟨rfl, rfl⟩
    · have io := Item.row_ok (r := x) (ha x hx)
      exact ⟨x.word :: x.args.map dec, by rw [← Row.parts_words]; rfl, words_len io.words io.four _ (by decide +kernel), rfl, rfl⟩
  · refine (w_addLL ?_).mpr ?_
    · rw [List.length_map]
      exact le_lim (by show 1 + r.rows.length ≤ 1000; omega)
    · refine (leave_same rfl).mpr ⟨?_, rfl⟩
      unfold Routine.items
      rw [routine_text, List.map_cons, List.map_cons, List.map_map, List.map_map]
      rfl
theorem Prog.args_ok {p : Prog} (hp : p.Ok) {r : Routine} (hr : r ∈ p.routines) : ∀ x ∈ r.rows, ∀ a ∈ x.args, a < 1000 := fun x hx => by
  have ro := hp.routines r hr
  have h6 := hp.r6
  exact Row.args_lt (ro.rows x hx) (by have := ro.len; omega) (by omega)
theorem written_spec (S : Store) (hS : LowS S) (p : Prog) (hp : p.Ok) : Post (m_written [p.pv] S) fun v S' => v = .str p.text ∧ S' = S := by
  have h3 := hp.h3
  have h6 := hp.r6
  unfold m_written
  refine w_fnP rfl ?_
  ((repeat sizeOf_list_dec) <;> (try dsimp only))
  refine (check_program_spec _ hS p hp).mono ?_
  rintro _ S ⟨rfl, rfl⟩
  ((repeat sizeOf_list_dec) <;> (try dsimp only))
  refine lc_valsL (enc := House.pv) (zs := p.houses) (fun h : House => PV.str (Item.house h).line) (by rfl) (by omega) (fun h hh => ?_) ?_
  · ((repeat sizeOf_list_dec) <;> (try dsimp only))
    exact house_line_spec _ h (hp.houses h hh)
  · ((repeat sizeOf_list_dec) <;> (try dsimp only))
    refine for_go (all := p.routines.map Routine.pv) (fun i env S' => ∃ x5, S' = S ++ [.lst (((p.houses.map Item.house ++ (p.routines.take i).flatMap Routine.items).map Item.line).map .str)] ∧ env = [some p.pv, some (.tup (p.houses.map House.pv)), some (.tup (p.routines.map Routine.pv)), some (.loc S.length), none, x5]) (by rfl) ⟨none, ?_, rfl⟩ ?_ ?_
    · rw [List.take_zero, List.flatMap_nil, List.append_nil, List.map_map, List.map_map]
      rfl
    · rintro i env S' x ⟨x5, rfl, rfl⟩ hx
      refine ⟨by rfl, ?_⟩
      rw [List.getElem?_map, Option.map_eq_some_iff] at hx
      obtain ⟨r, hr, rfl⟩ := hx
      have hm := List.mem_of_getElem? hr
      have ro := hp.routines r hm
      have hlt := (List.getElem?_eq_some_iff.mp hr).1
      ((repeat sizeOf_list_dec) <;> (try dsimp only))
      refine ⟨_, _, rfl, get_last0, ?_⟩
      ((repeat sizeOf_list_dec) <;> (try dsimp only))
      refine (routine_lines_spec _ r (by have := ro.house; omega) (Prog.args_ok hp hm) (by have := ro.len; omega)).mono ?_
      rintro _ _ ⟨rfl, rfl⟩
      refine (w_mExtend get_last0 rfl ?_).mpr ?_
      · have := flat_len (f := Routine.items) (k := 33) (xs := p.routines.take i) fun r hr => by
          unfold Routine.items
          rw [List.length_cons, List.length_map]
          have := (hp.routines r (List.mem_of_mem_take hr)).len
          omega
        rw [List.length_take] at this
        have hri : r.items.length ≤ 33 := by
          unfold Routine.items
          rw [List.length_cons, List.length_map]
          have := ro.len
          omega
        refine le_lim ?_
        rw [List.length_map, List.length_map, List.length_append, List.length_map, List.length_map, List.length_map]
        omega
      · rw [set_last0]
        refine ⟨_, ?_, rfl⟩
        rw [List.take_add_one, hr, List.flatMap_append, ← List.map_append, ← List.map_append, List.append_assoc]
        show _ = _ ++ [Cell.lst (((p.houses.map Item.house ++ ((p.routines.take i).flatMap Routine.items ++ ([r].flatMap Routine.items))).map Item.line).map .str)]
        rw [List.flatMap_singleton]
    · rintro env S' ⟨x5, rfl, rfl⟩
      refine ⟨by rfl, ?_⟩
      rw [List.length_map, List.take_length]
      ((repeat sizeOf_list_dec) <;> (try dsimp only))
      refine w_joinS.mpr ?_
      ((repeat sizeOf_list_dec) <;> (try dsimp only))
      refine ⟨_, rfl, ?_⟩
      ((repeat sizeOf_list_dec) <;> (try dsimp only))
      refine ⟨p.items.map Item.line, ?_, ?_, ?_⟩
      · show (match (S ++ [_])[S.length]? with | some (.lst xs) => some xs | _ => none) = _
        rw [get_last0]
        rfl
      · have h1 := lines_sum (Prog.items_ok hp)
        have h2 := Prog.items_len hp
        rw [List.length_map, show ("\n" : Str).length = 1 by decide +kernel]
        omega
      · exact (leave_drop hS (by simp) (by rfl)).mpr ⟨rfl, rfl⟩
end

/-! PureTe -/
/-! PureTe: words and lines as the program's reader looks at them. -/
section
open PySem L2
structure WOk (w : Str) : Prop where
  len : w.length ≤ 100000
  ok : PyData.strOk w = true
theorem one_ok {c : Nat} (h : c < 0x110000) : PyData.strOk (⟨#[c]⟩ : Str) = true := by
  show (#[c] : Array Nat).all (· < 0x110000) = true
  rw [← Array.all_toList]
  show (decide (c < 0x110000) && true) = true
  rw [decide_eq_true h]
  rfl
theorem are_figures_spec (S : Store) (w : Str) (hl : w.length ≤ 100000) : Post (m_are_figures [.str w] S) fun v S' => v = .bl (figsB w) ∧ S' = S := by
  unfold m_are_figures
  refine w_fnP rfl ?_
  ((repeat sizeOf_list_dec) <;> (try dsimp only))
  refine (w_lenS (by omega)).mpr ?_
  ((repeat sizeOf_list_dec) <;> (try dsimp only))
  unfold figsB
  by_cases h : 0 < w.length
  · rw [decide_eq_true (show (0 : Int) < (w.length : Int) by omega), decide_eq_true h]
    ((repeat sizeOf_list_dec) <;> (try dsimp only))
    refine w_iChs.mpr ?_
    ((repeat sizeOf_list_dec) <;> (try dsimp only))
    refine ⟨w, rfl, ?_⟩
    refine lc_valsL (enc := fun c : Nat => PV.str ⟨#[c]⟩) (zs := w.cps.toList) (fun c => PV.bl (figB c)) (by rfl) (by rw [TL.len_tl] at hl; exact hl) (fun c hc => ?_) ?_
    · ((repeat sizeOf_list_dec) <;> (try dsimp only))
      exact w_inC.mpr ⟨rfl, rfl⟩
    · ((repeat sizeOf_list_dec) <;> (try dsimp only))
      refine w_allL.mpr ?_
      exact (leave_same rfl).mpr ⟨rfl, rfl⟩
  · rw [decide_eq_false (show ¬ (0 : Int) < (w.length : Int) by omega), decide_eq_false h]
    ((repeat sizeOf_list_dec) <;> (try dsimp only))
    exact (leave_same rfl).mpr ⟨rfl, rfl⟩
theorem is_number_word_spec (S : Store) (w : Str) (h : WOk w) : Post (m_is_number_word [.str w] S) fun v S' => v = .bl (numB w) ∧ S' = S := by
  unfold m_is_number_word
  refine w_fnP rfl ?_
  ((repeat sizeOf_list_dec) <;> (try dsimp only))
  refine (are_figures_spec _ w h.len).mono ?_
  rintro _ S ⟨rfl, rfl⟩
  unfold numB
  cases hf : figsB w with
  | false =>
    ((repeat sizeOf_list_dec) <;> (try dsimp only))
    exact (leave_same rfl).mpr ⟨rfl, rfl⟩
  | true =>
    ((repeat sizeOf_list_dec) <;> (try dsimp only))
    refine (w_lenS (by have := h.len; omega)).mpr ?_
    ((repeat sizeOf_list_dec) <;> (try dsimp only))
    by_cases hl : w.length ≤ 3
    · rw [decide_eq_false (show ¬ (3 : Int) < (w.length : Int) by omega), decide_eq_true hl]
      ((repeat sizeOf_list_dec) <;> (try dsimp only))
      refine (w_eqS h.ok (by decide +kernel)).mpr ?_
      by_cases h0 : w = ("0" : Str)
      · rw [decide_eq_true h0]
        ((repeat sizeOf_list_dec) <;> (try dsimp only))
        exact (leave_same rfl).mpr ⟨rfl, rfl⟩
      · rw [decide_eq_false h0]
        ((repeat sizeOf_list_dec) <;> (try dsimp only))
        unfold figsB at hf
        rw [Bool.and_eq_true, decide_eq_true_eq, TL.len_tl] at hf
        cases e : w.cps.toList with
        | nil => rw [show TL.tl w = [] from e] at hf; exact absurd hf.1 (by decide)
        | cons c r =>
          ((repeat sizeOf_list_dec) <;> (try dsimp only))
          refine (w_ixC (c := c) (by rw [e, show (0 : Int) = ((0 : Nat) : Int) from rfl, L2.atI_nat (j := 0)]; rfl) (by omega)).mpr ?_
          ((repeat sizeOf_list_dec) <;> (try dsimp only))
          have hc : 48 ≤ c ∧ c ≤ 57 := figB_iff.mp (List.all_eq_true.mp hf.2 c (by rw [e]; simp))
          refine (w_neS (one_ok (c := c) (by omega)) (by decide +kernel)).mpr ?_
          refine (leave_same rfl).mpr ⟨?_, rfl⟩
          rw [List.head?_cons, Bool.true_and, Bool.false_or]
          by_cases hc0 : c = 48
          · rw [hc0]
            rfl
          · rw [decide_eq_true (show (some c ≠ some 48) from fun z => hc0 (Option.some.inj z)), decide_eq_false]
            · rfl
            · intro z
              have z2 : [c] = [48] := congrArg (fun s : Str => s.cps.toList) z
              exact hc0 (List.cons.inj z2).1
    · rw [decide_eq_true (show (3 : Int) < (w.length : Int) by omega), decide_eq_false hl]
      ((repeat sizeOf_list_dec) <;> (try dsimp only))
      exact (leave_same rfl).mpr ⟨rfl, rfl⟩
theorem is_boxes_word_spec (S : Store) (w : Str) (h : WOk w) : Post (m_is_boxes_word [.str w] S) fun v S' => v = .bl (boxB w) ∧ S' = S := by
  unfold m_is_boxes_word
  refine w_fnP rfl ?_
  ((repeat sizeOf_list_dec) <;> (try dsimp only))
  refine (w_eqS h.ok (by decide +kernel)).mpr ?_
  unfold boxB
  by_cases h0 : w = ("-" : Str)
  · rw [decide_eq_true h0]
    ((repeat sizeOf_list_dec) <;> (try dsimp only))
    exact (leave_same rfl).mpr ⟨rfl, rfl⟩
  · rw [decide_eq_false h0]
    ((repeat sizeOf_list_dec) <;> (try dsimp only))
    refine (are_figures_spec _ w h.len).mono ?_
    rintro _ S ⟨rfl, rfl⟩
    exact (leave_same rfl).mpr ⟨rfl, rfl⟩
def isHouseB : List Str → Bool
  | [a, b, c, d] => decide (a = ("house" : Str)) && (boxB b && (numB c && boxB d))
  | _ => false
def isRoutineB : List Str → Bool
  | [a, b] => decide (a = ("routine" : Str)) && numB b
  | _ => false
theorem isHouseB_4 {a b c d : Str} : isHouseB [a, b, c, d] = (decide (a = ("house" : Str)) && (boxB b && (numB c && boxB d))) := rfl
theorem isHouseB_ne {ws : List Str} (h : ws.length ≠ 4) : isHouseB ws = false := by
  unfold isHouseB
  split
  · exact absurd rfl h
  · rfl
theorem isRoutineB_2 {a b : Str} : isRoutineB [a, b] = (decide (a = ("routine" : Str)) && numB b) := rfl
theorem isRoutineB_ne {ws : List Str} (h : ws.length ≠ 2) : isRoutineB ws = false := by
  unfold isRoutineB
  split
  · exact absurd rfl h
  · rfl
theorem four_of {α : Type} {ws : List α} (h : ws.length = 4) : ∃ a b c d, ws = [a, b, c, d] := by
  match ws, h with
  | [a, b, c, d], _ => exact ⟨_, _, _, _, rfl⟩
theorem pair_of {α : Type} {ws : List α} (h : ws.length = 2) : ∃ a b, ws = [a, b] := by
  match ws, h with
  | [a, b], _ => exact ⟨_, _, rfl⟩
theorem is_house_line_spec (S : Store) (ws : List Str) (hw : ∀ w ∈ ws, WOk w) : Post (m_is_house_line [.ls (ws.map .str)] S) fun v S' => v = .bl (isHouseB ws) ∧ S' = S := by
  unfold m_is_house_line
  refine w_fnP rfl ?_
  ((repeat sizeOf_list_dec) <;> (try dsimp only))
  rw [List.length_map]
  by_cases h4 : ws.length = 4
  · rw [show ((ws.length : Int) == 4) = true from beq_iff_eq.mpr (by omega)]
    obtain ⟨a, b, c, d, rfl⟩ := four_of h4
    rw [isHouseB_4]
    ((repeat sizeOf_list_dec) <;> (try dsimp only))
    refine (w_neS (hw a (by simp)).ok (by decide +kernel)).mpr ?_
    by_cases ha : a = ("house" : Str)
    · rw [decide_eq_true ha]
      ((repeat sizeOf_list_dec) <;> (try dsimp only))
      refine (is_boxes_word_spec _ b (hw b (by simp))).mono ?_
      rintro _ S ⟨rfl, rfl⟩
      cases hb : boxB b with
      | false =>
        ((repeat sizeOf_list_dec) <;> (try dsimp only))
        exact (leave_same rfl).mpr ⟨rfl, rfl⟩
      | true =>
        ((repeat sizeOf_list_dec) <;> (try dsimp only))
        refine (is_number_word_spec _ c (hw c (by simp))).mono ?_
        rintro _ S ⟨rfl, rfl⟩
        cases hc : numB c with
        | false =>
          ((repeat sizeOf_list_dec) <;> (try dsimp only))
          exact (leave_same rfl).mpr ⟨rfl, rfl⟩
        | true =>
          ((repeat sizeOf_list_dec) <;> (try dsimp only))
          refine (is_boxes_word_spec _ d (hw d (by simp))).mono ?_
          rintro _ S ⟨rfl, rfl⟩
          exact (leave_same rfl).mpr ⟨rfl, rfl⟩
    · rw [decide_eq_false ha]
      ((repeat sizeOf_list_dec) <;> (try dsimp only))
      exact (leave_same rfl).mpr ⟨rfl, rfl⟩
  · rw [show ((ws.length : Int) == 4) = false from beq_eq_false_iff_ne.mpr (by omega), isHouseB_ne h4]
    ((repeat sizeOf_list_dec) <;> (try dsimp only))
    exact (leave_same rfl).mpr ⟨rfl, rfl⟩
theorem is_routine_line_spec (S : Store) (ws : List Str) (hw : ∀ w ∈ ws, WOk w) : Post (m_is_routine_line [.ls (ws.map .str)] S) fun v S' => v = .bl (isRoutineB ws) ∧ S' = S := by
  unfold m_is_routine_line
  refine w_fnP rfl ?_
  ((repeat sizeOf_list_dec) <;> (try dsimp only))
  rw [List.length_map]
  by_cases h2 : ws.length = 2
  · rw [show ((ws.length : Int) == 2) = true from beq_iff_eq.mpr (by omega)]
    obtain ⟨a, b, rfl⟩ := pair_of h2
    rw [isRoutineB_2]
    ((repeat sizeOf_list_dec) <;> (try dsimp only))
    refine (w_eqS (hw a (by simp)).ok (by decide +kernel)).mpr ?_
    by_cases ha : a = ("routine" : Str)
    · rw [decide_eq_true ha]
      ((repeat sizeOf_list_dec) <;> (try dsimp only))
      refine (is_number_word_spec _ b (hw b (by simp))).mono ?_
      rintro _ S ⟨rfl, rfl⟩
      exact (leave_same rfl).mpr ⟨rfl, rfl⟩
    · rw [decide_eq_false ha]
      ((repeat sizeOf_list_dec) <;> (try dsimp only))
      exact (leave_same rfl).mpr ⟨rfl, rfl⟩
  · rw [show ((ws.length : Int) == 2) = false from beq_eq_false_iff_ne.mpr (by omega), isRoutineB_ne h2]
    ((repeat sizeOf_list_dec) <;> (try dsimp only))
    exact (leave_same rfl).mpr ⟨rfl, rfl⟩
/-- how many numbers stand behind a word -/
def formOf (w : Str) : Option Nat := match lookS K_PLACES V_PLACES w with
  | some (.tup ps) => some ps.length
  | _ => none
theorem places (w : Str) : (lookS K_PLACES V_PLACES w = none ∧ formOf w = none) ∨ ∃ ps, lookS K_PLACES V_PLACES w = some (.tup ps) ∧ formOf w = some ps.length ∧ ps.length ≤ 3 := by
  have h : ∀ (ks : List Str) (vs : List PV), (∀ v ∈ vs, ∃ ps, v = .tup ps ∧ ps.length ≤ 3) → lookS ks vs w = none ∨ ∃ ps, lookS ks vs w = some (.tup ps) ∧ ps.length ≤ 3 := by
    intro ks
    induction ks with
    | nil => intro vs _; exact .inl rfl
    | cons k ks ih =>
      intro vs hv
      cases vs with
      | nil => exact .inl rfl
      | cons v vs =>
        show (if k = w then some v else lookS ks vs w) = none ∨ ∃ ps, (if k = w then some v else lookS ks vs w) = some (.tup ps) ∧ ps.length ≤ 3
        by_cases hk : k = w
        · rw [if_pos hk]
          obtain ⟨ps, rfl, hl⟩ := hv v (by simp)
          exact .inr ⟨ps, rfl, hl⟩
        · rw [if_neg hk]
          exact ih vs fun x hx => hv x (by simp [hx])
  unfold formOf
  rcases h K_PLACES V_PLACES (by
    unfold V_PLACES
    intro v hv
    simp only [List.mem_cons, List.not_mem_nil, or_false] at hv
    rcases hv with rfl | rfl | rfl | rfl | rfl | rfl | rfl | rfl | rfl | rfl | rfl <;> exact ⟨_, rfl, Nat.le_of_ble_eq_true rfl⟩) with e | ⟨ps, e, hl⟩
  · exact .inl ⟨e, by rw [e]⟩
  · exact .inr ⟨ps, e, by rw [e], hl⟩
def isRowB : List Str → Bool
  | [] => false
  | w :: r => decide (formOf w = some r.length) && r.all numB
theorem isRowB_cons {w : Str} {r : List Str} : isRowB (w :: r) = (decide (formOf w = some r.length) && r.all numB) := rfl
theorem is_row_line_spec (S : Store) (ws : List Str) (hw : ∀ w ∈ ws, WOk w) (h0 : ws ≠ []) (hn : ws.length ≤ 100000) : Post (m_is_row_line [.ls (ws.map .str)] S) fun v S' => v = .bl (isRowB ws) ∧ S' = S := by
  unfold m_is_row_line
  refine w_fnP rfl ?_
  cases ws with
  | nil => exact absurd rfl h0
  | cons w r =>
    ((repeat sizeOf_list_dec) <;> (try dsimp only))
    refine w_getS.mpr ?_
    ((repeat sizeOf_list_dec) <;> (try dsimp only))
    rcases places w with ⟨e, f⟩ | ⟨ps, e, f, hl⟩
    · rw [e, show (none : Option PV).getD PV.non = PV.non from rfl, show PV.non.isNon = true from rfl]
      ((repeat sizeOf_list_dec) <;> (try dsimp only))
      refine (leave_same rfl).mpr ⟨?_, rfl⟩
      rw [isRowB_cons, f]
      rfl
    · rw [e, show (some (PV.tup ps)).getD PV.non = PV.tup ps from rfl, show (PV.tup ps).isNon = false from rfl]
      ((repeat sizeOf_list_dec) <;> (try dsimp only))
      rw [show ((((w :: r).map PV.str).length : Int) == (ps.length : Int) + 1) = decide (formOf w = some r.length) by
        rw [f, List.length_map, List.length_cons]
        by_cases hq : ps.length = r.length
        · rw [hq, decide_eq_true rfl]
          exact beq_iff_eq.mpr (by omega)
        · rw [decide_eq_false (fun z => hq (Option.some.inj z))]
          exact beq_eq_false_iff_ne.mpr (by omega)]
      rw [isRowB_cons]
      cases hd : decide (formOf w = some r.length) with
      | false =>
        ((repeat sizeOf_list_dec) <;> (try dsimp only))
        exact (leave_same rfl).mpr ⟨rfl, rfl⟩
      | true =>
        ((repeat sizeOf_list_dec) <;> (try dsimp only))
        rw [List.map_cons, cut1]
        rw [List.length_cons] at hn
        refine lc_valsL (enc := PV.str) (zs := r) (fun x => PV.bl (numB x)) (by rfl) (by omega) (fun x hx => ?_) ?_
        · ((repeat sizeOf_list_dec) <;> (try dsimp only))
          exact is_number_word_spec _ x (hw x (by simp [hx]))
        · ((repeat sizeOf_list_dec) <;> (try dsimp only))
          refine w_allL.mpr ?_
          exact (leave_same rfl).mpr ⟨rfl, rfl⟩
theorem digit_reads {c : Nat} (h : figB c = true) : PySem.intText? (⟨#[c]⟩ : Str) = some ((c - 48 : Nat) : Int) := by
  have e := num_reads (w := (⟨#[c]⟩ : Str)) (by
    unfold figsB
    rw [Bool.and_eq_true]
    exact ⟨rfl, by show (figB c && true) = true; rw [h]; rfl⟩) (by show 1 ≤ 640; decide)
  rw [e]
  show some ((0 * 10 + (c - 48) : Nat) : Int) = _
  rw [Nat.zero_mul, Nat.zero_add]
theorem boxes_read_spec (S : Store) (w : Str) (h : WOk w) (hb : boxB w = true) : Post (m_boxes_read [.str w] S) fun v S' => v = .tup (ivs (boxesOf w)) ∧ S' = S := by
  unfold m_boxes_read
  refine w_fnP rfl ?_
  ((repeat sizeOf_list_dec) <;> (try dsimp only))
  refine (w_eqS h.ok (by decide +kernel)).mpr ?_
  unfold boxesOf
  unfold boxB at hb
  by_cases h0 : w = ("-" : Str)
  · rw [decide_eq_true h0, if_pos h0]
    ((repeat sizeOf_list_dec) <;> (try dsimp only))
    exact (leave_same rfl).mpr ⟨rfl, rfl⟩
  · rw [decide_eq_false h0, Bool.false_or] at hb
    unfold figsB at hb
    rw [Bool.and_eq_true] at hb
    rw [decide_eq_false h0, if_neg h0]
    ((repeat sizeOf_list_dec) <;> (try dsimp only))
    refine w_iChs.mpr ?_
    ((repeat sizeOf_list_dec) <;> (try dsimp only))
    refine ⟨w, rfl, ?_⟩
    have hl := h.len
    rw [TL.len_tl] at hl
    refine lc_valsL (enc := fun c : Nat => PV.str ⟨#[c]⟩) (zs := w.cps.toList) (fun c => PV.int ((c - 48 : Nat) : Int)) (by rfl) hl (fun c hc => ?_) ?_
    · ((repeat sizeOf_list_dec) <;> (try dsimp only))
      exact (w_intSS (digit_reads (List.all_eq_true.mp hb.2 c hc)) (by show 1 ≤ 640; decide)).mpr ⟨rfl, rfl⟩
    · ((repeat sizeOf_list_dec) <;> (try dsimp only))
      refine (leave_same rfl).mpr ⟨?_, rfl⟩
      unfold ivs
      rw [List.map_map]
      rfl
theorem numB_figs {w : Str} (h : numB w = true) : figsB w = true ∧ w.length ≤ 3 := by
  unfold numB at h
  simp only [Bool.and_eq_true, decide_eq_true_eq] at h
  exact h.1
theorem w_num {w : Str} {S : Store} {Q : PV → Store → Prop} (h : numB w = true) : Post (bIntS [.str w] S) Q ↔ Q (.int (numOf w)) S := by
  obtain ⟨h1, h2⟩ := numB_figs h
  exact w_intSS (num_reads h1 (by omega)) (by omega)
theorem house_read_spec (S : Store) (a b c d : Str) (hb : WOk b) (hd : WOk d) (h : isHouseB [a, b, c, d] = true) : Post (m_house_read [.ls ([a, b, c, d].map .str)] S) fun v S' => v = House.pv ⟨boxesOf b, numOf c, boxesOf d⟩ ∧ S' = S := by
  unfold isHouseB at h
  simp only [Bool.and_eq_true] at h
  unfold m_house_read
  refine w_fnP rfl ?_
  ((repeat sizeOf_list_dec) <;> (try dsimp only))
  refine (boxes_read_spec _ b hb h.2.1).mono ?_
  rintro _ S ⟨rfl, rfl⟩
  ((repeat sizeOf_list_dec) <;> (try dsimp only))
  refine (w_num h.2.2.1).mpr ?_
  ((repeat sizeOf_list_dec) <;> (try dsimp only))
  refine (boxes_read_spec _ d hd h.2.2.2).mono ?_
  rintro _ S ⟨rfl, rfl⟩
  ((repeat sizeOf_list_dec) <;> (try dsimp only))
  exact (leave_same rfl).mpr ⟨rfl, rfl⟩
theorem row_read_spec (S : Store) (w : Str) (r : List Str) (h : isRowB (w :: r) = true) : Post (m_row_read [.ls ((w :: r).map .str)] S) fun v S' => v = .tup (.str w :: ivs (r.map numOf)) ∧ S' = S := by
  unfold isRowB at h
  rw [Bool.and_eq_true, decide_eq_true_eq] at h
  have hl : r.length ≤ 3 := by
    rcases places w with ⟨_, f⟩ | ⟨ps, _, f, hl⟩
    · rw [f] at h
      cases h.1
    · rw [f] at h
      have := Option.some.inj h.1
      omega
  unfold m_row_read
  refine w_fnP rfl ?_
  ((repeat sizeOf_list_dec) <;> (try dsimp only))
  refine w_aStar.mpr ?_
  ((repeat sizeOf_list_dec) <;> (try dsimp only))
  rw [List.map_cons, cut1]
  refine lc_valsL (enc := PV.str) (zs := r) (fun x => PV.int (numOf x)) (by rfl) (by omega) (fun x hx => ?_) ?_
  · ((repeat sizeOf_list_dec) <;> (try dsimp only))
    exact (w_num (List.all_eq_true.mp h.2 x hx)).mpr ⟨rfl, rfl⟩
  · refine ⟨_, rfl, ?_⟩
    ((repeat sizeOf_list_dec) <;> (try dsimp only))
    refine (w_tupN ?_).mpr ?_
    · simp only [List.length_cons, List.length_append, List.length_map, List.length_nil]
      exact le_lim (by omega)
    · refine (leave_same rfl).mpr ⟨?_, rfl⟩
      unfold ivs
      rw [List.append_nil, List.map_map]
      rfl
end

/-! PureCk1 -/
/-! PureCk1: what says of any boxes, houses and rows whether they are such (k20). -/
section
open PySem L2
/-- all([..]) of a comprehension over up to 100000 values -/
theorem lc_allC {it : It} {all : List PV} {env : LW.Env} {S : Store} {QA : List PV → Store → Prop} {g : XG} {e : XE} (ha : it.items S = some all) (hn : all.length ≤ 100000) (p : PV → Bool)
    (he : ∀ x, x ∈ all → Post (g x env S) fun env' S' => S' = S ∧ Post (e env' S) fun y S'' => y = .bl (p x) ∧ S'' = S) (hQ : QA (all.map fun x => PV.bl (p x)) S) : LcP it g bYes e env S QA := by
  refine ⟨all, ha, lc_inv (fun i acc S' => i ≤ all.length ∧ acc = (all.take i).map (fun x => PV.bl (p x)) ∧ S' = S) ?_ ?_ _ 0 rfl (Nat.zero_le _) _ _ ⟨Nat.zero_le _, rfl, rfl⟩⟩
  · rintro i acc S' x ⟨hi, rfl, rfl⟩ hx
    refine ⟨ha, ?_⟩
    have hlt := (List.getElem?_eq_some_iff.mp hx).1
    refine (he x (List.mem_of_getElem? hx)).mono ?_
    rintro env' S2 ⟨rfl, h2⟩
    refine w_yes.mpr ?_
    rw [if_pos rfl]
    refine h2.mono ?_
    rintro y S3 ⟨rfl, rfl⟩
    refine ⟨?_, hlt, ?_, rfl⟩
    · rw [List.length_map, List.length_take]
      exact Nat.lt_of_le_of_lt (Nat.le_trans (Nat.min_le_right _ _) hn) (by decide : 100000 < lim)
    · rw [List.take_add_one, hx, List.map_append]
      rfl
  · rintro acc S' ⟨_, rfl, rfl⟩
    rw [List.take_length]
    exact ⟨ha, hQ⟩
end
section
open PySem L2
/-- rising boxes -/
def bxB (xs : List Nat) : Bool := (ivs xs).all (isB 6) && (pairs (ivs xs) ((ivs xs).drop 1)).all isUp
theorem bxB_spec (S : Store) (xs : List Nat) (hl : xs.length ≤ 100000) : Post (m_are_rising_boxes [.tup (ivs xs)] S) fun v S' => v = .bl (bxB xs) ∧ S' = S := by
  unfold m_are_rising_boxes
  refine w_fnP rfl ?_
  ((repeat array_mem_dec) <;> (try dsimp only))
  refine lc_allC (all := ivs xs) (by rfl) (by rw [ivs_length]; omega) (isB 6) (fun x hx => ?_) ?_
  · obtain ⟨i, hi, rfl⟩ := ivs_mem hx
    ((repeat array_mem_dec) <;> (try dsimp only))
    refine ⟨by trivial, ?_⟩
    ((repeat array_mem_dec) <;> (try dsimp only))
    exact is_below_spec _ _ _
  · ((repeat array_mem_dec) <;> (try dsimp only))
    refine w_all.mpr ?_
    cases e : (ivs xs).all (isB 6) with
    | false =>
      ((repeat array_mem_dec) <;> (try dsimp only))
      exact (leave_same rfl).mpr ⟨by unfold bxB; rw [e]; rfl, rfl⟩
    | true =>
      ((repeat array_mem_dec) <;> (try dsimp only))
      rw [cut_tail]
      refine lc_allC (all := pairs (ivs xs) ((ivs xs).drop 1)) (by rfl) ?_ isUp (fun x hx => ?_) ?_
      · rw [pairs_length, ivs_length]
        omega
      · obtain ⟨⟨a, b⟩, hab, rfl⟩ := List.mem_map.mp hx
        obtain ⟨i, hi, rfl⟩ := ivs_mem (List.of_mem_zip hab).1
        obtain ⟨j, hj, rfl⟩ := ivs_mem (List.mem_of_mem_drop (List.of_mem_zip hab).2)
        refine (w_gTp rfl rfl).mpr ?_
        ((repeat array_mem_dec) <;> (try dsimp only))
        refine ⟨by trivial, ?_⟩
        ((repeat array_mem_dec) <;> (try dsimp only))
        exact ⟨by trivial, by trivial⟩
      · ((repeat array_mem_dec) <;> (try dsimp only))
        refine w_all.mpr ?_
        ((repeat array_mem_dec) <;> (try dsimp only))
        exact (leave_same rfl).mpr ⟨by unfold bxB; rw [e]; rfl, rfl⟩
theorem ups_of {xs : List Nat} (h : (pairs (ivs xs) ((ivs xs).drop 1)).all isUp = true) : xs.Pairwise (· < ·) := by
  induction xs with
  | nil => exact List.Pairwise.nil
  | cons a r ih =>
    cases r with
    | nil => exact List.pairwise_singleton _ _
    | cons b r =>
      have h : (isUp (.tup [.int a, .int b]) && (pairs (ivs (b :: r)) ((ivs (b :: r)).drop 1)).all isUp) = true := h
      rw [Bool.and_eq_true] at h
      have h2 := ih h.2
      have h3 : (a : Int) < (b : Int) := of_decide_eq_true h.1
      refine List.pairwise_cons.mpr ⟨fun x hx => ?_, h2⟩
      rcases List.mem_cons.mp hx with rfl | hx
      · omega
      · have := (List.pairwise_cons.mp h2).1 x hx
        omega
theorem bxB_ok {xs : List Nat} (h : bxB xs = true) : Boxes xs := by
  unfold bxB at h
  rw [Bool.and_eq_true] at h
  refine ⟨ups_of h.2, fun x hx => ?_⟩
  have := List.all_eq_true.mp h.1 (.int x) (List.mem_map.mpr ⟨x, hx, rfl⟩)
  have h3 : (0 : Int) ≤ x ∧ (x : Int) < 6 := of_decide_eq_true this
  omega
/-- a kept box that is handed in or out -/
def clash (h : House) (x : PV) : Bool := match x with
  | .int i => inSeq (.int i) (ivs h.ins) || i == (h.out : Int)
  | _ => false
theorem clash_int (h : House) (i : Int) : clash h (.int i) = (inSeq (.int i) (ivs h.ins) || i == (h.out : Int)) := rfl
def houseB (h : House) : Bool := bxB h.ins && (decide (h.out < 6) && (bxB h.kept && !(ivs h.kept).any (clash h)))
theorem houseB_spec (S : Store) (h : House) (h1 : h.ins.length ≤ 100000) (h2 : h.kept.length ≤ 100000) : Post (m_is_house [House.pv h] S) fun v S' => v = .bl (houseB h) ∧ S' = S := by
  unfold m_is_house
  refine w_fnP rfl ?_
  ((repeat array_mem_dec) <;> (try dsimp only))
  refine (is_tuple_of_spec _ _ _ _).mono ?_
  rintro _ _ ⟨rfl, rfl⟩
  rw [decide_eq_true (by constructor <;> simp)]
  ((repeat array_mem_dec) <;> (try dsimp only))
  refine (bxB_spec _ _ h1).mono ?_
  rintro _ _ ⟨rfl, rfl⟩
  cases e1 : bxB h.ins with
  | false =>
    ((repeat array_mem_dec) <;> (try dsimp only))
    rw [if_pos trivial]
    ((repeat array_mem_dec) <;> (try dsimp only))
    exact (leave_same rfl).mpr ⟨by unfold houseB; rw [e1]; rfl, rfl⟩
  | true =>
    ((repeat array_mem_dec) <;> (try dsimp only))
    refine (is_below_spec _ _ _).mono ?_
    rintro _ _ ⟨rfl, rfl⟩
    by_cases e2 : h.out < 6
    · rw [decide_eq_true (by omega)]
      ((repeat array_mem_dec) <;> (try dsimp only))
      refine (bxB_spec _ _ h2).mono ?_
      rintro _ _ ⟨rfl, rfl⟩
      cases e3 : bxB h.kept with
      | false =>
        ((repeat array_mem_dec) <;> (try dsimp only))
        exact (leave_same rfl).mpr ⟨by unfold houseB; rw [e1, e3, decide_eq_true e2]; rfl, rfl⟩
      | true =>
        ((repeat array_mem_dec) <;> (try dsimp only))
        refine lc_allC (all := ivs h.kept) (by rfl) (by rw [ivs_length]; omega) (clash h) (fun x hx => ?_) ?_
        · obtain ⟨i, hi, rfl⟩ := ivs_mem hx
          ((repeat array_mem_dec) <;> (try dsimp only))
          refine ⟨by trivial, ?_⟩
          ((repeat array_mem_dec) <;> (try dsimp only))
          refine (w_in rfl rfl (flat_ivs _)).mpr ?_
          cases e4 : inSeq (.int i) (ivs h.ins) with
          | false =>
            ((repeat array_mem_dec) <;> (try dsimp only))
            exact ⟨by rw [clash_int, e4]; rfl, by trivial⟩
          | true =>
            ((repeat array_mem_dec) <;> (try dsimp only))
            exact ⟨by rw [clash_int, e4]; rfl, by trivial⟩
        · ((repeat array_mem_dec) <;> (try dsimp only))
          refine w_any.mpr ?_
          cases e5 : (ivs h.kept).any (clash h) with
          | false =>
            ((repeat array_mem_dec) <;> (try dsimp only))
            exact (leave_same rfl).mpr ⟨by unfold houseB; rw [e1, e3, e5, decide_eq_true e2]; rfl, rfl⟩
          | true =>
            ((repeat array_mem_dec) <;> (try dsimp only))
            exact (leave_same rfl).mpr ⟨by unfold houseB; rw [e1, e3, e5, decide_eq_true e2]; rfl, rfl⟩
    · rw [decide_eq_false (by omega)]
      ((repeat array_mem_dec) <;> (try dsimp only))
      rw [if_pos trivial]
      ((repeat array_mem_dec) <;> (try dsimp only))
      exact (leave_same rfl).mpr ⟨by unfold houseB; rw [e1, decide_eq_false e2]; rfl, rfl⟩
theorem houseB_ok {h : House} (e : houseB h = true) : h.Ok := by
  unfold houseB at e
  simp only [Bool.and_eq_true] at e
  obtain ⟨e1, e2, e3, e4⟩ := e
  refine ⟨bxB_ok e1, of_decide_eq_true e2, bxB_ok e3, fun i hi => ?_⟩
  have e5 : (ivs h.kept).any (clash h) = false := by simpa using e4
  have e6 := List.any_eq_false.mp e5 (.int i) (List.mem_map.mpr ⟨i, hi, rfl⟩)
  rw [clash_int, inSeq_ivs] at e6
  simp only [Bool.or_eq_true, not_or, Bool.not_eq_true] at e6
  refine ⟨fun z => ?_, fun z => ?_⟩
  · rw [List.contains_iff_mem.mpr z] at e6
    exact Bool.noConfusion e6.1
  · have := beq_eq_false_iff_ne.mp e6.2
    omega
end

/-! PureCk2 -/
/-! PureCk2: what says of any row whether it is one (k20). -/
section
open PySem L2
def fitP (rows routines : Nat) : PV → Bool
  | .tup [.int i, .str k] => match limOf rows routines k with
    | some (.int n) => decide (0 ≤ i ∧ i < n)
    | _ => false
  | _ => false
theorem is_row_b (S : Store) (l rows routines : Nat) (w : Str) (vs ps : List PV) (hl : S[l]? = some (lims rows routines)) (hp : lookS K_PLACES V_PLACES w = some (.tup ps)) (hn : vs.length = ps.length) (hn3 : vs.length ≤ 3)
    (hf : ∀ x ∈ pairs vs ps, ∃ (i n : Int) (k : Str), x = .tup [.int i, .str k] ∧ limOf rows routines k = some (.int n)) : Post (m_is_row [.tup (.str w :: vs), .loc l] S) fun v S' => v = .bl ((pairs vs ps).all (fitP rows routines)) ∧ S' = S := by
  unfold m_is_row
  refine w_fnP rfl ?_
  ((repeat array_mem_dec) <;> (try dsimp only))
  rw [beq_eq_false_iff_ne.mpr (by rw [List.length_cons]; omega : ((PV.str w :: vs).length : Int) ≠ 0)]
  ((repeat array_mem_dec) <;> (try dsimp only))
  refine w_getS.mpr ?_
  ((repeat array_mem_dec) <;> (try dsimp only))
  rw [hp, show (some (PV.tup ps)).getD PV.non = PV.tup ps from rfl, show (PV.tup ps).isNon = false from rfl]
  ((repeat array_mem_dec) <;> (try dsimp only))
  rw [show ((((PV.str w :: vs).length : Int)) == (ps.length : Int) + 1) = true from beq_iff_eq.mpr (by rw [List.length_cons]; omega)]
  ((repeat array_mem_dec) <;> (try dsimp only))
  rw [cut1]
  refine lc_all (all := pairs vs ps) (by rfl) (by rw [pairs_length]; omega) (fitP rows routines) (fun x hx => ?_) ?_
  · obtain ⟨j, n, k, rfl, hk⟩ := hf x hx
    refine (w_gTp (xs := [.int j, .str k]) (by rfl) (by rfl)).mpr ?_
    ((repeat array_mem_dec) <;> (try dsimp only))
    refine ⟨by trivial, ?_⟩
    ((repeat array_mem_dec) <;> (try dsimp only))
    refine (w_ixS (show dksOf S (.loc l) = some _ by unfold dksOf; simp only [hl]; rfl) hk).mpr ?_
    ((repeat array_mem_dec) <;> (try dsimp only))
    refine (is_below_spec _ _ _).mono ?_
    rintro _ _ ⟨rfl, rfl⟩
    exact ⟨by show _ = PV.bl (match limOf rows routines k with | some (.int n) => decide (0 ≤ j ∧ j < n) | _ => false); rw [hk], rfl⟩
  · ((repeat array_mem_dec) <;> (try dsimp only))
    refine w_all.mpr ?_
    exact (leave_same rfl).mpr ⟨rfl, rfl⟩
theorem fit_nil {a b : Nat} : (pairs [] []).all (fitP a b) = true := rfl
theorem fit_cons {a b : Nat} {v p : PV} {vs ps : List PV} : (pairs (v :: vs) (p :: ps)).all (fitP a b) = (fitP a b (.tup [v, p]) && (pairs vs ps).all (fitP a b)) := rfl
theorem fit_lt (i n : Nat) : decide (0 ≤ (i : Int) ∧ (i : Int) < (n : Int)) = decide (i < n) := by
  by_cases h : i < n
  · rw [decide_eq_true h, decide_eq_true (by omega)]
  · rw [decide_eq_false h, decide_eq_false (by omega)]
theorem fit_box {a b i : Nat} : fitP a b (.tup [.int i, .str "box"]) = decide (i < 6) := fit_lt i 6
theorem fit_num {a b i : Nat} : fitP a b (.tup [.int i, .str "number"]) = decide (i < 1000) := fit_lt i 1000
theorem fit_row {a b i : Nat} : fitP a b (.tup [.int i, .str "row"]) = decide (i < a) := fit_lt i a
theorem fit_rou {a b i : Nat} : fitP a b (.tup [.int i, .str "routine"]) = decide (i < b) := fit_lt i b
def fitB (rows routines : Nat) : Row → Bool
  | .put b n => decide (b < 6) && (decide (n < 1000) && true)
  | .move a b => decide (a < 6) && (decide (b < 6) && true)
  | .add a b c => decide (a < 6) && (decide (b < 6) && (decide (c < 6) && true))
  | .take a b c => decide (a < 6) && (decide (b < 6) && (decide (c < 6) && true))
  | .push b => decide (b < 6) && true
  | .pop b => decide (b < 6) && true
  | .say b => decide (b < 6) && true
  | .zero b t => decide (b < 6) && (decide (t < rows) && true)
  | .go t => decide (t < rows) && true
  | .call r => decide (r < routines) && true
  | .back => true
theorem fitB_ok {rows routines : Nat} {r : Row} (h : fitB rows routines r = true) : r.Ok rows routines := by
  cases r <;> simp only [fitB, Bool.and_eq_true, decide_eq_true_eq, and_true] at h <;> first | exact h | trivial
theorem at0 {rows routines : Nat} : ∀ x ∈ pairs [] [], ∃ (i n : Int) (k : Str), x = .tup [.int i, .str k] ∧ limOf rows routines k = some (.int n) := fun x h => by cases h
theorem at1 {rows routines : Nat} {i n : Int} {k : Str} {vs ps : List PV} (h : limOf rows routines k = some (.int n)) (r : ∀ x ∈ pairs vs ps, ∃ (i n : Int) (k : Str), x = .tup [.int i, .str k] ∧ limOf rows routines k = some (.int n)) :
    ∀ x ∈ pairs (.int i :: vs) (.str k :: ps), ∃ (i n : Int) (k : Str), x = .tup [.int i, .str k] ∧ limOf rows routines k = some (.int n) := fun x hx => by
  rcases List.mem_cons.mp (show x ∈ PV.tup [.int i, .str k] :: pairs vs ps from hx) with rfl | hx
  · exact ⟨i, n, k, rfl, h⟩
  · exact r x hx
theorem fitB_spec (S : Store) (l rows routines : Nat) (hl : S[l]? = some (lims rows routines)) (r : Row) : Post (m_is_row [r.pv, .loc l] S) fun v S' => v = .bl (fitB rows routines r) ∧ S' = S := by
  have hb : limOf rows routines "box" = some (.int 6) := by rfl
  have hn : limOf rows routines "number" = some (.int 1000) := by rfl
  have hr : limOf rows routines "row" = some (.int rows) := by rfl
  have ho : limOf rows routines "routine" = some (.int routines) := by rfl
  cases r with
  | put b n => exact (is_row_b S l rows routines "put" [.int b, .int n] [.str "box", .str "number"] hl (by decide +kernel) rfl (Nat.le_of_ble_eq_true rfl) (at1 hb (at1 hn at0))).mono fun v S' (h : _ ∧ _) => ⟨by rw [h.1, fit_cons, fit_cons, fit_nil, fit_box, fit_num]; rfl, h.2⟩
  | move a b => exact (is_row_b S l rows routines "move" [.int a, .int b] [.str "box", .str "box"] hl (by decide +kernel) rfl (Nat.le_of_ble_eq_true rfl) (at1 hb (at1 hb at0))).mono fun v S' (h : _ ∧ _) => ⟨by rw [h.1, fit_cons, fit_cons, fit_nil, fit_box, fit_box]; rfl, h.2⟩
  | add a b c => exact (is_row_b S l rows routines "add" [.int a, .int b, .int c] [.str "box", .str "box", .str "box"] hl (by decide +kernel) rfl (Nat.le_of_ble_eq_true rfl) (at1 hb (at1 hb (at1 hb at0)))).mono fun v S' (h : _ ∧ _) => ⟨by rw [h.1, fit_cons, fit_cons, fit_cons, fit_nil, fit_box, fit_box, fit_box]; rfl, h.2⟩
  | take a b c => exact (is_row_b S l rows routines "take" [.int a, .int b, .int c] [.str "box", .str "box", .str "box"] hl (by decide +kernel) rfl (Nat.le_of_ble_eq_true rfl) (at1 hb (at1 hb (at1 hb at0)))).mono fun v S' (h : _ ∧ _) => ⟨by rw [h.1, fit_cons, fit_cons, fit_cons, fit_nil, fit_box, fit_box, fit_box]; rfl, h.2⟩
  | push b => exact (is_row_b S l rows routines "push" [.int b] [.str "box"] hl (by decide +kernel) rfl (Nat.le_of_ble_eq_true rfl) (at1 hb at0)).mono fun v S' (h : _ ∧ _) => ⟨by rw [h.1, fit_cons, fit_nil, fit_box]; rfl, h.2⟩
  | pop b => exact (is_row_b S l rows routines "pop" [.int b] [.str "box"] hl (by decide +kernel) rfl (Nat.le_of_ble_eq_true rfl) (at1 hb at0)).mono fun v S' (h : _ ∧ _) => ⟨by rw [h.1, fit_cons, fit_nil, fit_box]; rfl, h.2⟩
  | say b => exact (is_row_b S l rows routines "say" [.int b] [.str "box"] hl (by decide +kernel) rfl (Nat.le_of_ble_eq_true rfl) (at1 hb at0)).mono fun v S' (h : _ ∧ _) => ⟨by rw [h.1, fit_cons, fit_nil, fit_box]; rfl, h.2⟩
  | zero b t => exact (is_row_b S l rows routines "zero" [.int b, .int t] [.str "box", .str "row"] hl (by decide +kernel) rfl (Nat.le_of_ble_eq_true rfl) (at1 hb (at1 hr at0))).mono fun v S' (h : _ ∧ _) => ⟨by rw [h.1, fit_cons, fit_cons, fit_nil, fit_box, fit_row]; rfl, h.2⟩
  | go t => exact (is_row_b S l rows routines "go" [.int t] [.str "row"] hl (by decide +kernel) rfl (Nat.le_of_ble_eq_true rfl) (at1 hr at0)).mono fun v S' (h : _ ∧ _) => ⟨by rw [h.1, fit_cons, fit_nil, fit_row]; rfl, h.2⟩
  | call t => exact (is_row_b S l rows routines "call" [.int t] [.str "routine"] hl (by decide +kernel) rfl (Nat.le_of_ble_eq_true rfl) (at1 ho at0)).mono fun v S' (h : _ ∧ _) => ⟨by rw [h.1, fit_cons, fit_nil, fit_rou]; rfl, h.2⟩
  | back => exact (is_row_b S l rows routines "back" [] [] hl (by decide +kernel) rfl (Nat.le_of_ble_eq_true rfl) at0).mono fun v S' (h : _ ∧ _) => ⟨by rw [h.1, fit_nil]; rfl, h.2⟩
end

/-! PureEx -/
/-! PureEx: what lets an error out; f-strings; the word of an error's class. -/
section
open PySem L2
structure PostX {α : Type} (r : R α) (E : PExc → Store → Prop) : Prop where
  told : match r with
    | .exc e S => E e S
    | _ => False
section
variable {α β : Type} {S : Store} {env : Env} {E : PExc → Store → Prop} {Q : PV → Store → Prop}
theorem PostX.exc {e : PExc} : PostX (.exc e S : R α) E ↔ E e S := ⟨fun h => h.told, fun h => ⟨h⟩⟩
theorem PostX.mono {r : R α} {E' : PExc → Store → Prop} (h : PostX r E) (m : ∀ e S, E e S → E' e S) : PostX r E' := by
  cases r with
  | ok a S => exact h.told.elim
  | exc e S => exact ⟨m e S h.told⟩
  | bad => exact h.told.elim
/-! f-strings whose text nobody asks for -/
theorem str_app (a b : Str) : (a ++ b).length = a.length + b.length := by
  show (a.cps ++ b.cps).size = a.cps.size + b.cps.size
  rw [Array.size_append]
end
end

/-! PureCk3 -/
/-! PureCk3: what ends well or lets something out; check_houses of any houses (k20). -/
section
open PySem L2
/-- it ends so, or lets so much out -/
structure PostC {α : Type} (r : R α) (Q : α → Store → Prop) (E : PExc → Store → Prop) : Prop where
  told : match r with
    | .ok a S => Q a S
    | .exc e S => E e S
    | .bad => False
section
variable {α β : Type} {S : Store} {env : Env} {E : PExc → Store → Prop}
theorem PostC.post {r : R α} {Q : α → Store → Prop} (h : Post r Q) : PostC r Q E := by
  obtain ⟨a, S, e, h⟩ := h.out
  rw [e]
  exact ⟨h⟩
theorem PostC.mono {r : R α} {Q Q' : α → Store → Prop} {E' : PExc → Store → Prop} (h : PostC r Q E) (m : ∀ a S, Q a S → Q' a S) (n : ∀ e S, E e S → E' e S) : PostC r Q' E' := by
  cases r with
  | ok a S => exact ⟨m a S h.told⟩
  | exc e S => exact ⟨n e S h.told⟩
  | bad => exact h.told.elim
theorem PostC.bind {r : R α} {f : α → Store → R β} {Q : β → Store → Prop} (h : PostC r (fun a S => PostC (f a S) Q E) E) : PostC (r.bind f) Q E := by
  cases r with
  | ok a S => exact h.told
  | exc e S => exact ⟨h.told⟩
  | bad => exact h.told.elim
theorem PostC.bindP {r : R α} {f : α → Store → R β} {Q : β → Store → Prop} (h : Post r fun a S => PostC (f a S) Q E) : PostC (r.bind f) Q E := PostC.bind (PostC.post h)
theorem c_seq {a b : XS} {Q : Fl × Env → Store → Prop} (h : PostC (a env S) (fun p S => p.1 = .nx ∧ PostC (b p.2 S) Q E) E) : PostC (sSeq a b env S) Q E := by
  unfold sSeq
  refine PostC.bind (h.mono ?_ fun _ _ h => h)
  rintro ⟨f, env⟩ S ⟨h1, h2⟩
  have h1 : f = .nx := h1
  rw [h1]
  exact h2
theorem c_if {c : XB} {a b : XS} {Q : Fl × Env → Store → Prop} (h : Post (c env S) fun k S => if k = true then PostC (a env S) Q E else PostC (b env S) Q E) : PostC (sIf c a b env S) Q E := by
  unfold sIf
  refine PostC.bindP (h.mono fun k S h => ?_)
  split <;> simp_all
theorem c_nil {Q : Fl × Env → Store → Prop} (h : Q (.nx, env) S) : PostC (sNil env S) Q E := ⟨h⟩
theorem c_drop {e : XE} {Q : Fl × Env → Store → Prop} (h : PostC (e env S) (fun _ S => Q (.nx, env) S) E) : PostC (sDrop e env S) Q E := PostC.bind (h.mono (fun _ _ h => ⟨h⟩) fun _ _ h => h)
theorem c_call {f : XF} {a : XA} {Q : PV → Store → Prop} (h : Post (a env S) fun xs S => PostC (f xs S) Q E) : PostC (eCall f a env S) Q E := PostC.bindP h
theorem c_raiseO {c : Str} {parts : List (Sum Str Nat)} {fs : List Str} {ma : XA} {Q : Fl × Env → Store → Prop} (h : Post (ma env S) fun xs S => xs.length = fs.length ∧ (jTx parts Str.empty xs).isSome = true ∧ E ⟨c, (fs.zip xs).reverse⟩ S) : PostC (sRaiseO c parts fs ma env S) Q E := by
  unfold sRaiseO
  refine PostC.bindP (h.mono fun xs S h => ?_)
  rw [if_pos ⟨h.1, h.2.1⟩]
  exact ⟨h.2.2⟩
theorem c_fnP {np many : Nat} {b : XS} {args : List PV} {Q : PV → Store → Prop} (hl : args.length = np) (h : PostC (b (args.map some ++ List.replicate (many - args.length) none) S) (fun p S' => p.1 = .nx ∧ Post (leave S.length .non S') Q) E) : PostC (fnP np many b args S) Q E := by
  unfold fnP
  rw [if_pos hl]
  refine PostC.bind (h.mono ?_ fun _ _ h => h)
  rintro ⟨f, env⟩ S' ⟨h1, h2⟩
  have h1 : f = .nx := h1
  rw [h1]
  exact PostC.post h2
theorem c_forgo {it : It} {all : List PV} {g : XG} {b : XS} {Q : Fl × Env → Store → Prop} (I : Nat → Env → Store → Prop)
    (h : ∀ i env S x, I i env S → all[i]? = some x → it.items S = some all ∧ Post (g x env S) fun env S => PostC (b env S) (fun p S => p.1 = .nx ∧ I (i + 1) p.2 S) E)
    (he : ∀ env S, I all.length env S → it.items S = some all ∧ Q (.nx, env) S) : ∀ (r : List PV) (i : Nat), all.drop i = r → i ≤ all.length → ∀ env S, I i env S → PostC (forGo it all g b r env S) Q E
  | [], i, hr, hi, env, S, hI => by
    have e : i = all.length := by
      have := congrArg List.length hr
      simp at this
      omega
    subst e
    obtain ⟨h1, h2⟩ := he env S hI
    unfold forGo
    rw [if_pos h1]
    exact ⟨h2⟩
  | x :: r, i, hr, hi, env, S, hI => by
    have hlt : i < all.length := by
      have := congrArg List.length hr
      simp at this
      omega
    have hx : all[i]? = some x := by
      have := List.getElem?_drop (xs := all) (i := i) (j := 0)
      rw [hr] at this
      simpa using this.symm
    have hr2 : all.drop (i + 1) = r := by
      rw [← List.drop_drop, hr]
      rfl
    obtain ⟨h1, h2⟩ := h i env S x hI hx
    unfold forGo
    rw [if_pos h1]
    refine PostC.bindP (h2.mono fun env S h3 => PostC.bind (h3.mono ?_ fun _ _ h => h))
    rintro ⟨f, env2⟩ S2 ⟨h4, h5⟩
    have h4 : f = .nx := h4
    rw [h4]
    exact c_forgo I h he r (i + 1) hr2 hlt _ _ h5
theorem c_for {i : XI} {g : XG} {b : XS} {Q : Fl × Env → Store → Prop} (all : List PV) (I : Nat → Env → Store → Prop) (hi : Post (i env S) fun it S => it.items S = some all ∧ I 0 env S ∧
      (∀ i env S x, I i env S → all[i]? = some x → it.items S = some all ∧ Post (g x env S) fun env S => PostC (b env S) (fun p S => p.1 = .nx ∧ I (i + 1) p.2 S) E) ∧
      ∀ env S, I all.length env S → it.items S = some all ∧ Q (.nx, env) S) : PostC (sFor i g b env S) Q E := by
  unfold sFor
  refine PostC.bindP (hi.mono fun it S h => ?_)
  rw [h.1]
  exact c_forgo I h.2.2.1 h.2.2.2 all 0 rfl (Nat.zero_le _) _ _ h.2.1
end
end
section
open PySem L2
def badProg (w : Str) (n k : Int) : PExc := ⟨"BadProgram", ((["word", "number", "row"] : List Str).zip [.str w, .int n, .int k]).reverse⟩
theorem prog_text (w : Str) (n k : Int) (hw : w.length ≤ 100) (hn : n.natAbs < 10 ^ 15) (hk : k.natAbs < 10 ^ 15) : (jTx progParts Str.empty [.str w, .int n, .int k]).isSome = true := by
  have small : ∀ i : Int, i.natAbs < 10 ^ 15 → i.natAbs.log2 < 1920 ∧ (Str.ofString (toString i)).length ≤ 16 := fun i hi => by
    refine ⟨?_, ?_⟩
    · by_cases h0 : i.natAbs = 0
      · rw [h0]; decide
      · exact (Nat.log2_lt h0).mpr (Nat.lt_of_lt_of_le hi (Nat.le_trans (show 10 ^ 15 ≤ 2 ^ 50 by decide) (Nat.pow_le_pow_right (by decide) (by decide))))
    · rw [PyProof.Rows.ofString_length]
      exact PySem.int_text_length_le10 (k := 15) (by decide) hi
  have hl : lim = 1000000 := rfl
  obtain ⟨n1, n2⟩ := small n hn
  obtain ⟨k1, k2⟩ := small k hk
  have e1 : (Str.empty ++ ("no program: " : Str)).length = 12 := by decide +kernel
  have e2 : (" " : Str).length = 1 := by decide +kernel
  have e3 : (", row " : Str).length = 6 := by decide +kernel
  have a1 := str_app (Str.empty ++ ("no program: " : Str)) w
  have a2 := str_app (Str.empty ++ ("no program: " : Str) ++ w) " "
  have a3 := str_app (Str.empty ++ ("no program: " : Str) ++ w ++ " ") (Str.ofString (toString n))
  have a4 := str_app (Str.empty ++ ("no program: " : Str) ++ w ++ " " ++ Str.ofString (toString n)) ", row "
  have a5 := str_app (Str.empty ++ ("no program: " : Str) ++ w ++ " " ++ Str.ofString (toString n) ++ ", row ") (Str.ofString (toString k))
  unfold progParts
  simp only [jTx, List.getElem?_cons_zero, List.getElem?_cons_succ]
  rw [if_pos (by omega), if_pos (by omega), if_pos (by omega), if_pos ⟨n1, by omega⟩, if_pos (by omega), if_pos ⟨k1, by omega⟩]
  rfl
/-- the first that is no house -/
def hsC : Nat → List House → Option PExc
  | _, [] => none
  | i, h :: r => if houseB h = true then hsC (i + 1) r else some (badProg "house" i (-1))
def housesC (hs : List House) : Option PExc := if 1 ≤ hs.length ∧ hs.length ≤ 3 then hsC 0 hs else some (badProg "houses" 0 (-1))
/-- ends with nothing told, or lets c out -/
def Ends (c : Option PExc) (r : R PV) (S : Store) : Prop := PostC r (fun v S' => c = none ∧ v = .non ∧ S' = S) fun e S' => c = some e ∧ ∃ B, S' = S ++ B ∧ B.all (Cell.low 0) = true
theorem housesC_spec (S : Store) (hs : List House) (hb : ∀ h ∈ hs, h.ins.length ≤ 100000 ∧ h.kept.length ≤ 100000) : Ends (housesC hs) (m_check_houses [.tup (hs.map House.pv)] S) S := by
  unfold Ends m_check_houses
  refine c_fnP rfl (c_seq (c_if ?_))
  ((repeat array_mem_dec) <;> (try dsimp only))
  refine (is_tuple_of_spec _ _ _ _).mono ?_
  rintro _ S ⟨rfl, rfl⟩
  rw [List.length_map]
  by_cases hc : 1 ≤ hs.length ∧ hs.length ≤ 3
  · rw [decide_eq_true (by omega)]
    ((repeat array_mem_dec) <;> (try dsimp only))
    refine c_nil ⟨rfl, ?_⟩
    have hd : housesC hs = hsC 0 hs := if_pos hc
    refine c_for (pairs (upto 0 (hs.map House.pv).length) (hs.map House.pv)) (fun i env S' => S' = S ∧ (∃ a b, env = [some (.tup (hs.map House.pv)), a, b]) ∧ housesC hs = hsC i (hs.drop i)) ?_
    ((repeat array_mem_dec) <;> (try dsimp only))
    refine ⟨by rfl, ⟨by trivial, ⟨none, none, rfl⟩, hd⟩, ?_, ?_⟩
    · rintro i env S' x ⟨rfl, ⟨a, b, rfl⟩, hd⟩ hx
      obtain ⟨x, y, hx1, hy, rfl⟩ := pairs_at hx
      refine ⟨by rfl, ?_⟩
      rw [List.getElem?_map] at hy
      cases hh : hs[i]? with
      | none => rw [hh] at hy; cases hy
      | some h =>
        rw [hh] at hy
        cases hy
        have hlt := (List.getElem?_eq_some_iff.mp hh).1
        have hlt2 : i < (upto 0 (hs.map House.pv).length).length := (List.getElem?_eq_some_iff.mp hx1).1
        rw [upto_length] at hlt2
        rw [upto_get hlt2] at hx1
        cases hx1
        have hdr : hs.drop i = h :: hs.drop (i + 1) := by
          rw [List.drop_eq_getElem_cons hlt]
          rw [(List.getElem?_eq_some_iff.mp hh).2]
        rw [hdr] at hd
        have hhb := hb h (List.mem_of_getElem? hh)
        rw [Int.zero_add]
        ((repeat array_mem_dec) <;> (try dsimp only))
        refine c_if ?_
        ((repeat array_mem_dec) <;> (try dsimp only))
        refine (houseB_spec _ h hhb.1 hhb.2).mono ?_
        rintro _ _ ⟨rfl, rfl⟩
        cases e : houseB h with
        | true =>
          ((repeat array_mem_dec) <;> (try dsimp only))
          refine c_nil ⟨rfl, rfl, ⟨_, _, rfl⟩, ?_⟩
          rw [hd]
          exact if_pos e
        | false =>
          ((repeat array_mem_dec) <;> (try dsimp only))
          refine c_raiseO ?_
          ((repeat array_mem_dec) <;> (try dsimp only))
          refine ⟨rfl, prog_text _ _ _ (by decide +kernel) (by omega) (by decide), ?_, [], by simp, rfl⟩
          rw [hd]
          show (if houseB h = true then hsC (i + 1) (hs.drop (i + 1)) else some (badProg "house" i (-1))) = _
          rw [e]
          rfl
    · rintro env S' ⟨rfl, ⟨a, b, rfl⟩, hd⟩
      refine ⟨by rfl, by trivial, ?_⟩
      have hk : (pairs (upto 0 (hs.map House.pv).length) (hs.map House.pv)).length = hs.length := by rw [pairs_length, upto_length, List.length_map, Nat.min_self]
      rw [hk, List.drop_length] at hd
      exact (leave_same rfl).mpr ⟨hd, rfl, rfl⟩
  · rw [decide_eq_false (by omega)]
    ((repeat array_mem_dec) <;> (try dsimp only))
    refine c_raiseO ?_
    ((repeat array_mem_dec) <;> (try dsimp only))
    exact ⟨rfl, prog_text _ _ _ (by decide +kernel) (by decide) (by decide), if_neg hc, [], by simp, rfl⟩
end

/-! PureCk4 -/
/-! PureCk4: check_rows of any rows (k20). -/
section
open PySem L2
def Row.endC : Row → Bool
  | .go _ => true
  | .back => true
  | _ => false
/-- the first that is no row -/
def rwC (many R number : Nat) : Nat → List Row → Option PExc
  | _, [] => none
  | i, r :: t => if fitB R many r = true then rwC many R number (i + 1) t else some (badProg "row" number i)
def rowsC (init : List Row) (last : Row) (number many : Nat) : Option PExc := match rwC many (init ++ [last]).length number 0 (init ++ [last]) with
  | some e => some e
  | none => if last.endC = true then none else some (badProg "end" number (-1))
theorem row_head (r : Row) : ∃ (w : Str) (vs : List PV), r.pv = .tup (.str w :: vs) ∧ inSeq (.str w) [.str "go", .str "back"] = r.endC := by
  have no : ∀ w : Str, w ∈ (["put", "move", "add", "take", "push", "pop", "say", "zero", "call"] : List Str) → inSeq (.str w) [.str "go", .str "back"] = false := by decide +kernel
  have y1 : inSeq (.str "go") [.str "go", .str "back"] = true := by decide +kernel
  have y2 : inSeq (.str "back") [.str "go", .str "back"] = true := by decide +kernel
  cases r <;> first | exact ⟨_, _, rfl, no _ (by simp)⟩ | exact ⟨_, _, rfl, y1⟩ | exact ⟨_, _, rfl, y2⟩
theorem rowsC_spec (S : Store) (hS : LowS S) (init : List Row) (last : Row) (number many : Nat) (hl : (init ++ [last]).length ≤ 1000) (hn : number ≤ 1000) (hm : many ≤ 1000) :
    Ends (rowsC init last number many) (m_check_rows [.tup ((init ++ [last]).map Row.pv), .int number, .int many] S) S := by
  unfold Ends m_check_rows
  refine c_fnP rfl (c_seq (PostC.post ?_))
  ((repeat array_mem_dec) <;> (try dsimp only))
  refine w_eDks.mpr ?_
  ((repeat array_mem_dec) <;> (try dsimp only))
  refine ⟨rfl, by decide, by decide +kernel, ?_⟩
  ((repeat array_mem_dec) <;> (try dsimp only))
  have hl0 : (S ++ [Cell.dks ["box", "number", "row", "routine"] [PV.int 6, PV.int 1000, PV.int ((init ++ [last]).map Row.pv).length, PV.int many]])[S.length]? = some (lims (init ++ [last]).length many) := by
    rw [List.getElem?_append_right (Nat.le_refl _), Nat.sub_self, List.length_map]
    rfl
  refine ⟨by trivial, c_seq ?_⟩
  refine c_for (pairs (upto 0 ((init ++ [last]).map Row.pv).length) ((init ++ [last]).map Row.pv)) (fun i env S' => S' = (S ++ [Cell.dks ["box", "number", "row", "routine"] [PV.int 6, PV.int 1000, PV.int ((init ++ [last]).map Row.pv).length, PV.int many]]) ∧ (∃ a b, env = [some (.tup ((init ++ [last]).map Row.pv)), some (.int number), some (.int many), some (.loc S.length), a, b]) ∧ rwC many (init ++ [last]).length number 0 (init ++ [last]) = rwC many (init ++ [last]).length number i ((init ++ [last]).drop i)) ?_
  ((repeat array_mem_dec) <;> (try dsimp only))
  refine ⟨by rfl, ⟨by trivial, ⟨none, none, rfl⟩, rfl⟩, ?_, ?_⟩
  · rintro i env S' x ⟨rfl, ⟨a, b, rfl⟩, hd⟩ hx
    obtain ⟨x, y, hx1, hy, rfl⟩ := pairs_at hx
    refine ⟨by rfl, ?_⟩
    rw [List.getElem?_map] at hy
    cases hh : (init ++ [last])[i]? with
    | none => rw [hh] at hy; cases hy
    | some r =>
      rw [hh] at hy
      cases hy
      have hlt := (List.getElem?_eq_some_iff.mp hh).1
      have hlt2 : i < (upto 0 ((init ++ [last]).map Row.pv).length).length := (List.getElem?_eq_some_iff.mp hx1).1
      rw [upto_length] at hlt2
      rw [upto_get hlt2] at hx1
      cases hx1
      have hdr : (init ++ [last]).drop i = r :: (init ++ [last]).drop (i + 1) := by
        rw [List.drop_eq_getElem_cons hlt, (List.getElem?_eq_some_iff.mp hh).2]
      rw [hdr] at hd
      rw [Int.zero_add]
      ((repeat array_mem_dec) <;> (try dsimp only))
      refine c_if ?_
      ((repeat array_mem_dec) <;> (try dsimp only))
      refine (fitB_spec _ _ _ _ hl0 r).mono ?_
      rintro _ _ ⟨rfl, rfl⟩
      cases e : fitB (init ++ [last]).length many r with
      | true =>
        ((repeat array_mem_dec) <;> (try dsimp only))
        refine c_nil ⟨rfl, rfl, ⟨_, _, rfl⟩, ?_⟩
        rw [hd]
        exact if_pos e
      | false =>
        ((repeat array_mem_dec) <;> (try dsimp only))
        refine c_raiseO ?_
        ((repeat array_mem_dec) <;> (try dsimp only))
        refine ⟨rfl, prog_text _ _ _ (by decide +kernel) (by omega) (by omega), ?_, _, rfl, rfl⟩
        unfold rowsC
        rw [hd]
        show (match (if fitB (init ++ [last]).length many r = true then rwC many (init ++ [last]).length number (i + 1) ((init ++ [last]).drop (i + 1)) else some (badProg "row" number i)) with | some e => some e | none => if last.endC = true then none else some (badProg "end" number (-1))) = _
        rw [e]
        rfl
  · rintro env S' ⟨rfl, ⟨a, b, rfl⟩, hd⟩
    have hk : (pairs (upto 0 ((init ++ [last]).map Row.pv).length) ((init ++ [last]).map Row.pv)).length = (init ++ [last]).length := by rw [pairs_length, upto_length, List.length_map, Nat.min_self]
    rw [hk, List.drop_length] at hd
    refine ⟨by rfl, by trivial, c_if ?_⟩
    have hd : rwC many (init ++ [last]).length number 0 (init ++ [last]) = none := hd
    have hc : rowsC init last number many = if last.endC = true then none else some (badProg "end" number (-1)) := by unfold rowsC; rw [hd]
    rw [hc]
    ((repeat array_mem_dec) <;> (try dsimp only))
    refine (w_ix (by rfl) (last_at init last)).mpr ?_
    obtain ⟨w, vs, hw, he⟩ := row_head last
    rw [hw]
    ((repeat array_mem_dec) <;> (try dsimp only))
    refine (w_notIn (by rfl) rfl rfl).mpr ?_
    rw [he]
    cases e : last.endC with
    | true =>
      ((repeat array_mem_dec) <;> (try dsimp only))
      exact c_nil ⟨rfl, (leave_drop hS (by simp) (by rfl)).mpr ⟨by simp, rfl, rfl⟩⟩
    | false =>
      ((repeat array_mem_dec) <;> (try dsimp only))
      refine c_raiseO ?_
      ((repeat array_mem_dec) <;> (try dsimp only))
      exact ⟨rfl, prog_text _ _ _ (by decide +kernel) (by omega) (by decide), if_neg (by decide), _, rfl, rfl⟩
end

/-! PureCk5 -/
/-! PureCk5: check_routines and check_program of any program of numbers and known words (k20). -/
section
open PySem L2
structure LRou where
  house : Nat
  rows : List Row
def LRou.pv (r : LRou) : PV := .tup [.int r.house, .tup (r.rows.map Row.pv)]
structure LProg where
  houses : List House
  routines : List LRou
def LProg.pv (p : LProg) : PV := .tup [.tup (p.houses.map House.pv), .tup (p.routines.map LRou.pv)]
def rowsL (rows : List Row) (number many : Nat) : Option PExc := rowsC rows.dropLast (rows.getLast?.getD .back) number many
theorem split_last {rows : List Row} (h : 1 ≤ rows.length) : rows.dropLast ++ [rows.getLast?.getD .back] = rows := by
  have hne : rows ≠ [] := by intro e; rw [e] at h; exact absurd h (by decide)
  rw [List.getLast?_eq_some_getLast hne]
  exact List.dropLast_concat_getLast hne
def okR (houses : Nat) (r : LRou) : Prop := r.house < houses ∧ 1 ≤ r.rows.length ∧ r.rows.length ≤ 32
instance {houses : Nat} {r : LRou} : Decidable (okR houses r) := by unfold okR; infer_instance
/-- the first that is no routine -/
def rosC (houses many : Nat) : Nat → List LRou → Option PExc
  | _, [] => none
  | i, r :: t => if okR houses r then (match rowsL r.rows i many with | some e => some e | none => rosC houses many (i + 1) t) else some (badProg "routine" i (-1))
def routinesC (houses : Nat) (rs : List LRou) : Option PExc := if 1 ≤ rs.length ∧ rs.length ≤ 6 then rosC houses rs.length 0 rs else some (badProg "routines" 0 (-1))
theorem routinesC_spec (S : Store) (hS : LowS S) (houses : Nat) (rs : List LRou) : Ends (routinesC houses rs) (m_check_routines [.tup (rs.map LRou.pv), .int houses] S) S := by
  unfold Ends m_check_routines
  refine c_fnP rfl (c_seq (c_if ?_))
  ((repeat array_mem_dec) <;> (try dsimp only))
  refine (is_tuple_of_spec _ _ _ _).mono ?_
  rintro _ S ⟨rfl, rfl⟩
  rw [List.length_map]
  by_cases hc : 1 ≤ rs.length ∧ rs.length ≤ 6
  · rw [decide_eq_true (by omega)]
    ((repeat array_mem_dec) <;> (try dsimp only))
    refine c_nil ⟨rfl, ?_⟩
    have hd : routinesC houses rs = rosC houses rs.length 0 rs := if_pos hc
    refine c_for (pairs (upto 0 (rs.map LRou.pv).length) (rs.map LRou.pv)) (fun i env S' => S' = S ∧ (∃ a b c d, env = [some (.tup (rs.map LRou.pv)), some (.int houses), a, b, c, d]) ∧ routinesC houses rs = rosC houses rs.length i (rs.drop i)) ?_
    ((repeat array_mem_dec) <;> (try dsimp only))
    refine ⟨by rfl, ⟨by trivial, ⟨none, none, none, none, rfl⟩, hd⟩, ?_, ?_⟩
    · rintro i env S' x ⟨rfl, ⟨a, b, c, d, rfl⟩, hd⟩ hx
      obtain ⟨x, y, hx1, hy, rfl⟩ := pairs_at hx
      refine ⟨by rfl, ?_⟩
      rw [List.getElem?_map] at hy
      cases hh : rs[i]? with
      | none => rw [hh] at hy; cases hy
      | some r =>
        rw [hh] at hy
        cases hy
        have hlt := (List.getElem?_eq_some_iff.mp hh).1
        have hlt2 : i < (upto 0 (rs.map LRou.pv).length).length := (List.getElem?_eq_some_iff.mp hx1).1
        rw [upto_length] at hlt2
        rw [upto_get hlt2] at hx1
        cases hx1
        have hdr : rs.drop i = r :: rs.drop (i + 1) := by
          rw [List.drop_eq_getElem_cons hlt, (List.getElem?_eq_some_iff.mp hh).2]
        rw [hdr] at hd
        have hd : routinesC houses rs = if okR houses r then (match rowsL r.rows i rs.length with | some e => some e | none => rosC houses rs.length (i + 1) (rs.drop (i + 1))) else some (badProg "routine" i (-1)) := hd
        rw [Int.zero_add]
        ((repeat array_mem_dec) <;> (try dsimp only))
        refine c_seq (c_if ?_)
        ((repeat array_mem_dec) <;> (try dsimp only))
        refine (is_tuple_of_spec _ _ _ _).mono ?_
        rintro _ _ ⟨rfl, rfl⟩
        rw [decide_eq_true (by constructor <;> simp)]
        ((repeat array_mem_dec) <;> (try dsimp only))
        refine c_nil ⟨rfl, c_seq (PostC.post ?_)⟩
        ((repeat array_mem_dec) <;> (try dsimp only))
        refine ⟨by trivial, c_seq (c_if ?_)⟩
        ((repeat array_mem_dec) <;> (try dsimp only))
        refine (is_below_spec _ _ _).mono ?_
        rintro _ _ ⟨rfl, rfl⟩
        by_cases h1 : r.house < houses
        · rw [decide_eq_true (by omega)]
          ((repeat array_mem_dec) <;> (try dsimp only))
          refine (is_tuple_of_spec _ _ _ _).mono ?_
          rintro _ _ ⟨rfl, rfl⟩
          rw [List.length_map]
          by_cases h2 : 1 ≤ r.rows.length ∧ r.rows.length ≤ 32
          · rw [decide_eq_true (by omega)]
            ((repeat array_mem_dec) <;> (try dsimp only))
            refine c_nil ⟨rfl, c_drop (c_call ?_)⟩
            ((repeat array_mem_dec) <;> (try dsimp only))
            rw [List.length_map]
            have hok : okR houses r := ⟨h1, h2⟩
            rw [if_pos hok] at hd
            have hsp := split_last h2.1
            have hr := rowsC_spec _ hS r.rows.dropLast (r.rows.getLast?.getD .back) i rs.length (by rw [hsp]; omega) (by omega) (by omega)
            rw [hsp] at hr
            refine PostC.mono hr ?_ ?_
            · rintro v S' ⟨h3, rfl, rfl⟩
              refine ⟨by trivial, rfl, ⟨_, _, _, _, rfl⟩, ?_⟩
              have h3 : rowsL r.rows i rs.length = none := h3
              rw [hd, h3]
            · rintro e S' ⟨h3, h4⟩
              have h3 : rowsL r.rows i rs.length = some e := h3
              exact ⟨by rw [hd, h3], h4⟩
          · rw [decide_eq_false (by omega)]
            ((repeat array_mem_dec) <;> (try dsimp only))
            refine c_raiseO ?_
            ((repeat array_mem_dec) <;> (try dsimp only))
            refine ⟨rfl, prog_text _ _ _ (by decide +kernel) (by omega) (by decide), ?_, [], by simp, rfl⟩
            rw [hd]
            exact if_neg fun h => h2 h.2
        · rw [decide_eq_false (by omega)]
          ((repeat array_mem_dec) <;> (try dsimp only))
          rw [if_pos trivial]
          refine c_raiseO ?_
          ((repeat array_mem_dec) <;> (try dsimp only))
          refine ⟨rfl, prog_text _ _ _ (by decide +kernel) (by omega) (by decide), ?_, [], by simp, rfl⟩
          rw [hd]
          exact if_neg fun h => h1 h.1
    · rintro env S' ⟨rfl, ⟨a, b, c, d, rfl⟩, hd⟩
      refine ⟨by rfl, by trivial, ?_⟩
      have hk : (pairs (upto 0 (rs.map LRou.pv).length) (rs.map LRou.pv)).length = rs.length := by rw [pairs_length, upto_length, List.length_map, Nat.min_self]
      rw [hk, List.drop_length] at hd
      exact (leave_same rfl).mpr ⟨hd, rfl, rfl⟩
  · rw [decide_eq_false (by omega)]
    ((repeat array_mem_dec) <;> (try dsimp only))
    refine c_raiseO ?_
    ((repeat array_mem_dec) <;> (try dsimp only))
    exact ⟨rfl, prog_text _ _ _ (by decide +kernel) (by decide) (by decide), if_neg hc, [], by simp, rfl⟩
/-- what check_program lets out -/
def chk (p : LProg) : Option PExc := match housesC p.houses with
  | some e => some e
  | none => routinesC p.houses.length p.routines
theorem chk_spec (S : Store) (hS : LowS S) (p : LProg) (hb : ∀ h ∈ p.houses, h.ins.length ≤ 100000 ∧ h.kept.length ≤ 100000) : Ends (chk p) (m_check_program [p.pv] S) S := by
  unfold Ends m_check_program
  refine c_fnP rfl (c_seq (c_if ?_))
  ((repeat array_mem_dec) <;> (try dsimp only))
  refine (is_tuple_of_spec _ _ _ _).mono ?_
  rintro _ S ⟨rfl, rfl⟩
  rw [decide_eq_true (by constructor <;> simp)]
  ((repeat array_mem_dec) <;> (try dsimp only))
  refine c_nil ⟨rfl, c_seq (PostC.post ?_)⟩
  ((repeat array_mem_dec) <;> (try dsimp only))
  refine ⟨by trivial, c_seq (c_drop (c_call ?_))⟩
  ((repeat array_mem_dec) <;> (try dsimp only))
  refine PostC.mono (housesC_spec _ _ hb) ?_ ?_
  · rintro _ _ ⟨h1, rfl, rfl⟩
    have hc : chk p = routinesC p.houses.length p.routines := by unfold chk; rw [h1]
    refine ⟨by trivial, c_drop (c_call ?_)⟩
    ((repeat array_mem_dec) <;> (try dsimp only))
    rw [List.length_map]
    refine PostC.mono (routinesC_spec _ hS _ _) ?_ ?_
    · rintro _ _ ⟨h2, rfl, rfl⟩
      exact ⟨by trivial, (leave_same rfl).mpr ⟨by rw [hc, h2], rfl, rfl⟩⟩
    · rintro e S' ⟨h2, h3⟩
      exact ⟨by rw [hc, h2], h3⟩
  · rintro e S' ⟨h1, h2⟩
    exact ⟨by unfold chk; rw [h1], h2⟩
end

/-! PureCk6 -/
/-! PureCk6: what check_program lets by is a program (k20). -/
section
open PySem L2
theorem hsC_none : ∀ (hs : List House) (i : Nat), hsC i hs = none → ∀ h ∈ hs, h.Ok
  | [], _, _, h, hm => by cases hm
  | x :: r, i, hn, h, hm => by
    have hn : (if houseB x = true then hsC (i + 1) r else some (badProg "house" i (-1))) = none := hn
    by_cases e : houseB x = true
    · rw [if_pos e] at hn
      rcases List.mem_cons.mp hm with rfl | hm
      · exact houseB_ok e
      · exact hsC_none r (i + 1) hn h hm
    · rw [if_neg e] at hn
      cases hn
theorem rwC_none {many R number : Nat} : ∀ (rs : List Row) (i : Nat), rwC many R number i rs = none → ∀ r ∈ rs, r.Ok R many
  | [], _, _, h, hm => by cases hm
  | x :: r, i, hn, h, hm => by
    have hn : (if fitB R many x = true then rwC many R number (i + 1) r else some (badProg "row" number i)) = none := hn
    by_cases e : fitB R many x = true
    · rw [if_pos e] at hn
      rcases List.mem_cons.mp hm with rfl | hm
      · exact fitB_ok e
      · exact rwC_none r (i + 1) hn h hm
    · rw [if_neg e] at hn
      cases hn
theorem endC_ok {r : Row} (h : r.endC = true) : r.isEnd := by
  cases r <;> first | exact Bool.noConfusion h | trivial
theorem rowsC_none {init : List Row} {last : Row} {number many : Nat} (h : rowsC init last number many = none) : (∀ r ∈ init ++ [last], r.Ok (init ++ [last]).length many) ∧ last.isEnd := by
  unfold rowsC at h
  cases e : rwC many (init ++ [last]).length number 0 (init ++ [last]) with
  | some x => rw [e] at h; cases h
  | none =>
    rw [e] at h
    have h : (if last.endC = true then none else some (badProg "end" number (-1))) = none := h
    by_cases e2 : last.endC = true
    · exact ⟨rwC_none _ _ e, endC_ok e2⟩
    · rw [if_neg e2] at h
      cases h
def LRou.toR (r : LRou) : Routine := ⟨r.house, r.rows.dropLast, r.rows.getLast?.getD .back⟩
def LProg.toP (p : LProg) : Prog := ⟨p.houses, p.routines.map LRou.toR⟩
theorem rosC_none {houses many : Nat} : ∀ (rs : List LRou) (i : Nat), rosC houses many i rs = none → ∀ r ∈ rs, r.toR.Ok houses many ∧ r.toR.rows = r.rows
  | [], _, _, h, hm => by cases hm
  | x :: r, i, hn, h, hm => by
    have hn : (if okR houses x then (match rowsL x.rows i many with | some e => some e | none => rosC houses many (i + 1) r) else some (badProg "routine" i (-1))) = none := hn
    by_cases e : okR houses x
    · rw [if_pos e] at hn
      cases e2 : rowsL x.rows i many with
      | some y => rw [e2] at hn; cases hn
      | none =>
        rw [e2] at hn
        rcases List.mem_cons.mp hm with rfl | hm
        · have h3 := rowsC_none e2
          have hs : h.toR.rows = h.rows := split_last e.2.1
          exact ⟨⟨e.1, by rw [hs]; exact e.2.2, h3.1, h3.2⟩, hs⟩
        · exact rosC_none r (i + 1) hn h hm
    · rw [if_neg e] at hn
      cases hn
theorem chk_ok {p : LProg} (h : chk p = none) : p.toP.Ok ∧ p.toP.pv = p.pv := by
  unfold chk at h
  cases e : housesC p.houses with
  | some x => rw [e] at h; cases h
  | none =>
    rw [e] at h
    have h : routinesC p.houses.length p.routines = none := h
    unfold housesC at e
    unfold routinesC at h
    by_cases h1 : 1 ≤ p.houses.length ∧ p.houses.length ≤ 3
    · by_cases h2 : 1 ≤ p.routines.length ∧ p.routines.length ≤ 6
      · rw [if_pos h1] at e
        rw [if_pos h2] at h
        have hr := rosC_none _ _ h
        refine ⟨⟨h1.1, h1.2, by show 1 ≤ (p.routines.map LRou.toR).length; rw [List.length_map]; exact h2.1, by show (p.routines.map LRou.toR).length ≤ 6; rw [List.length_map]; exact h2.2, hsC_none _ _ e, ?_⟩, ?_⟩
        · intro r hm
          obtain ⟨x, hx, rfl⟩ := List.mem_map.mp hm
          show x.toR.Ok p.houses.length (p.routines.map LRou.toR).length
          rw [List.length_map]
          exact (hr x hx).1
        · show PV.tup [.tup (p.houses.map House.pv), .tup ((p.routines.map LRou.toR).map Routine.pv)] = PV.tup [.tup (p.houses.map House.pv), .tup (p.routines.map LRou.pv)]
          rw [List.map_map]
          congr 4
          refine List.map_congr_left fun x hx => ?_
          show PV.tup [.int x.house, .tup (x.toR.rows.map Row.pv)] = _
          rw [(hr x hx).2]
          rfl
      · rw [if_neg h2] at h
        cases h
    · rw [if_neg h1] at e
      cases e
end

/-! PureCk7 -/
/-! PureCk7: the law's own look at a word (k20). -/
section
open PySem L2
theorem w_notInC {c : Nat} {z : Str} {S : Store} {Q : PV → Store → Prop} : Post (oNotInC (.str ⟨#[c]⟩) (.str z) S) Q ↔ Q (.bl (!decide (c ∈ z.cps.toList))) S := Post.ok
/-- the items that pass, as they are -/
theorem lc_fltL {α : Type} {enc : α → PV} {it : LW.It} {zs : List α} {env : LW.Env} {S : Store} {QA : List PV → Store → Prop} {v : Nat} {t : XB} (p : α → Bool) (ha : it.items S = some (zs.map enc)) (hn : zs.length ≤ 100000) (hv : v < env.length)
    (ht : ∀ z, z ∈ zs → Post (t (env.set v (some (enc z))) S) fun k S' => k = p z ∧ S' = S) (hQ : QA ((zs.filter p).map enc) S) : LcP it (gNm v) t (eVar v) env S QA := by
  refine ⟨zs.map enc, ha, lc_inv (fun i acc S' => i ≤ zs.length ∧ acc = ((zs.take i).filter p).map enc ∧ S' = S) ?_ ?_ _ 0 rfl (Nat.zero_le _) _ _ ⟨Nat.zero_le _, rfl, rfl⟩⟩
  · rintro i acc S' x ⟨hi, rfl, rfl⟩ hx
    refine ⟨ha, ?_⟩
    rw [List.getElem?_map, Option.map_eq_some_iff] at hx
    obtain ⟨b, hb, rfl⟩ := hx
    have hlt := (List.getElem?_eq_some_iff.mp hb).1
    refine w_gNm.mpr ((ht b (List.mem_of_getElem? hb)).mono ?_)
    rintro k S2 ⟨rfl, rfl⟩
    have htk : zs.take (i + 1) = zs.take i ++ [b] := by rw [List.take_add_one, hb]; rfl
    cases hp : p b with
    | true =>
      rw [if_pos rfl]
      refine (w_var (x := enc b) (by rw [List.getElem?_set_self hv])).mpr ?_
      refine ⟨?_, hlt, ?_, rfl⟩
      · rw [List.length_map]
        exact Nat.lt_of_le_of_lt (Nat.le_trans (List.length_filter_le _ _) (by rw [List.length_take]; exact Nat.le_trans (Nat.min_le_right _ _) hn)) (by decide : 100000 < lim)
      · rw [htk, List.filter_append, List.map_append, List.filter_cons_of_pos (by exact hp)]
        rfl
    | false =>
      rw [if_neg (by decide)]
      refine ⟨hlt, ?_, rfl⟩
      rw [htk, List.filter_append, List.filter_cons_of_neg (by rw [hp]; decide)]
      simp
  · rintro acc S' ⟨_, rfl, rfl⟩
    rw [List.length_map, List.take_length]
    exact ⟨ha, hQ⟩
theorem res_signs (S : Store) : ∀ cs : List Nat, (cs.map fun c => PV.str ⟨#[c]⟩).map (res 19 S) = cs.map fun c => PV.str ⟨#[c]⟩
  | [] => rfl
  | c :: r => by
    rw [List.map_cons, List.map_cons, res_signs S r]
    rfl
theorem sgn_nil {cs : List Nat} {S : Store} (h : ∀ c ∈ cs, c < 0x110000) : plain 20 (res 20 S (.ls (cs.map fun c => PV.str ⟨#[c]⟩))) = true ∧ eqv (res 20 S (.ls (cs.map fun c => PV.str ⟨#[c]⟩))) (.ls []) = cs.isEmpty := by
  have r : res 20 S (.ls (cs.map fun c => PV.str ⟨#[c]⟩)) = .ls (cs.map fun c => PV.str ⟨#[c]⟩) := by
    show PV.ls ((cs.map fun c => PV.str ⟨#[c]⟩).map (res 19 S)) = _
    rw [res_signs]
  rw [r]
  refine ⟨?_, by cases cs <;> rfl⟩
  show (cs.map fun c => PV.str ⟨#[c]⟩).all (plain 19) = true
  refine List.all_eq_true.mpr fun x hx => ?_
  obtain ⟨c, hc, rfl⟩ := List.mem_map.mp hx
  show (#[c] : Array Nat).all (· < 0x110000) = true
  rw [← Array.all_toList]
  show (decide (c < 0x110000) && true) = true
  rw [decide_eq_true (h c hc)]
  rfl
theorem w_neSg {cs : List Nat} {S : Store} {Q : PV → Store → Prop} (h : ∀ c ∈ cs, c < 0x110000) : Post (oNe (.ls (cs.map fun c => PV.str ⟨#[c]⟩)) (.ls []) S) Q ↔ Q (.bl (!cs.isEmpty)) S := by
  obtain ⟨h1, h2⟩ := sgn_nil (S := S) h
  unfold oNe
  rw [if_pos ⟨h1, rfl⟩]
  show Post (R.ok (PV.bl (!eqv (res 20 S _) (.ls []))) S) Q ↔ _
  rw [h2]
  exact Post.ok
theorem w_eqSg {cs : List Nat} {S : Store} {Q : PV → Store → Prop} (h : ∀ c ∈ cs, c < 0x110000) : Post (oEq (.ls (cs.map fun c => PV.str ⟨#[c]⟩)) (.ls []) S) Q ↔ Q (.bl cs.isEmpty) S := by
  obtain ⟨h1, h2⟩ := sgn_nil (S := S) h
  unfold oEq
  rw [if_pos ⟨h1, rfl⟩]
  show Post (R.ok (PV.bl (eqv (res 20 S _) (.ls []))) S) Q ↔ _
  rw [h2]
  exact Post.ok
end
section
open PySem L2
/-- signs that are no figures -/
def noFig (w : Str) : List Nat := w.cps.toList.filter fun c => !figB c
theorem noFig_lt {w : Str} (h : PyData.strOk w = true) : ∀ c ∈ noFig w, c < 0x110000 := fun c hc => by
  have h1 : c ∈ w.cps.toList := (List.mem_filter.mp hc).1
  have h2 : w.cps.all (· < 0x110000) = true := h
  rw [← Array.all_toList] at h2
  exact of_decide_eq_true (List.all_eq_true.mp h2 c h1)
theorem noFig_nil (w : Str) : (noFig w).isEmpty = w.cps.toList.all figB := by
  unfold noFig
  induction w.cps.toList with
  | nil => rfl
  | cons c r ih =>
    rw [List.all_cons, List.filter_cons]
    cases figB c with
    | true => simpa using ih
    | false => rfl
end

/-! PureCk8 -/
/-! PureCk8: the law's own look at a word, told (k20). -/
section
open PySem L2
theorem boxes_law_spec (S : Store) (w : Str) (h : WOk w) : Post (m_boxes [.str w] S) fun v S' => v = .bl (boxB w) ∧ S' = S := by
  unfold m_boxes
  refine w_fnP rfl ?_
  ((repeat sizeOf_list_dec) <;> (try dsimp only))
  refine (w_eqS h.ok (by decide +kernel)).mpr ?_
  unfold boxB
  by_cases h0 : w = ("-" : Str)
  · rw [decide_eq_true h0]
    ((repeat sizeOf_list_dec) <;> (try dsimp only))
    exact (leave_same rfl).mpr ⟨rfl, rfl⟩
  · rw [decide_eq_false h0]
    ((repeat sizeOf_list_dec) <;> (try dsimp only))
    refine (w_neS h.ok (by decide +kernel)).mpr ?_
    unfold figsB
    by_cases h1 : w = ("" : Str)
    · rw [decide_eq_true h1]
      ((repeat sizeOf_list_dec) <;> (try dsimp only))
      refine (leave_same rfl).mpr ⟨?_, rfl⟩
      rw [h1]
      decide +kernel
    · rw [decide_eq_false h1]
      ((repeat sizeOf_list_dec) <;> (try dsimp only))
      refine w_iChs.mpr ?_
      ((repeat sizeOf_list_dec) <;> (try dsimp only))
      refine ⟨w, rfl, ?_⟩
      refine lc_fltL (enc := fun c : Nat => PV.str ⟨#[c]⟩) (zs := w.cps.toList) (fun c => !figB c) (by rfl) (by have := h.len; rw [TL.len_tl] at this; exact this) (Nat.le_of_ble_eq_true rfl) (fun c hc => ?_) ?_
      · ((repeat sizeOf_list_dec) <;> (try dsimp only))
        exact w_notInC.mpr ⟨rfl, rfl⟩
      · ((repeat sizeOf_list_dec) <;> (try dsimp only))
        refine (w_eqSg (noFig_lt h.ok)).mpr ?_
        refine (leave_same rfl).mpr ⟨?_, rfl⟩
        rw [noFig_nil]
        have hp : 0 < w.length := by
          rw [TL.len_tl]
          cases e : w.cps.toList with
          | nil => exact absurd (show w = ("" : Str) by
              cases w with
              | mk a => cases a with
                | mk l => have e : l = [] := e; rw [e]; decide +kernel) h1
          | cons c r => rw [show TL.tl w = c :: r from e]; exact Nat.succ_pos _
        rw [decide_eq_true hp]
        rfl
theorem figures_law_spec (S : Store) (w : Str) (h : WOk w) : Post (m_figures [.str w] S) fun v S' => v = .bl (numB w) ∧ S' = S := by
  unfold m_figures
  refine w_fnP rfl ?_
  ((repeat sizeOf_list_dec) <;> (try dsimp only))
  refine (w_lenS (by have := h.len; omega)).mpr ?_
  ((repeat sizeOf_list_dec) <;> (try dsimp only))
  unfold numB figsB
  by_cases h0 : 0 < w.length
  · rw [decide_eq_true (show (0 : Int) < (w.length : Int) by omega), decide_eq_true h0]
    ((repeat sizeOf_list_dec) <;> (try dsimp only))
    by_cases h4 : w.length ≤ 3
    · rw [decide_eq_true (show (w.length : Int) < 4 by omega), decide_eq_true h4]
      ((repeat sizeOf_list_dec) <;> (try dsimp only))
      refine w_iChs.mpr ?_
      ((repeat sizeOf_list_dec) <;> (try dsimp only))
      refine ⟨w, rfl, ?_⟩
      refine lc_fltL (enc := fun c : Nat => PV.str ⟨#[c]⟩) (zs := w.cps.toList) (fun c => !figB c) (by rfl) (by have := h.len; rw [TL.len_tl] at this; exact this) (Nat.le_of_ble_eq_true rfl) (fun c hc => ?_) ?_
      · ((repeat sizeOf_list_dec) <;> (try dsimp only))
        exact w_notInC.mpr ⟨rfl, rfl⟩
      · ((repeat sizeOf_list_dec) <;> (try dsimp only))
        refine (w_neSg (noFig_lt h.ok)).mpr ?_
        rw [noFig_nil]
        cases e : w.cps.toList.all figB with
        | false =>
          ((repeat sizeOf_list_dec) <;> (try dsimp only))
          exact (leave_same rfl).mpr ⟨rfl, rfl⟩
        | true =>
          ((repeat sizeOf_list_dec) <;> (try dsimp only))
          refine (w_eqS h.ok (by decide +kernel)).mpr ?_
          by_cases hz : w = ("0" : Str)
          · rw [decide_eq_true hz]
            ((repeat sizeOf_list_dec) <;> (try dsimp only))
            exact (leave_same rfl).mpr ⟨rfl, rfl⟩
          · rw [decide_eq_false hz]
            ((repeat sizeOf_list_dec) <;> (try dsimp only))
            cases e2 : w.cps.toList with
            | nil =>
              rw [TL.len_tl, show TL.tl w = [] from e2] at h0
              exact absurd h0 (by decide)
            | cons c r =>
              refine (w_ixC (c := c) (by rw [e2, show (0 : Int) = ((0 : Nat) : Int) from rfl, L2.atI_nat (j := 0)]; rfl) (by omega)).mpr ?_
              ((repeat sizeOf_list_dec) <;> (try dsimp only))
              have hc : 48 ≤ c ∧ c ≤ 57 := figB_iff.mp (List.all_eq_true.mp e c (by rw [e2]; simp))
              refine (w_neS (one_ok (c := c) (by omega)) (by decide +kernel)).mpr ?_
              refine (leave_same rfl).mpr ⟨?_, rfl⟩
              rw [List.head?_cons]
              by_cases hc0 : c = 48
              · rw [hc0]
                rfl
              · rw [decide_eq_true (show (some c ≠ some 48) from fun z => hc0 (Option.some.inj z)), decide_eq_false]
                · rfl
                · intro z
                  have z2 : [c] = [48] := congrArg (fun s : Str => s.cps.toList) z
                  exact hc0 (List.cons.inj z2).1
    · rw [decide_eq_false (show ¬ (w.length : Int) < 4 by omega), decide_eq_false h4]
      ((repeat sizeOf_list_dec) <;> (try dsimp only))
      refine (leave_same rfl).mpr ⟨?_, rfl⟩
      simp
  · rw [decide_eq_false (show ¬ (0 : Int) < (w.length : Int) by omega), decide_eq_false h0]
    ((repeat sizeOf_list_dec) <;> (try dsimp only))
    exact (leave_same rfl).mpr ⟨rfl, rfl⟩
end

/-! PureCk9 -/
/-! PureCk9: the law's table of forms (k20). -/
section
open PySem L2
/-- get of a dict that lies in the store -/
theorem w_get2L {o k d : XE} {env : LW.Env} {S : Store} {Q : PV → Store → Prop} (h : Post (o env S) fun ov S => ∃ l ks vs, ov = .loc l ∧ S[l]? = some (.dks ks vs) ∧ Post (k env S) fun kv S2 => S2 = S ∧ ∃ w, kv = .str w ∧ Post (d env S) fun dv S3 => S3 = S ∧ Q ((lookS ks vs w).getD dv) S) : Post (eGet2 o k d env S) Q := by
  unfold eGet2
  rw [Post.bind]
  refine h.mono ?_
  rintro _ S ⟨l, ks, vs, rfl, hl, h⟩
  have hd : dksOf S (.loc l) = some (ks, vs) := by unfold dksOf; simp only [hl]
  simp only [hd]
  rw [Post.bind]
  refine h.mono ?_
  rintro _ _ ⟨rfl, w, rfl, h⟩
  rw [Post.bind]
  refine h.mono ?_
  rintro dv _ ⟨rfl, h⟩
  rw [hd]
  exact Post.ok.mpr h
end
section
open PySem L2
def formK : List Str := ["put", "move", "add", "take", "push", "pop", "say", "zero", "go", "call", "back"]
def formV : List PV := [.int 2, .int 2, .int 3, .int 3, .int 1, .int 1, .int 1, .int 2, .int 1, .int 1, .int 0]
theorem forms_spec (S : Store) : Post (m_forms [] S) fun v S' => v = .loc S.length ∧ S' = S ++ [.dks formK formV] := by
  unfold m_forms
  refine w_fnK rfl ?_
  ((repeat sizeOf_list_dec) <;> (try dsimp only))
  refine w_eDks.mpr ?_
  ((repeat sizeOf_list_dec) <;> (try dsimp only))
  refine ⟨rfl, by decide, by decide +kernel, ?_⟩
  ((repeat sizeOf_list_dec) <;> (try dsimp only))
  refine (w_setS (by rw [List.getElem?_append_right (Nat.le_refl _), Nat.sub_self]; rfl) (by decide)).mpr ?_
  ((repeat sizeOf_list_dec) <;> (try dsimp only))
  refine ⟨by trivial, ?_⟩
  rw [List.set_append_right _ _ (Nat.le_refl _), Nat.sub_self]
  congr 1
theorem form_go (w : Str) : ∀ (ks : List Str) (ps : List (List PV)), ks.length = ps.length → (lookS ks (ps.map fun p => PV.int p.length) w) = (match lookS ks (ps.map PV.tup) w with | some (.tup p) => some (.int p.length) | _ => none)
  | [], ps, h => by cases ps <;> first | rfl | cases h
  | k :: ks, p :: ps, h => by
    show lookS (k :: ks) (PV.int p.length :: ps.map fun p => PV.int p.length) w = (match lookS (k :: ks) (PV.tup p :: ps.map PV.tup) w with | some (.tup p) => some (.int p.length) | _ => none)
    unfold lookS
    by_cases e : k = w
    · rw [if_pos e, if_pos e]
    · rw [if_neg e, if_neg e]
      exact form_go w ks ps (Nat.succ.inj h)
  | k :: ks, [], h => by cases h
/-- the law's table says what the program's says -/
theorem form_same (w : Str) : lookS formK formV w = (formOf w).map fun n => PV.int n := by
  have h := form_go w formK [[.str "box", .str "number"], [.str "box", .str "box"], [.str "box", .str "box", .str "box"], [.str "box", .str "box", .str "box"], [.str "box"], [.str "box"], [.str "box"], [.str "box", .str "row"], [.str "row"], [.str "routine"], []] rfl
  have h2 : lookS formK formV w = (match lookS K_PLACES V_PLACES w with | some (.tup p) => some (.int p.length) | _ => none) := h
  rw [h2]
  unfold formOf
  rcases places w with ⟨h3, _⟩ | ⟨ps, h3, _⟩ <;> rw [h3] <;> rfl
end

/-! PureEq -/
/-! PureEq: equal to itself. -/
section
open PySem L2
mutual
theorem eqv_self : ∀ (n : Nat) (x : PV), plain n x = true → eqv x x = true
  | _, .non, _ => rfl
  | _, .bl b, _ => by unfold eqv; simp
  | _, .int i, _ => by unfold eqv; simp
  | _, .str s, _ => by unfold eqv; simp
  | n + 1, .tup xs, h => by
    unfold plain at h
    unfold eqv
    exact eqvs_self n xs h
  | n + 1, .ls xs, h => by
    unfold plain at h
    unfold eqv
    exact eqvs_self n xs h
  | 0, .tup _, h => by unfold plain at h; cases h
  | 0, .ls _, h => by unfold plain at h; cases h
  | n, .fz _, h => by cases n <;> (unfold plain at h; cases h)
  | n, .dc _ _, h => by cases n <;> (unfold plain at h; cases h)
  | n, .loc _, h => by cases n <;> (unfold plain at h; cases h)
theorem eqvs_self : ∀ (n : Nat) (xs : List PV), xs.all (plain n) = true → eqvs xs xs = true
  | _, [], _ => rfl
  | n, x :: xs, h => by
    rw [List.all_cons, Bool.and_eq_true] at h
    unfold eqvs
    simp only
    rw [eqv_self n x h.1, eqvs_self n xs h.2]
    try rfl
end
theorem w_neRes {x y z : PV} {S : Store} {Q : PV → Store → Prop} (hx : res 20 S x = z) (hy : res 20 S y = z) (hp : plain 20 z = true) : Post (oNe x y S) Q ↔ Q (.bl false) S := by
  unfold oNe
  rw [hx, hy, if_pos ⟨hp, hp⟩, eqv_self _ _ hp]
  exact Post.ok
end

/-! PureCkA -/
/-! PureCkA: a line as the law looks at it (k20). -/
section
open PySem L2
theorem plain_strsW (S : Store) {ws : List Str} (h : ∀ w ∈ ws, PyData.strOk w = true) : plain 20 (res 20 S (.ls (ws.map .str))) = true := by
  have e : ∀ ws : List Str, (ws.map PV.str).map (res 19 S) = ws.map PV.str := by
    intro ws
    induction ws with
    | nil => rfl
    | cons w r ih =>
      rw [List.map_cons, List.map_cons, ih]
      rfl
  show ((ws.map PV.str).map (res 19 S)).all (plain 19) = true
  rw [e]
  refine List.all_eq_true.mpr fun x hx => ?_
  obtain ⟨w, hw, rfl⟩ := List.mem_map.mp hx
  exact h w hw
end
section
open PySem L2
/-- whether words are a line, by the law -/
def lineB (ws : List Str) (behind : Bool) : Bool :=
  if ws.head? = some ("house" : Str) then !behind && isHouseB ws else if ws.head? = some ("routine" : Str) then isRoutineB ws else behind && isRowB ws
theorem line_house {ws : List Str} {b : Bool} (h : ws.head? = some ("house" : Str)) : lineB ws b = (!b && isHouseB ws) := if_pos h
theorem line_routine {ws : List Str} {b : Bool} (h : ws.head? = some ("routine" : Str)) : lineB ws b = isRoutineB ws := by
  unfold lineB
  rw [if_neg (by rw [h]; decide +kernel), if_pos h]
theorem line_row {ws : List Str} {b : Bool} (h : ws.head? ≠ some ("house" : Str)) (h2 : ws.head? ≠ some ("routine" : Str)) : lineB ws b = (b && isRowB ws) := by
  unfold lineB
  rw [if_neg h, if_neg h2]
theorem line_spec (S : Store) (hS : LowS S) (ws : List Str) (b : Bool) (hw : ∀ w ∈ ws, WOk w) (h0 : ws ≠ []) (hn : ws.length ≤ 100000) : Post (m_line [.ls (ws.map .str), .bl b] S) fun v S' => v = .bl (lineB ws b) ∧ S' = S := by
  unfold m_line
  refine w_fnP rfl ?_
  cases ws with
  | nil => exact absurd rfl h0
  | cons w r =>
    ((repeat sizeOf_list_dec) <;> (try dsimp only))
    refine (w_eqS (hw w (by simp)).ok (by decide +kernel)).mpr ?_
    by_cases e1 : w = ("house" : Str)
    · rw [line_house (by rw [e1]; rfl), decide_eq_true e1]
      ((repeat sizeOf_list_dec) <;> (try dsimp only))
      rw [List.length_map]
      by_cases h4 : (w :: r).length = 4
      · rw [show (((w :: r).length : Int) == 4) = true from beq_iff_eq.mpr (by omega)]
        obtain ⟨a, x, c, d, he⟩ := four_of h4
        rw [he] at hw ⊢
        have ea : a = ("house" : Str) := by rw [← (List.cons.inj he).1]; exact e1
        rw [isHouseB_4, decide_eq_true ea]
        cases b with
        | true =>
          ((repeat sizeOf_list_dec) <;> (try dsimp only))
          exact (leave_same rfl).mpr ⟨rfl, rfl⟩
        | false =>
          ((repeat sizeOf_list_dec) <;> (try dsimp only))
          refine (boxes_law_spec _ x (hw x (by simp))).mono ?_
          rintro _ S ⟨rfl, rfl⟩
          cases hb : boxB x with
          | false =>
            ((repeat sizeOf_list_dec) <;> (try dsimp only))
            exact (leave_same rfl).mpr ⟨rfl, rfl⟩
          | true =>
            ((repeat sizeOf_list_dec) <;> (try dsimp only))
            refine (figures_law_spec _ c (hw c (by simp))).mono ?_
            rintro _ S ⟨rfl, rfl⟩
            cases hc : numB c with
            | false =>
              ((repeat sizeOf_list_dec) <;> (try dsimp only))
              exact (leave_same rfl).mpr ⟨rfl, rfl⟩
            | true =>
              ((repeat sizeOf_list_dec) <;> (try dsimp only))
              refine (boxes_law_spec _ d (hw d (by simp))).mono ?_
              rintro _ S ⟨rfl, rfl⟩
              exact (leave_same rfl).mpr ⟨rfl, rfl⟩
      · rw [show (((w :: r).length : Int) == 4) = false from beq_eq_false_iff_ne.mpr (by omega), isHouseB_ne h4, Bool.and_false]
        ((repeat sizeOf_list_dec) <;> (try dsimp only))
        exact (leave_same rfl).mpr ⟨rfl, rfl⟩
    · rw [decide_eq_false e1]
      ((repeat sizeOf_list_dec) <;> (try dsimp only))
      refine (w_eqS (hw w (by simp)).ok (by decide +kernel)).mpr ?_
      by_cases e2 : w = ("routine" : Str)
      · rw [line_routine (by rw [e2]; rfl), decide_eq_true e2]
        ((repeat sizeOf_list_dec) <;> (try dsimp only))
        rw [List.length_map]
        by_cases h2 : (w :: r).length = 2
        · rw [show (((w :: r).length : Int) == 2) = true from beq_iff_eq.mpr (by omega)]
          obtain ⟨a, x, he⟩ := pair_of h2
          rw [he] at hw ⊢
          have ea : a = ("routine" : Str) := by rw [← (List.cons.inj he).1]; exact e2
          rw [isRoutineB_2, decide_eq_true ea]
          ((repeat sizeOf_list_dec) <;> (try dsimp only))
          refine (figures_law_spec _ x (hw x (by simp))).mono ?_
          rintro _ S ⟨rfl, rfl⟩
          exact (leave_same rfl).mpr ⟨rfl, rfl⟩
        · rw [show (((w :: r).length : Int) == 2) = false from beq_eq_false_iff_ne.mpr (by omega), isRoutineB_ne h2]
          ((repeat sizeOf_list_dec) <;> (try dsimp only))
          exact (leave_same rfl).mpr ⟨rfl, rfl⟩
      · rw [line_row (ws := w :: r) (fun z => e1 (Option.some.inj z)) (fun z => e2 (Option.some.inj z)), decide_eq_false e2]
        ((repeat sizeOf_list_dec) <;> (try dsimp only))
        refine w_get2L ?_
        ((repeat sizeOf_list_dec) <;> (try dsimp only))
        refine (forms_spec S).mono ?_
        rintro _ S1 ⟨rfl, rfl⟩
        refine ⟨_, _, _, rfl, get_last0, ?_⟩
        ((repeat sizeOf_list_dec) <;> (try dsimp only))
        refine ⟨by trivial, _, rfl, ?_⟩
        ((repeat sizeOf_list_dec) <;> (try dsimp only))
        refine ⟨by trivial, ?_⟩
        rw [form_same]
        have done : ∀ v : Bool, Post (leave S.length (.bl v) (S ++ [.dks formK formV])) fun v' S' => v' = .bl v ∧ S' = S := fun v => (leave_drop hS (by simp) (by rfl)).mpr ⟨rfl, rfl⟩
        cases b with
        | false =>
          ((repeat sizeOf_list_dec) <;> (try dsimp only))
          exact done _
        | true =>
          rw [isRowB_cons]
          rcases places w with ⟨e, f⟩ | ⟨ps, e, f, hl⟩
          · rw [f, show ((none : Option Nat).map fun n => PV.int (n : Int)).getD (.int (-1)) = PV.int (-1) from rfl]
            ((repeat sizeOf_list_dec) <;> (try dsimp only))
            rw [List.length_map, List.length_cons, show ((-1 : Int) == ((r.length + 1 : Nat) : Int) - 1) = false from beq_eq_false_iff_ne.mpr (by omega)]
            ((repeat sizeOf_list_dec) <;> (try dsimp only))
            exact done _
          · rw [f, show ((some ps.length : Option Nat).map fun n => PV.int (n : Int)).getD (.int (-1)) = PV.int (ps.length : Int) from rfl]
            ((repeat sizeOf_list_dec) <;> (try dsimp only))
            rw [List.length_map, List.length_cons, show ((ps.length : Int) == ((r.length + 1 : Nat) : Int) - 1) = decide (some ps.length = some r.length) by
              by_cases hq : ps.length = r.length
              · rw [hq, decide_eq_true rfl]
                exact beq_iff_eq.mpr (by omega)
              · rw [decide_eq_false (fun z => hq (Option.some.inj z))]
                exact beq_eq_false_iff_ne.mpr (by omega)]
            cases hd : decide (some ps.length = some r.length) with
            | false =>
              ((repeat sizeOf_list_dec) <;> (try dsimp only))
              exact done _
            | true =>
              ((repeat sizeOf_list_dec) <;> (try dsimp only))
              rw [List.map_cons, cut1]
              rw [List.length_cons] at hn
              refine lc_fltL (enc := PV.str) (zs := r) (fun x => !numB x) (by rfl) (by omega) (Nat.le_of_ble_eq_true rfl) (fun x hx => ?_) ?_
              · ((repeat sizeOf_list_dec) <;> (try dsimp only))
                refine (figures_law_spec _ x (hw x (by simp [hx]))).mono ?_
                rintro _ S1 ⟨rfl, rfl⟩
                ((repeat sizeOf_list_dec) <;> (try dsimp only))
                exact ⟨by trivial, by trivial⟩
              · ((repeat sizeOf_list_dec) <;> (try dsimp only))
                refine (w_eqE' (plain_strsW _ fun x hx => (hw x (List.mem_cons_of_mem _ (List.mem_filter.mp hx).1)).ok)).mpr ?_
                rw [show ((r.filter fun x => !numB x).map PV.str).isEmpty = r.all numB by
                  clear hw hn h0 e1 e2 hd
                  induction r with
                  | nil => rfl
                  | cons x t ih =>
                    rw [List.all_cons, List.filter_cons]
                    cases numB x with
                    | true => simpa using ih
                    | false => rfl]
                exact done _
end

/-! PureTf -/
/-! PureTf: what is written is read. -/
section
open PySem L2
/-- what a reader holds: houses, routines with their rows so far -/
structure Acc where
  hs : List House
  rs : List (Nat × List Row)
def rcs (L : Nat) (rs : List (Nat × List Row)) : List PV := rs.zipIdx.map fun q => .tup [.int q.1.1, .loc (L + q.2)]
def Acc.cells (L : Nat) (a : Acc) : Store := .lst (a.hs.map House.pv) :: .lst (rcs (L + 2) a.rs) :: a.rs.map fun q => .lst (q.2.map Row.pv)
def Acc.pv (a : Acc) : PV := .tup [.tup (a.hs.map House.pv), .tup (a.rs.map fun q => .tup [.int q.1, .tup (q.2.map Row.pv)])]
def runI : Acc → List Item → Option Acc
  | a, [] => some a
  | a, .house h :: r => if a.rs = [] then runI ⟨a.hs ++ [h], []⟩ r else none
  | a, .routine n :: r => runI ⟨a.hs, a.rs ++ [(n, [])]⟩ r
  | a, .row w :: r => match a.rs.getLast? with
    | some (n, ws) => runI ⟨a.hs, a.rs.dropLast ++ [(n, ws ++ [w])]⟩ r
    | none => none
theorem run_row (hs : List House) (rs : List (Nat × List Row)) (n : Nat) (vs : List Row) (w : Row) (r : List Item) : runI ⟨hs, rs ++ [(n, vs)]⟩ (.row w :: r) = runI ⟨hs, rs ++ [(n, vs ++ [w])]⟩ r := by
  rw [runI]
  simp only [List.getLast?_concat, List.dropLast_concat]
def Prog.acc (p : Prog) : Acc := ⟨p.houses, p.routines.map fun q => (q.house, q.rows)⟩
theorem rcs_length (L : Nat) (rs : List (Nat × List Row)) : (rcs L rs).length = rs.length := by
  unfold rcs
  rw [List.length_map, List.length_zipIdx]
theorem rcs_snoc (L : Nat) (rs : List (Nat × List Row)) (q : Nat × List Row) : rcs L (rs ++ [q]) = rcs L rs ++ [.tup [.int q.1, .loc (L + rs.length)]] := by
  unfold rcs
  rw [List.zipIdx_append, List.map_append]
  show _ ++ [_] = _
  rw [Nat.zero_add]
theorem acc_at0 {S : Store} {a : Acc} : (S ++ a.cells S.length)[S.length]? = some (.lst (a.hs.map House.pv)) := get_app (A := S) (B := a.cells S.length) (i := 0)
theorem acc_at1 {S : Store} {a : Acc} : (S ++ a.cells S.length)[S.length + 1]? = some (.lst (rcs (S.length + 2) a.rs)) := get_app (A := S) (B := a.cells S.length) (i := 1)
theorem acc_at {S : Store} {a : Acc} {k : Nat} {q : Nat × List Row} (h : a.rs[k]? = some q) : (S ++ a.cells S.length)[S.length + 2 + k]? = some (.lst (q.2.map Row.pv)) := by
  rw [show S.length + 2 + k = S.length + (k + 1 + 1) by omega, get_app]
  show (a.rs.map fun q => Cell.lst (q.2.map Row.pv))[k]? = _
  rw [List.getElem?_map, h]
  rfl
theorem acc_house {S : Store} {hs : List House} {h : House} : (S ++ Acc.cells S.length ⟨hs, []⟩).set S.length (.lst (hs.map House.pv ++ [h.pv])) = S ++ Acc.cells S.length ⟨hs ++ [h], []⟩ := by
  have e := set_app (A := S) (B := Acc.cells S.length ⟨hs, []⟩) (i := 0) (c := .lst (hs.map House.pv ++ [h.pv]))
  refine e.trans ?_
  unfold Acc.cells
  rw [List.map_append]
  rfl
theorem acc_routine {S : Store} {a : Acc} {n : Nat} : ((S ++ a.cells S.length) ++ [Cell.lst []]).set (S.length + 1) (Cell.lst (rcs (S.length + 2) a.rs ++ [PV.tup [PV.int n, PV.loc (S ++ a.cells S.length).length]])) = S ++ Acc.cells S.length ⟨a.hs, a.rs ++ [(n, [])]⟩ := by
  rw [List.append_assoc]
  refine (set_app (A := S) (B := a.cells S.length ++ [Cell.lst []]) (i := 1)).trans ?_
  unfold Acc.cells
  rw [rcs_snoc, List.map_append, List.length_append, List.length_cons, List.length_cons, List.length_map]
  rw [show S.length + (a.rs.length + 1 + 1) = S.length + 2 + a.rs.length by omega]
  rfl
theorem acc_row {S : Store} {hs : List House} {rs : List (Nat × List Row)} {n : Nat} {ws : List Row} {w : Row} : (S ++ Acc.cells S.length ⟨hs, rs ++ [(n, ws)]⟩).set (S.length + 2 + rs.length) (.lst (ws.map Row.pv ++ [w.pv])) = S ++ Acc.cells S.length ⟨hs, rs ++ [(n, ws ++ [w])]⟩ := by
  rw [show S.length + 2 + rs.length = S.length + (rs.length + 1 + 1) by omega, set_app]
  unfold Acc.cells
  rw [rcs_snoc, rcs_snoc, List.map_append, List.map_append]
  show S ++ (_ :: _ :: (List.map (fun q : Nat × List Row => Cell.lst (q.2.map Row.pv)) rs ++ [_]).set rs.length _) = _
  rw [List.set_append_right _ _ (by rw [List.length_map]; exact Nat.le_refl _), List.length_map, Nat.sub_self]
  show _ = S ++ (_ :: _ :: (_ ++ [Cell.lst ((ws ++ [w]).map Row.pv)]))
  rw [List.map_append (l₁ := ws)]
  rfl
/-! a line's words are its item's, and no other's -/
theorem Item.wok {i : Item} (h : i.Ok) : ∀ w ∈ i.words, WOk w := fun w hw => by
  have h1 := h.words w hw
  refine ⟨by have := okW_len h1; omega, ?_⟩
  show w.cps.all (· < 0x110000) = true
  rw [← Array.all_toList]
  refine List.all_eq_true.mpr fun c hc => decide_eq_true ?_
  have := okW_sign h1 hc
  omega
/-- an item that a program may hold -/
inductive Item.May : Item → Prop
  | house (h : House) : h.Ok → May (.house h)
  | routine (n : Nat) : n < 1000 → May (.routine n)
  | row (r : Row) : (∀ a ∈ r.args, a < 1000) → May (.row r)
theorem Item.May.ok {i : Item} (h : i.May) : i.Ok := by
  cases h with
  | house h ho => exact Item.house_ok ho
  | routine n hn => exact Item.routine_ok hn
  | row r hr => exact Item.row_ok hr
end

/-! PureR0 -/
/-! PureR0: common pieces. -/
section
open PySem L2
theorem Hs.at0 {g : Hs} {A B : Store} {a : Cell} : (g.st (A ++ a :: B))[A.length + 2]? = some a := get_app (A := A) (B := a :: B) (i := 0)
theorem Hs.set0 {g : Hs} {A B : Store} {a c : Cell} : (g.st (A ++ a :: B)).set (A.length + 2) c = g.st (A ++ c :: B) := congrArg (fun z => Cell.lst (g.l.map .int) :: Cell.lst [.int g.a, .loc 0, .int g.c] :: z) (set_app (A := A) (B := a :: B) (i := 0))
theorem Prog.low (n : Nat) (p : Prog) : LW.low n p.pv = true := by
  unfold Prog.pv
  refine low_tup fun x hx => ?_
  simp only [List.mem_cons, List.not_mem_nil, or_false] at hx
  rcases hx with rfl | rfl
  · refine low_tup fun x hx => ?_
    obtain ⟨h, _, rfl⟩ := List.mem_map.mp hx
    unfold House.pv
    refine low_tup fun x hx => ?_
    simp only [List.mem_cons, List.not_mem_nil, or_false] at hx
    rcases hx with rfl | rfl | rfl
    · exact low_tup (low_ivs _)
    · exact low_int
    · exact low_tup (low_ivs _)
  · refine low_tup fun x hx => ?_
    obtain ⟨r, _, rfl⟩ := List.mem_map.mp hx
    exact r.low n
end

/-! PureTg -/
/-! PureTg: read. -/
section
open PySem L2
/-- [f(x) for g in xs], the store as it was -/
theorem lc_valsG {α : Type} {enc : α → PV} {it : LW.It} {zs : List α} {env : LW.Env} {S : Store} {QA : List PV → Store → Prop} {g : XG} {e : XE} (f : α → PV) (ha : it.items S = some (zs.map enc)) (hn : zs.length ≤ 100000)
    (he : ∀ z, z ∈ zs → Post (g (enc z) env S) fun env' S' => S' = S ∧ Post (e env' S) fun y S'' => y = f z ∧ S'' = S) (hQ : QA (zs.map f) S) : LcP it g bYes e env S QA := by
  refine ⟨zs.map enc, ha, lc_inv (fun i acc S' => i ≤ zs.length ∧ acc = (zs.take i).map f ∧ S' = S) ?_ ?_ _ 0 rfl (Nat.zero_le _) _ _ ⟨Nat.zero_le _, rfl, rfl⟩⟩
  · rintro i acc S' x ⟨hi, rfl, rfl⟩ hx
    refine ⟨ha, ?_⟩
    rw [List.getElem?_map, Option.map_eq_some_iff] at hx
    obtain ⟨b, hb, rfl⟩ := hx
    have hlt := (List.getElem?_eq_some_iff.mp hb).1
    refine (he b (List.mem_of_getElem? hb)).mono ?_
    rintro env' S2 ⟨rfl, h2⟩
    refine w_yes.mpr ?_
    rw [if_pos rfl]
    refine h2.mono ?_
    rintro y S3 ⟨rfl, rfl⟩
    refine ⟨?_, hlt, ?_, rfl⟩
    · rw [List.length_map, List.length_take]
      exact Nat.lt_of_le_of_lt (Nat.le_trans (Nat.min_le_right _ _) hn) (by decide : 100000 < lim)
    · rw [List.take_add_one, hb, List.map_append]
      rfl
  · rintro acc S' ⟨_, rfl, rfl⟩
    rw [List.length_map, List.take_length]
    exact ⟨ha, hQ⟩
theorem low_rcs {L n : Nat} {rs : List (Nat × List Row)} (h : L + rs.length ≤ n) : lows n (rcs L rs) = true := lows_all _ _ fun x hx => by
  unfold rcs at hx
  obtain ⟨⟨q, k⟩, hq, rfl⟩ := List.mem_map.mp hx
  have := (List.mem_zipIdx_iff_getElem?.mp hq)
  have hlt := (List.getElem?_eq_some_iff.mp this).1
  refine low_tup fun y hy => ?_
  simp only [List.mem_cons, List.not_mem_nil, or_false] at hy
  rcases hy with rfl | rfl
  · exact low_int
  · exact decide_eq_true (by show L + k < n; simp only at hlt; omega)
theorem row_low (n : Nat) (r : Row) : LW.low n r.pv = true := by
  rw [Row.pv_eq]
  refine low_tup fun x hx => ?_
  rcases List.mem_cons.mp hx with rfl | hx
  · rfl
  · exact low_ivs _ x hx
theorem house_low (n : Nat) (h : House) : LW.low n h.pv = true := by
  unfold House.pv
  refine low_tup fun x hx => ?_
  simp only [List.mem_cons, List.not_mem_nil, or_false] at hx
  rcases hx with rfl | rfl | rfl
  · exact low_tup (low_ivs _)
  · exact low_int
  · exact low_tup (low_ivs _)
theorem acc_low {S : Store} (hS : LowS S) (a : Acc) : LowS (S ++ a.cells S.length) := by
  have hS : S.all (Cell.low S.length) = true := hS
  have hn : (S ++ a.cells S.length).length = S.length + 2 + a.rs.length := by
    unfold Acc.cells
    rw [List.length_append, List.length_cons, List.length_cons, List.length_map]
    omega
  show (S ++ a.cells S.length).all (Cell.low (S ++ a.cells S.length).length) = true
  rw [hn, List.all_append, Bool.and_eq_true]
  refine ⟨List.all_eq_true.mpr fun c hc => cell_mono (by omega) c (List.all_eq_true.mp hS c hc), List.all_eq_true.mpr fun c hc => ?_⟩
  unfold Acc.cells at hc
  rcases List.mem_cons.mp hc with rfl | hc
  · refine lows_all _ _ fun x hx => ?_
    obtain ⟨h, _, rfl⟩ := List.mem_map.mp hx
    exact house_low _ h
  · rcases List.mem_cons.mp hc with rfl | hc
    · exact low_rcs (by omega)
    · obtain ⟨q, _, rfl⟩ := List.mem_map.mp hc
      refine lows_all _ _ fun x hx => ?_
      obtain ⟨r, _, rfl⟩ := List.mem_map.mp hx
      exact row_low _ r
end

/-! PureCkB -/
/-! PureCkB: what lines say, by themselves; no mirrors here (k20). -/
section
open PySem L2
theorem look_mem {w : Str} {v : PV} : ∀ (ks : List Str) (vs : List PV), lookS ks vs w = some v → (w, v) ∈ ks.zip vs
  | [], vs, h => by cases h
  | k :: ks, [], h => by cases h
  | k :: ks, x :: vs, h => by
    have h : (if k = w then some x else lookS ks vs w) = some v := h
    rw [List.zip_cons_cons]
    by_cases e : k = w
    · rw [if_pos e] at h
      rw [e, Option.some.inj h]
      exact List.mem_cons_self
    · rw [if_neg e] at h
      exact List.mem_cons_of_mem _ (look_mem ks vs h)
theorem three_of {α : Type} {ws : List α} (h : ws.length = 3) : ∃ a b c, ws = [a, b, c] := by
  match ws, h with
  | [a, b, c], _ => exact ⟨_, _, _, rfl⟩
theorem lone_of {α : Type} {ws : List α} (h : ws.length = 1) : ∃ a, ws = [a] := by
  match ws, h with
  | [a], _ => exact ⟨_, rfl⟩
theorem row_of {w : Str} {ns : List Nat} (h : formOf w = some ns.length) : ∃ x : Row, x.pv = .tup (.str w :: ivs ns) := by
  unfold formOf at h
  cases e : lookS K_PLACES V_PLACES w with
  | none => rw [e] at h; cases h
  | some v =>
    rw [e] at h
    have hm := look_mem _ _ e
    unfold K_PLACES V_PLACES at hm
    simp only [List.zip_cons_cons, List.zip_nil_left, List.mem_cons, List.not_mem_nil, or_false, Prod.mk.injEq] at hm
    rcases hm with ⟨rfl, rfl⟩ | ⟨rfl, rfl⟩ | ⟨rfl, rfl⟩ | ⟨rfl, rfl⟩ | ⟨rfl, rfl⟩ | ⟨rfl, rfl⟩ | ⟨rfl, rfl⟩ | ⟨rfl, rfl⟩ | ⟨rfl, rfl⟩ | ⟨rfl, rfl⟩ | ⟨rfl, rfl⟩
    · obtain ⟨a, b, rfl⟩ := pair_of (Option.some.inj h).symm
      exact ⟨.put a b, rfl⟩
    · obtain ⟨a, b, rfl⟩ := pair_of (Option.some.inj h).symm
      exact ⟨.move a b, rfl⟩
    · obtain ⟨a, b, c, rfl⟩ := three_of (Option.some.inj h).symm
      exact ⟨.add a b c, rfl⟩
    · obtain ⟨a, b, c, rfl⟩ := three_of (Option.some.inj h).symm
      exact ⟨.take a b c, rfl⟩
    · obtain ⟨a, rfl⟩ := lone_of (Option.some.inj h).symm
      exact ⟨.push a, rfl⟩
    · obtain ⟨a, rfl⟩ := lone_of (Option.some.inj h).symm
      exact ⟨.pop a, rfl⟩
    · obtain ⟨a, rfl⟩ := lone_of (Option.some.inj h).symm
      exact ⟨.say a, rfl⟩
    · obtain ⟨a, b, rfl⟩ := pair_of (Option.some.inj h).symm
      exact ⟨.zero a b, rfl⟩
    · obtain ⟨a, rfl⟩ := lone_of (Option.some.inj h).symm
      exact ⟨.go a, rfl⟩
    · obtain ⟨a, rfl⟩ := lone_of (Option.some.inj h).symm
      exact ⟨.call a, rfl⟩
    · cases List.eq_nil_of_length_eq_zero (Option.some.inj h).symm
      exact ⟨.back, rfl⟩
open Classical in
noncomputable def rowOf (w : Str) (r : List Str) : Row := if h : ∃ x : Row, x.pv = .tup (.str w :: ivs (r.map numOf)) then h.choose else .back
theorem rowOf_pv {w : Str} {r : List Str} (h : isRowB (w :: r) = true) : (rowOf w r).pv = .tup (.str w :: ivs (r.map numOf)) := by
  rw [isRowB_cons, Bool.and_eq_true, decide_eq_true_eq] at h
  have h2 : ∃ x : Row, x.pv = .tup (.str w :: ivs (r.map numOf)) := row_of (by rw [List.length_map]; exact h.1)
  unfold rowOf
  rw [dif_pos h2]
  exact h2.choose_spec
/-- the item that words are for -/
noncomputable def itemOf : List Str → Item
  | [] => .routine 0
  | w :: r => if w = ("house" : Str) then .house ⟨boxesOf (r.getD 0 ""), numOf (r.getD 1 ""), boxesOf (r.getD 2 "")⟩ else if w = ("routine" : Str) then .routine (numOf (r.getD 0 "")) else .row (rowOf w r)
theorem item_house {b c d : Str} : itemOf ["house", b, c, d] = .house ⟨boxesOf b, numOf c, boxesOf d⟩ := by
  simp only [itemOf]
  rw [if_pos trivial]
  rfl
theorem item_routine {b : Str} : itemOf ["routine", b] = .routine (numOf b) := by
  simp only [itemOf]
  rw [if_neg (by decide +kernel), if_pos trivial]
  rfl
theorem item_row {w : Str} {r : List Str} (h1 : w ≠ ("house" : Str)) (h2 : w ≠ ("routine" : Str)) : itemOf (w :: r) = .row (rowOf w r) := (if_neg h1).trans (if_neg h2)
theorem house_head {ws : List Str} (h : isHouseB ws = true) : ∃ b c d, ws = [("house" : Str), b, c, d] := by
  unfold isHouseB at h
  split at h
  · simp only [Bool.and_eq_true, decide_eq_true_eq] at h
    exact ⟨_, _, _, by rw [h.1]⟩
  · cases h
theorem routine_head {ws : List Str} (h : isRoutineB ws = true) : ∃ b, ws = [("routine" : Str), b] := by
  unfold isRoutineB at h
  split at h
  · simp only [Bool.and_eq_true, decide_eq_true_eq] at h
    exact ⟨_, by rw [h.1]⟩
  · cases h
theorem row_headB {ws : List Str} (h : isRowB ws = true) : ∃ w r, ws = w :: r ∧ w ≠ ("house" : Str) ∧ w ≠ ("routine" : Str) := by
  cases ws with
  | nil => cases h
  | cons w r =>
    rw [isRowB_cons, Bool.and_eq_true, decide_eq_true_eq] at h
    refine ⟨w, r, rfl, fun e => ?_, fun e => ?_⟩
    · rw [e, show formOf ("house" : Str) = none by decide +kernel] at h
      cases h.1
    · rw [e, show formOf ("routine" : Str) = none by decide +kernel] at h
      cases h.1
def Item.isR : Item → Bool
  | .routine _ => true
  | _ => false
theorem line_isR {ws : List Str} {b : Bool} (h : lineB ws b = true) : (itemOf ws).isR = decide (ws.head? = some ("routine" : Str)) := by
  by_cases h1 : ws.head? = some ("house" : Str)
  · rw [line_house h1, Bool.and_eq_true] at h
    obtain ⟨_, _, _, rfl⟩ := house_head h.2
    rw [item_house]
    exact (decide_eq_false fun z => absurd (Option.some.inj z) (by decide +kernel)).symm
  · by_cases h2 : ws.head? = some ("routine" : Str)
    · rw [line_routine h2] at h
      obtain ⟨_, rfl⟩ := routine_head h
      rw [item_routine]
      exact (decide_eq_true rfl).symm
    · rw [line_row h1 h2, Bool.and_eq_true] at h
      obtain ⟨w, r, rfl, h3, h4⟩ := row_headB h.2
      rw [item_row h3 h4, decide_eq_false h2]
      rfl
theorem run_app : ∀ (xs ys : List Item) (a : Acc), runI a (xs ++ ys) = (runI a xs).bind fun b => runI b ys
  | [], ys, a => rfl
  | .house h :: r, ys, a => by
    show (if a.rs = [] then runI ⟨a.hs ++ [h], []⟩ (r ++ ys) else none) = Option.bind (if a.rs = [] then runI ⟨a.hs ++ [h], []⟩ r else none) _
    by_cases e : a.rs = []
    · rw [if_pos e, if_pos e, run_app r]
    · rw [if_neg e, if_neg e]
      rfl
  | .routine n :: r, ys, a => run_app r ys _
  | .row w :: r, ys, a => by
    show (match a.rs.getLast? with | some (n, ws) => runI ⟨a.hs, a.rs.dropLast ++ [(n, ws ++ [w])]⟩ (r ++ ys) | none => none) = Option.bind (match a.rs.getLast? with | some (n, ws) => runI ⟨a.hs, a.rs.dropLast ++ [(n, ws ++ [w])]⟩ r | none => none) _
    cases e : a.rs.getLast? with
    | none => rfl
    | some q => exact run_app r ys _
theorem run_isR : ∀ (is : List Item) (a b : Acc), runI a is = some b → (b.rs = [] ↔ a.rs = [] ∧ ∀ i ∈ is, i.isR = false)
  | [], a, b, h => by
    cases h
    exact ⟨fun h => ⟨h, fun i hi => absurd hi List.not_mem_nil⟩, fun h => h.1⟩
  | .house x :: r, a, b, h => by
    have h : (if a.rs = [] then runI ⟨a.hs ++ [x], []⟩ r else none) = some b := h
    split at h
    · rename_i h0
      have := run_isR r _ b h
      rw [this]
      refine ⟨fun z => ⟨h0, fun i hi => ?_⟩, fun z => ⟨rfl, fun i hi => z.2 i (List.mem_cons_of_mem _ hi)⟩⟩
      rcases List.mem_cons.mp hi with rfl | hi
      · rfl
      · exact z.2 i hi
    · cases h
  | .routine n :: r, a, b, h => by
    have := run_isR r _ b h
    rw [this]
    exact ⟨fun z => absurd z.1 (by simp), fun z => absurd (show true = false from z.2 _ List.mem_cons_self) (by decide)⟩
  | .row w :: r, a, b, h => by
    have h : (match a.rs.getLast? with | some (n, ws) => runI ⟨a.hs, a.rs.dropLast ++ [(n, ws ++ [w])]⟩ r | none => none) = some b := h
    cases hl : a.rs.getLast? with
    | none => rw [hl] at h; cases h
    | some q =>
      rw [hl] at h
      have := run_isR r _ b h
      rw [this]
      refine ⟨fun z => absurd z.1 (by simp), fun z => ?_⟩
      rw [z.1] at hl
      cases hl
/-! the law's numbers of lines -/
def isHead (L : List (List Str)) (k : Nat) : Bool := decide ((L.getD k []).head? = some ("routine" : Str))
def headAt (L : List (List Str)) : Nat := ((List.range L.length).find? (isHead L)).getD L.length
def badAt (L : List (List Str)) (k : Nat) : Bool := !lineB (L.getD k []) (decide (headAt L < k))
def firstBad (L : List (List Str)) : Option Nat := (List.range L.length).find? (badAt L)
theorem head_lt {L : List (List Str)} {i : Nat} (hi : i ≤ L.length) : headAt L < i ↔ ∃ j, j < i ∧ isHead L j = true := by
  unfold headAt
  cases e : (List.range L.length).find? (isHead L) with
  | none =>
    rw [Option.getD_none]
    refine ⟨fun h => by omega, fun ⟨j, h1, h2⟩ => ?_⟩
    have := List.find?_eq_none.mp e j (List.mem_range.mpr (by omega))
    exact absurd h2 this
  | some k =>
    rw [Option.getD_some]
    obtain ⟨h1, h2, h3⟩ := List.find?_range_eq_some.mp e
    refine ⟨fun h => ⟨k, h, h1⟩, fun ⟨j, h4, h5⟩ => ?_⟩
    by_cases hj : j < k
    · have := h3 j hj
      rw [h5] at this
      cases this
    · omega
theorem bad_none {L : List (List Str)} (h : firstBad L = none) : ∀ j, j < L.length → badAt L j = false := fun j hj => by
  have := List.find?_eq_none.mp h j (List.mem_range.mpr hj)
  exact Bool.eq_false_iff.mpr this
theorem bad_none_of {L : List (List Str)} (h : ∀ j, j < L.length → badAt L j = false) : firstBad L = none := List.find?_eq_none.mpr fun j hj => by
  rw [h j (List.mem_range.mp hj)]
  decide
theorem bad_some {L : List (List Str)} {i : Nat} (hi : i < L.length) (h : ∀ j, j < i → badAt L j = false) (hb : badAt L i = true) : firstBad L = some i := List.find?_range_eq_some.mpr ⟨hb, List.mem_range.mpr hi, fun j hj => by rw [h j hj]; rfl⟩
/-- what was read of the first lines -/
noncomputable def readN (L : List (List Str)) (i : Nat) : Option Acc := runI ⟨[], []⟩ ((L.take i).map itemOf)
theorem read0 (L : List (List Str)) : readN L 0 = some ⟨[], []⟩ := rfl
theorem read_succ {L : List (List Str)} {i : Nat} {ws : List Str} {a : Acc} (h : L[i]? = some ws) (ha : readN L i = some a) : readN L (i + 1) = runI a [itemOf ws] := by
  unfold readN at ha ⊢
  rw [List.take_add_one, h, List.map_append, run_app, ha]
  rfl
theorem behind {L : List (List Str)} {i : Nat} {a : Acc} (hi : i ≤ L.length) (hg : ∀ j, j < i → badAt L j = false) (ha : readN L i = some a) : decide (headAt L < i) = !a.rs.isEmpty := by
  have h := run_isR _ _ _ ha
  have e : (a.rs = []) ↔ ¬ headAt L < i := by
    rw [h, head_lt hi]
    constructor
    · rintro ⟨_, h2⟩ ⟨j, h3, h4⟩
      have hlt : j < L.length := by omega
      have hgd : L.getD j [] = L[j] := by rw [List.getD_eq_getElem?_getD, List.getElem?_eq_getElem hlt]; rfl
      have h5 : badAt L j = false := hg j h3
      unfold badAt at h5
      rw [Bool.not_eq_false', hgd] at h5
      have h6 := line_isR h5
      have h7 := h2 (itemOf L[j]) (List.mem_map.mpr ⟨_, List.mem_take_iff_getElem.mpr ⟨j, by omega, rfl⟩, rfl⟩)
      unfold isHead at h4
      rw [hgd] at h4
      rw [h6, h4] at h7
      cases h7
    · intro h2
      refine ⟨rfl, fun it hit => ?_⟩
      obtain ⟨ws, hws, rfl⟩ := List.mem_map.mp hit
      obtain ⟨j, hj, rfl⟩ := List.mem_take_iff_getElem.mp hws
      have hlt : j < L.length := by omega
      have hgd : L.getD j [] = L[j] := by rw [List.getD_eq_getElem?_getD, List.getElem?_eq_getElem hlt]; rfl
      have h5 : badAt L j = false := hg j (by omega)
      unfold badAt at h5
      rw [Bool.not_eq_false', hgd] at h5
      rw [line_isR h5]
      cases h6 : decide ((L[j]).head? = some ("routine" : Str)) with
      | false => rfl
      | true => exact absurd ⟨j, by omega, by unfold isHead; rw [hgd]; exact h6⟩ h2
  cases hr : a.rs with
  | nil => exact decide_eq_false (e.mp hr)
  | cons x r => exact decide_eq_true (Classical.not_not.mp fun z => by have := e.mpr z; rw [hr] at this; cases this)
/-- the program that lines are for -/
def Acc.toL (a : Acc) : LProg := ⟨a.hs, a.rs.map fun q => ⟨q.1, q.2⟩⟩
theorem Acc.toL_pv (a : Acc) : a.toL.pv = a.pv := by
  unfold Acc.toL LProg.pv Acc.pv
  rw [List.map_map]
  rfl
noncomputable def progOf (L : List (List Str)) : LProg := ((readN L L.length).getD ⟨[], []⟩).toL
/-- houses' boxes are as many as a word's signs -/
def HsLen (a : Acc) : Prop := ∀ h ∈ a.hs, h.ins.length ≤ 100000 ∧ h.kept.length ≤ 100000
theorem boxesOf_len {w : Str} (h : w.length ≤ 100000) : (boxesOf w).length ≤ 100000 := by
  unfold boxesOf
  split
  · exact Nat.zero_le _
  · rw [List.length_map]
    rw [TL.len_tl] at h
    exact h
end

/-! PureCkC -/
/-! PureCkC: the lines and words of any text (k20). -/
section
open PySem L2
/-- any text, not too long -/
structure TOk (n : Nat) (t : Str) : Prop where
  len : t.length ≤ n
  ok : PyData.strOk t = true
def linesOf (t : Str) : List Str := Txt.split t "\n"
def wordsOf (t : Str) : List (List Str) := (linesOf t).map fun l => Txt.split l " "
theorem sign_ok {t : Str} (h : PyData.strOk t = true) : ∀ c ∈ t.cps.toList, c < 0x110000 := fun c hc => by
  have h : t.cps.all (· < 0x110000) = true := h
  rw [← Array.all_toList] at h
  exact of_decide_eq_true (List.all_eq_true.mp h c hc)
theorem ok_of_signs {t : Str} (h : ∀ c ∈ t.cps.toList, c < 0x110000) : PyData.strOk t = true := by
  show t.cps.all (· < 0x110000) = true
  rw [← Array.all_toList]
  exact List.all_eq_true.mpr fun c hc => decide_eq_true (h c hc)
theorem mem_joinL {S : List Nat} {c : Nat} : ∀ {ps : List (List Nat)} {p : List Nat}, p ∈ ps → c ∈ p → c ∈ TL.joinL S ps
  | [q], p, h, hc => by
    rw [List.mem_singleton.mp h] at hc
    exact hc
  | q :: r :: s, p, h, hc => by
    show c ∈ q ++ (S ++ TL.joinL S (r :: s))
    rcases List.mem_cons.mp h with rfl | h
    · exact List.mem_append.mpr (.inl hc)
    · exact List.mem_append.mpr (.inr (List.mem_append.mpr (.inr (mem_joinL h hc))))
theorem piece_ok {t s p : Str} (h : PyData.strOk t = true) (hp : p ∈ Txt.split t s) : PyData.strOk p = true := ok_of_signs fun c hc => by
  refine sign_ok h c ?_
  have e := StrLaws.join_split t s
  rw [← e, show (Str.join s (Txt.split t s)).cps.toList = _ from TL.tl_join s _]
  exact mem_joinL (List.mem_map.mpr ⟨p, hp, rfl⟩) hc
theorem piece_len {t s p : Str} (hp : p ∈ Txt.split t s) : p.length ≤ t.length := PyProof.Rows.part_short hp
theorem pieces_ne (t s : Str) : Txt.split t s ≠ [] := fun e => by
  have := PyProof.Rows.split_pos t s
  rw [e] at this
  exact absurd this (by decide)
theorem weight {t s : Str} (hs : s.length = 1) : ((Txt.split t s).map (·.length)).sum + (Txt.split t s).length ≤ t.length + 1 := PyProof.Rows.split_weight t s (by omega)
theorem pieces_len {t s : Str} (hs : s.length = 1) : (Txt.split t s).length ≤ t.length + 1 := by
  have := weight (t := t) hs
  omega
theorem len_nl : ("\n" : Str).length = 1 := by decide +kernel
theorem len_bl : (" " : Str).length = 1 := by decide +kernel
theorem line_tok {n : Nat} {t l : Str} (h : TOk n t) (hl : l ∈ linesOf t) : TOk n l := ⟨Nat.le_trans (piece_len hl) h.len, piece_ok h.ok hl⟩
theorem word_wok {t w : Str} (h : TOk 90000 t) (hw : w ∈ Txt.split t " ") : WOk w := ⟨Nat.le_trans (piece_len hw) (Nat.le_trans h.len (by decide)), piece_ok h.ok hw⟩
theorem lines_len {n : Nat} {t : Str} (h : TOk n t) : (linesOf t).length ≤ n + 1 := Nat.le_trans (pieces_len len_nl) (Nat.add_le_add_right h.len 1)
theorem words_of_len {n : Nat} {t : Str} (h : TOk n t) : (Txt.split t " ").length ≤ n + 1 := Nat.le_trans (pieces_len len_bl) (Nat.add_le_add_right h.len 1)
theorem words_at {t : Str} {i : Nat} {l : Str} (h : (linesOf t)[i]? = some l) : (wordsOf t)[i]? = some (Txt.split l " ") := by
  unfold wordsOf
  rw [List.getElem?_map, h]
  rfl
theorem words_len' (t : Str) : (wordsOf t).length = (linesOf t).length := List.length_map ..
theorem run_hlen : ∀ (is : List Item) (a b : Acc), runI a is = some b → (∀ h, Item.house h ∈ is → h.ins.length ≤ 100000 ∧ h.kept.length ≤ 100000) → HsLen a → HsLen b
  | [], a, b, h, _, ha => by cases h; exact ha
  | .house x :: r, a, b, h, hi, ha => by
    have h : (if a.rs = [] then runI ⟨a.hs ++ [x], []⟩ r else none) = some b := h
    split at h
    · refine run_hlen r _ b h (fun y hy => hi y (List.mem_cons_of_mem _ hy)) fun y hy => ?_
      rcases List.mem_append.mp hy with hy | hy
      · exact ha y hy
      · rw [List.mem_singleton.mp hy]
        exact hi x List.mem_cons_self
    · cases h
  | .routine n :: r, a, b, h, hi, ha => run_hlen r _ b h (fun y hy => hi y (List.mem_cons_of_mem _ hy)) ha
  | .row w :: r, a, b, h, hi, ha => by
    have h : (match a.rs.getLast? with | some (n, ws) => runI ⟨a.hs, a.rs.dropLast ++ [(n, ws ++ [w])]⟩ r | none => none) = some b := h
    cases hl : a.rs.getLast? with
    | none => rw [hl] at h; cases h
    | some q =>
      rw [hl] at h
      exact run_hlen r _ b h (fun y hy => hi y (List.mem_cons_of_mem _ hy)) ha
theorem getD_len {r : List Str} {k : Nat} (h : ∀ w ∈ r, WOk w) : (r.getD k "").length ≤ 100000 := by
  rw [List.getD_eq_getElem?_getD]
  cases e : r[k]? with
  | none => exact Nat.zero_le _
  | some w => exact (h w (List.mem_of_getElem? e)).len
theorem item_hlen {ws : List Str} (h : ∀ w ∈ ws, WOk w) {x : House} (e : itemOf ws = .house x) : x.ins.length ≤ 100000 ∧ x.kept.length ≤ 100000 := by
  cases ws with
  | nil => cases e
  | cons w r =>
    have h : ∀ w ∈ r, WOk w := fun y hy => h y (List.mem_cons_of_mem _ hy)
    have e : (if w = ("house" : Str) then Item.house ⟨boxesOf (r.getD 0 ""), numOf (r.getD 1 ""), boxesOf (r.getD 2 "")⟩ else if w = ("routine" : Str) then .routine (numOf (r.getD 0 "")) else .row (rowOf w r)) = .house x := e
    split at e
    · cases e
      exact ⟨boxesOf_len (getD_len h), boxesOf_len (getD_len h)⟩
    · split at e <;> cases e
theorem read_hlen {t : Str} (ht : TOk 90000 t) {i : Nat} {a : Acc} (h : readN (wordsOf t) i = some a) : HsLen a := by
  refine run_hlen _ _ _ h (fun x hx => ?_) fun x hx => absurd hx List.not_mem_nil
  obtain ⟨ws, hws, e⟩ := List.mem_map.mp hx
  have hws := List.mem_of_mem_take hws
  obtain ⟨l, hl, rfl⟩ := List.mem_map.mp hws
  exact item_hlen (fun w hw => word_wok (line_tok ht hl) hw) e
def badText (k : Nat) : PExc := ⟨"BadText", ((["line"] : List Str).zip [.int (k : Int)]).reverse⟩
theorem text_text {k : Nat} (hk : k < 1000000) : (jTx textParts Str.empty [.int (k : Int)]).isSome = true := by
  have h1 : (k : Int).natAbs.log2 < 1920 := by rw [Int.natAbs_natCast]; exact log2_small hk
  have h2 : (Str.ofString (toString (k : Int))).length ≤ 16 := by
    rw [PyProof.Rows.ofString_length]
    exact PySem.int_text_length_le10 (k := 15) (by decide) (by rw [Int.natAbs_natCast]; omega)
  have hl : lim = 1000000 := rfl
  have e1 : (Str.empty ++ ("no written program: line " : Str)).length = 25 := by decide +kernel
  have a3 := app_len (Str.empty ++ ("no written program: line " : Str)) (Str.ofString (toString (k : Int)))
  unfold textParts
  simp only [jTx, List.getElem?_cons_zero, List.getElem?_cons_succ]
  rw [if_pos (by omega), if_pos ⟨h1, by omega⟩]
  rfl
end
section
open PySem L2
theorem c_fn {np many : Nat} {b : XS} {args : List PV} {S : Store} {E : PExc → Store → Prop} {Q : PV → Store → Prop} (hl : args.length = np) (h : PostC (b (args.map some ++ List.replicate (many - args.length) none) S) (fun p S' => match p.1 with
    | .rt v => Post (leave S.length v S') Q
    | .nx => Post (leave S.length .non S') Q
    | _ => False) E) : PostC (fnP np many b args S) Q E := by
  unfold fnP
  rw [if_pos hl]
  refine PostC.bind (h.mono ?_ fun _ _ h => h)
  rintro ⟨f, env⟩ S' h1
  cases f <;> first | exact PostC.post h1 | exact h1.elim
end

/-! PureCkD -/
/-! PureCkD: read, of any text (k20). -/
section
open PySem L2
theorem houseB_line {b c d : Str} {x : Bool} : lineB ["house", b, c, d] x = (!x && isHouseB ["house", b, c, d]) := line_house rfl
theorem routineB_line {b : Str} {x : Bool} : lineB ["routine", b] x = isRoutineB ["routine", b] := line_routine rfl
theorem none_line {ws : List Str} {x : Bool} (h1 : isHouseB ws = false) (h2 : isRoutineB ws = false) (h3 : isRowB ws = false) : lineB ws x = false := by
  by_cases e1 : ws.head? = some ("house" : Str)
  · rw [line_house e1, h1, Bool.and_false]
  · by_cases e2 : ws.head? = some ("routine" : Str)
    · rw [line_routine e2, h2]
    · rw [line_row e1 e2, h3, Bool.and_false]
theorem acc_seq1 {S : Store} {a : Acc} : seqOf (S ++ a.cells S.length) (.loc (S.length + 1)) = some (rcs (S.length + 2) a.rs) := by
  show (match (S ++ Acc.cells S.length a)[S.length + 1]? with | some (.lst xs) => some xs | _ => none) = _
  rw [acc_at1]
theorem low_app {A B : Store} (hA : LowS A) (hB : B.all (Cell.low 0) = true) : LowS (A ++ B) := by
  have hA : A.all (Cell.low A.length) = true := hA
  show (A ++ B).all (Cell.low (A ++ B).length) = true
  rw [List.all_append, Bool.and_eq_true]
  refine ⟨List.all_eq_true.mpr fun c hc => cell_mono (by rw [List.length_append]; omega) c (List.all_eq_true.mp hA c hc), List.all_eq_true.mpr fun c hc => cell_mono (Nat.zero_le _) c (List.all_eq_true.mp hB c hc)⟩
theorem LProg.low (n : Nat) (p : LProg) : LW.low n p.pv = true := by
  unfold LProg.pv
  refine low_tup fun x hx => ?_
  simp only [List.mem_cons, List.not_mem_nil, or_false] at hx
  rcases hx with rfl | rfl
  · refine low_tup fun x hx => ?_
    obtain ⟨h, _, rfl⟩ := List.mem_map.mp hx
    exact house_low _ h
  · refine low_tup fun x hx => ?_
    obtain ⟨r, _, rfl⟩ := List.mem_map.mp hx
    unfold LRou.pv
    refine low_tup fun x hx => ?_
    simp only [List.mem_cons, List.not_mem_nil, or_false] at hx
    rcases hx with rfl | rfl
    · exact low_int
    · refine low_tup fun x hx => ?_
      obtain ⟨r, _, rfl⟩ := List.mem_map.mp hx
      exact row_low _ r
set_option maxHeartbeats 8000000 in
theorem read_any (S : Store) (hS : LowS S) (t : Str) (ht : TOk 90000 t) :
    PostC (m_read [.str t] S) (fun v S' => firstBad (wordsOf t) = none ∧ chk (progOf (wordsOf t)) = none ∧ v = (progOf (wordsOf t)).pv ∧ S' = S)
      fun e S' => (match firstBad (wordsOf t) with | some k => e = badText k | none => chk (progOf (wordsOf t)) = some e) ∧ ∃ B, S' = S ++ B ∧ LowS S' := by
  have hLn := lines_len ht
  have hWl := words_len' t
  unfold m_read
  refine c_fn rfl (c_seq (PostC.post ?_))
  ((repeat sizeOf_list_dec) <;> (try dsimp only))
  refine ⟨by trivial, c_seq (PostC.post ?_)⟩
  ((repeat sizeOf_list_dec) <;> (try dsimp only))
  refine ⟨by trivial, c_seq (c_for (pairs (upto 0 ((linesOf t).map PV.str).length) ((linesOf t).map PV.str)) (fun i env S' => ∃ (a : Acc) (x3 x4 x5 x6 x7 : Option PV), readN (wordsOf t) i = some a ∧ (∀ j, j < i → badAt (wordsOf t) j = false) ∧ a.hs.length ≤ i ∧ a.rs.length ≤ i ∧ (∀ q ∈ a.rs, q.2.length ≤ i) ∧ S' = S ++ a.cells S.length ∧ env = [some (.str t), some (.loc S.length), some (.loc (S.length + 1)), x3, x4, x5, x6, x7, none, none]) ?_)⟩
  ((repeat sizeOf_list_dec) <;> (try dsimp only))
  refine w_splitS.mpr ?_
  ((repeat sizeOf_list_dec) <;> (try dsimp only))
  refine ⟨t, rfl, ?_⟩
  ((repeat sizeOf_list_dec) <;> (try dsimp only))
  refine ⟨_, rfl, by decide +kernel, by have := ht.len; rw [sizeLine_eq]; omega, ?_⟩
  refine ⟨by rfl, ⟨⟨[], []⟩, none, none, none, none, none, read0 _, fun j hj => absurd hj (Nat.not_lt_zero _), Nat.le_refl _, Nat.le_refl _, fun q h => absurd h List.not_mem_nil, ?_, ?_⟩, ?_, ?_⟩
  · show S ++ [Cell.lst []] ++ [Cell.lst []] = _
    rw [List.append_assoc]
    rfl
  · rw [List.length_append]
    rfl
  · rintro i env S' x ⟨a, x3, x4, x5, x6, x7, hrun, hgood, hhl, hrl, hrows, rfl, rfl⟩ hx
    refine ⟨by rfl, ?_⟩
    obtain ⟨k, l, hk, hl, rfl⟩ := pairs_at hx
    rw [List.getElem?_map, Option.map_eq_some_iff] at hl
    obtain ⟨l, hl, rfl⟩ := hl
    have hlt := (List.getElem?_eq_some_iff.mp hl).1
    have hk2 : i < ((linesOf t).map PV.str).length := by rw [List.length_map]; exact hlt
    rw [upto_get hk2] at hk
    cases hk
    rw [Int.zero_add]
    have hi : i ≤ 100000 := by omega
    have hm := List.mem_of_getElem? hl
    have hlo := line_tok ht hm
    have hw := words_at hl
    have hwl : i < (wordsOf t).length := by rw [hWl]; exact hlt
    have hne := pieces_ne l " "
    have hwo : ∀ w ∈ Txt.split l " ", WOk w := fun w hw => word_wok hlo hw
    have hwn : (Txt.split l " ").length ≤ 90001 := words_of_len hlo
    have hnx := read_succ hw hrun
    have hbh := behind (Nat.le_of_lt hwl) hgood hrun
    have hgd : (wordsOf t).getD i [] = Txt.split l " " := by rw [List.getD_eq_getElem?_getD, hw]; rfl
    have hbad : badAt (wordsOf t) i = !lineB (Txt.split l " ") (!a.rs.isEmpty) := by unfold badAt; rw [hgd, hbh]
    have grow : badAt (wordsOf t) i = false → ∀ j, j < i + 1 → badAt (wordsOf t) j = false := fun h j hj => by
      by_cases e : j < i
      · exact hgood j e
      · rw [show j = i by omega]
        exact h
    refine (w_gTp (xs := [.int i, .str l]) (by rfl) (by rfl)).mpr ?_
    ((repeat sizeOf_list_dec) <;> (try dsimp only))
    refine c_seq (PostC.post ?_)
    ((repeat sizeOf_list_dec) <;> (try dsimp only))
    refine w_splitS.mpr ?_
    ((repeat sizeOf_list_dec) <;> (try dsimp only))
    refine ⟨l, rfl, ?_⟩
    ((repeat sizeOf_list_dec) <;> (try dsimp only))
    refine ⟨_, rfl, by decide +kernel, by have := hlo.len; rw [sizeLine_eq]; omega, ?_⟩
    refine ⟨by trivial, ?_⟩
    generalize Txt.split l " " = ws at hw hne hwo hwn hnx hgd hbad
    have out : badAt (wordsOf t) i = true → (match firstBad (wordsOf t) with | some k => badText i = badText k | none => chk (progOf (wordsOf t)) = some (badText i)) ∧ ∃ B, (S ++ a.cells S.length) = S ++ B ∧ LowS (S ++ a.cells S.length) := fun h => by
      rw [bad_some hwl hgood h]
      exact ⟨rfl, _, rfl, acc_low hS a⟩
    refine c_if ?_
    ((repeat sizeOf_list_dec) <;> (try dsimp only))
    refine (is_house_line_spec _ _ hwo).mono ?_
    rintro _ _ ⟨rfl, rfl⟩
    cases hB : isHouseB ws with
    | true =>
      obtain ⟨b, c, d, rfl⟩ := house_head hB
      ((repeat sizeOf_list_dec) <;> (try dsimp only))
      refine (w_len acc_seq1).mpr ?_
      rw [rcs_length]
      rw [houseB_line, hB, Bool.and_true, Bool.not_not] at hbad
      obtain ⟨hs, rs⟩ := a
      cases rs with
      | nil =>
        ((repeat sizeOf_list_dec) <;> (try dsimp only))
        rw [show ((([] : List (Nat × List Row)).length : Int) == 0) = true from rfl]
        ((repeat sizeOf_list_dec) <;> (try dsimp only))
        refine PostC.post ?_
        ((repeat sizeOf_list_dec) <;> (try dsimp only))
        refine ⟨_, _, rfl, acc_at0, ?_⟩
        ((repeat sizeOf_list_dec) <;> (try dsimp only))
        refine (house_read_spec _ "house" b c d (hwo _ (by simp)) (hwo _ (by simp)) hB).mono ?_
        rintro _ _ ⟨rfl, rfl⟩
        refine (w_mAppend acc_at0 (by rw [List.length_map]; exact Nat.lt_of_le_of_lt (show hs.length ≤ 100000 by have : hs.length ≤ i := hhl; omega) (by decide))).mpr ?_
        rw [acc_house]
        rw [item_house] at hnx
        refine ⟨by trivial, _, _, _, _, _, _, hnx, grow hbad, ?_, Nat.zero_le _, fun q h => absurd h List.not_mem_nil, rfl, rfl⟩
        show (hs ++ [_]).length ≤ i + 1
        rw [List.length_append]
        exact Nat.add_le_add_right hhl 1
      | cons q rs =>
        ((repeat sizeOf_list_dec) <;> (try dsimp only))
        rw [show (((q :: rs).length : Int) == 0) = false from beq_eq_false_iff_ne.mpr (by rw [List.length_cons]; omega)]
        ((repeat sizeOf_list_dec) <;> (try dsimp only))
        refine c_if ?_
        ((repeat sizeOf_list_dec) <;> (try dsimp only))
        refine (is_routine_line_spec _ _ hwo).mono ?_
        rintro _ _ ⟨rfl, rfl⟩
        rw [isRoutineB_ne (by show 4 ≠ 2; decide)]
        ((repeat sizeOf_list_dec) <;> (try dsimp only))
        refine c_if ?_
        ((repeat sizeOf_list_dec) <;> (try dsimp only))
        refine (is_row_line_spec _ _ hwo hne (by show 4 ≤ 100000; decide)).mono ?_
        rintro _ _ ⟨rfl, rfl⟩
        rw [show isRowB ["house", b, c, d] = false by rw [isRowB_cons, show formOf ("house" : Str) = none by decide +kernel]; rfl]
        ((repeat sizeOf_list_dec) <;> (try dsimp only))
        refine c_raiseO ?_
        ((repeat sizeOf_list_dec) <;> (try dsimp only))
        exact ⟨rfl, text_text (by omega), out (by rw [hbad]; rfl)⟩
    | false =>
      ((repeat sizeOf_list_dec) <;> (try dsimp only))
      refine c_if ?_
      ((repeat sizeOf_list_dec) <;> (try dsimp only))
      refine (is_routine_line_spec _ _ hwo).mono ?_
      rintro _ _ ⟨rfl, rfl⟩
      cases hR : isRoutineB ws with
      | true =>
        obtain ⟨b, rfl⟩ := routine_head hR
        rw [routineB_line, hR] at hbad
        have hnum : numB b = true := by
          rw [isRoutineB_2, Bool.and_eq_true] at hR
          exact hR.2
        ((repeat sizeOf_list_dec) <;> (try dsimp only))
        refine PostC.post ?_
        ((repeat sizeOf_list_dec) <;> (try dsimp only))
        refine ⟨_, _, rfl, acc_at1, ?_⟩
        ((repeat sizeOf_list_dec) <;> (try dsimp only))
        refine (w_num hnum).mpr ?_
        ((repeat sizeOf_list_dec) <;> (try dsimp only))
        refine (w_mAppend (xs := rcs (S.length + 2) a.rs) ?_ ?_).mpr ?_
        · rw [List.getElem?_append_left (by unfold Acc.cells; rw [List.length_append, List.length_cons, List.length_cons]; omega)]
          exact acc_at1
        · rw [rcs_length]
          exact Nat.lt_of_le_of_lt (show a.rs.length ≤ 100000 by omega) (by decide)
        · rw [acc_routine]
          rw [item_routine] at hnx
          refine ⟨by trivial, _, _, _, _, _, _, hnx, grow hbad, Nat.le_succ_of_le hhl, ?_, fun q h => ?_, rfl, rfl⟩
          · show (a.rs ++ [_]).length ≤ i + 1
            rw [List.length_append]
            exact Nat.add_le_add_right hrl 1
          · rcases List.mem_append.mp h with h | h
            · exact Nat.le_succ_of_le (hrows q h)
            · rw [List.mem_singleton.mp h]
              exact Nat.zero_le _
      | false =>
        ((repeat sizeOf_list_dec) <;> (try dsimp only))
        refine c_if ?_
        ((repeat sizeOf_list_dec) <;> (try dsimp only))
        refine (is_row_line_spec _ _ hwo hne (by omega)).mono ?_
        rintro _ _ ⟨rfl, rfl⟩
        cases hW : isRowB ws with
        | false =>
          ((repeat sizeOf_list_dec) <;> (try dsimp only))
          refine c_raiseO ?_
          ((repeat sizeOf_list_dec) <;> (try dsimp only))
          exact ⟨rfl, text_text (by omega), out (by rw [hbad, none_line hB hR hW]; rfl)⟩
        | true =>
          obtain ⟨w, r, rfl, hh, hr⟩ := row_headB hW
          rw [line_row (ws := w :: r) (fun z => hh (Option.some.inj z)) (fun z => hr (Option.some.inj z)), hW, Bool.and_true, Bool.not_not] at hbad
          ((repeat sizeOf_list_dec) <;> (try dsimp only))
          refine (w_len acc_seq1).mpr ?_
          rw [rcs_length]
          obtain ⟨hs, rs⟩ := a
          rcases List.eq_nil_or_concat rs with h0 | ⟨init, q, h0⟩
          · subst h0
            ((repeat sizeOf_list_dec) <;> (try dsimp only))
            rw [show decide ((0 : Int) < ((Acc.rs ⟨hs, []⟩).length : Int)) = false from rfl]
            ((repeat sizeOf_list_dec) <;> (try dsimp only))
            refine c_raiseO ?_
            ((repeat sizeOf_list_dec) <;> (try dsimp only))
            exact ⟨rfl, text_text (by omega), out (by rw [hbad]; rfl)⟩
          · have h0 : rs = init ++ [q] := by rw [h0, List.concat_eq_append]
            subst h0
            obtain ⟨n, vs⟩ := q
            ((repeat sizeOf_list_dec) <;> (try dsimp only))
            rw [decide_eq_true (show (0 : Int) < ((Acc.rs ⟨hs, init ++ [(n, vs)]⟩).length : Int) by show (0 : Int) < ((init ++ [(n, vs)]).length : Int); rw [List.length_append, List.length_cons]; omega)]
            ((repeat sizeOf_list_dec) <;> (try dsimp only))
            refine c_seq (PostC.post ?_)
            ((repeat sizeOf_list_dec) <;> (try dsimp only))
            have hat1 : seqOf (S ++ Acc.cells S.length ⟨hs, init ++ [(n, vs)]⟩) (.loc (S.length + 1)) = some (rcs (S.length + 2) init ++ [.tup [.int n, .loc (S.length + 2 + init.length)]]) := by
              rw [acc_seq1]
              show some (rcs (S.length + 2) (init ++ [(n, vs)])) = _
              rw [rcs_snoc]
            refine (w_ix hat1 (L2.atI_last _ _)).mpr ?_
            ((repeat sizeOf_list_dec) <;> (try dsimp only))
            have hq : (init ++ [(n, vs)])[init.length]? = some (n, vs) := List.getElem?_concat_length
            have hat := acc_at (S := S) (a := ⟨hs, init ++ [(n, vs)]⟩) hq
            refine ⟨by trivial, PostC.post ?_⟩
            ((repeat sizeOf_list_dec) <;> (try dsimp only))
            refine ⟨_, _, rfl, hat, ?_⟩
            ((repeat sizeOf_list_dec) <;> (try dsimp only))
            refine (row_read_spec _ w r hW).mono ?_
            rintro _ _ ⟨rfl, rfl⟩
            rw [← rowOf_pv hW]
            rw [item_row hh hr, run_row] at hnx
            refine (w_mAppend hat ?_).mpr ?_
            · have := hrows (n, vs) (by simp)
              rw [List.length_map]
              exact Nat.lt_of_le_of_lt (show vs.length ≤ 100000 by simp only at this; omega) (by decide)
            · rw [acc_row]
              refine ⟨by trivial, _, _, _, _, _, _, hnx, grow (hbad.trans (by simp)), Nat.le_succ_of_le hhl, ?_, fun q h => ?_, rfl, rfl⟩
              · have : (init ++ [(n, vs)]).length ≤ i := hrl
                show (init ++ [_]).length ≤ i + 1
                rw [List.length_append] at this ⊢
                exact Nat.le_succ_of_le this
              · rcases List.mem_append.mp h with h | h
                · exact Nat.le_succ_of_le (hrows q (List.mem_append.mpr (.inl h)))
                · rw [List.mem_singleton.mp h]
                  have := hrows (n, vs) (by simp)
                  show (vs ++ [_]).length ≤ i + 1
                  rw [List.length_append]
                  exact Nat.add_le_add_right this 1
  · rintro env S' ⟨a, x3, x4, x5, x6, x7, hrun, hgood, hhl, hrl, hrows, rfl, rfl⟩
    refine ⟨by rfl, ?_⟩
    have hal : (pairs (upto 0 ((linesOf t).map PV.str).length) ((linesOf t).map PV.str)).length = (wordsOf t).length := by rw [pairs_length, upto_length, Nat.min_self, List.length_map, hWl]
    rw [hal] at hrun hgood hhl hrl hrows
    have hnone := bad_none_of hgood
    have hp : progOf (wordsOf t) = a.toL := by unfold progOf; rw [hrun]; rfl
    have hHl := read_hlen ht hrun
    rw [hnone, hp]
    have hat0 := acc_at0 (S := S) (a := a)
    have hat1 := acc_at1 (S := S) (a := a)
    refine ⟨by trivial, c_seq (PostC.post ?_)⟩
    ((repeat sizeOf_list_dec) <;> (try dsimp only))
    refine (w_tuple (xs := a.hs.map House.pv) (by show (match (S ++ Acc.cells S.length a)[S.length]? with | some (.lst xs) => some xs | _ => none) = _; rw [hat0])).mpr ?_
    ((repeat sizeOf_list_dec) <;> (try dsimp only))
    refine lc_valsG (enc := fun q : (Nat × List Row) × Nat => PV.tup [.int q.1.1, .loc (S.length + 2 + q.2)]) (zs := a.rs.zipIdx) (fun q => PV.tup [.int q.1.1, .tup (q.1.2.map Row.pv)]) (by show (match (S ++ Acc.cells S.length a)[S.length + 1]? with | some (.lst xs) => some xs | _ => none) = _; rw [hat1]; rfl) (by rw [List.length_zipIdx]; omega) (fun q hq => ?_) ?_
    · refine (w_gTp (xs := [.int q.1.1, .loc (S.length + 2 + q.2)]) (by rfl) (by rfl)).mpr ?_
      ((repeat sizeOf_list_dec) <;> (try dsimp only))
      refine ⟨by trivial, ?_⟩
      ((repeat sizeOf_list_dec) <;> (try dsimp only))
      have hq := acc_at (S := S) (List.mem_zipIdx_iff_getElem?.mp hq)
      refine (w_tuple (xs := q.1.2.map Row.pv) (by show (match (S ++ Acc.cells S.length a)[S.length + 2 + q.2]? with | some (.lst xs) => some xs | _ => none) = _; rw [hq])).mpr ?_
      ((repeat sizeOf_list_dec) <;> (try dsimp only))
      exact ⟨by trivial, by trivial⟩
    · ((repeat sizeOf_list_dec) <;> (try dsimp only))
      have e2 : PV.tup [.tup (a.hs.map House.pv), .tup (a.rs.zipIdx.map fun q => PV.tup [.int q.1.1, .tup (q.1.2.map Row.pv)])] = a.toL.pv := by
        rw [Acc.toL_pv]
        unfold Acc.pv
        have ez : ∀ (rs : List (Nat × List Row)) (k : Nat), ((rs.zipIdx k).map fun q => PV.tup [.int q.1.1, .tup (q.1.2.map Row.pv)]) = rs.map fun q => PV.tup [.int q.1, .tup (q.2.map Row.pv)] := by
          intro rs
          induction rs with
          | nil => intro k; rfl
          | cons x r ih =>
            intro k
            rw [List.zipIdx_cons, List.map_cons, ih]
            rfl
        rw [ez]
      rw [e2]
      refine ⟨by trivial, c_seq (c_drop (c_call ?_))⟩
      ((repeat sizeOf_list_dec) <;> (try dsimp only))
      refine PostC.mono (chk_spec _ (acc_low hS a) a.toL hHl) ?_ ?_
      · rintro _ _ ⟨hc, rfl, rfl⟩
        refine ⟨by trivial, PostC.post ?_⟩
        ((repeat sizeOf_list_dec) <;> (try dsimp only))
        refine (leave_drop (w := a.toL.pv) hS (by unfold Acc.cells; simp) (by
          show (if LW.low _ a.toL.pv = true then some _ else none) = _
          rw [if_pos (LProg.low _ _)])).mpr ⟨by trivial, hc, rfl, rfl⟩
      · rintro e S' ⟨hc, B, rfl, hB⟩
        exact ⟨hc, _, List.append_assoc _ _ _, low_app (acc_low hS a) hB⟩
end

/-! PureCkE -/
/-! PureCkE: the law's own reading of good lines (k20). -/
section
open PySem L2
/-- [f(x) for x in xs if p(x)], long ones too -/
theorem lc_fmL {α : Type} {enc : α → PV} {it : LW.It} {zs : List α} {env : LW.Env} {S : Store} {QA : List PV → Store → Prop} {v : Nat} {t : XB} {e : XE} (p : α → Bool) (f : α → PV) (ha : it.items S = some (zs.map enc)) (hn : zs.length ≤ 100000)
    (ht : ∀ z, z ∈ zs → Post (t (env.set v (some (enc z))) S) fun k S' => k = p z ∧ S' = S) (he : ∀ z, z ∈ zs → p z = true → Post (e (env.set v (some (enc z))) S) fun y S' => y = f z ∧ S' = S) (hQ : QA ((zs.filter p).map f) S) : LcP it (gNm v) t e env S QA := by
  refine ⟨zs.map enc, ha, lc_inv (fun i acc S' => i ≤ zs.length ∧ acc = ((zs.take i).filter p).map f ∧ S' = S) ?_ ?_ _ 0 rfl (Nat.zero_le _) _ _ ⟨Nat.zero_le _, rfl, rfl⟩⟩
  · rintro i acc S' x ⟨hi, rfl, rfl⟩ hx
    refine ⟨ha, ?_⟩
    rw [List.getElem?_map, Option.map_eq_some_iff] at hx
    obtain ⟨b, hb, rfl⟩ := hx
    have hlt := (List.getElem?_eq_some_iff.mp hb).1
    refine w_gNm.mpr ((ht b (List.mem_of_getElem? hb)).mono ?_)
    rintro k S2 ⟨rfl, rfl⟩
    have htk : zs.take (i + 1) = zs.take i ++ [b] := by rw [List.take_add_one, hb]; rfl
    cases hp : p b with
    | true =>
      rw [if_pos rfl]
      refine (he b (List.mem_of_getElem? hb) hp).mono ?_
      rintro y S3 ⟨rfl, rfl⟩
      refine ⟨?_, hlt, ?_, rfl⟩
      · rw [List.length_map]
        exact Nat.lt_of_le_of_lt (Nat.le_trans (List.length_filter_le _ _) (by rw [List.length_take]; exact Nat.le_trans (Nat.min_le_right _ _) hn)) (by decide : 100000 < lim)
      · rw [htk, List.filter_append, List.map_append, List.filter_cons_of_pos (by exact hp)]
        rfl
    | false =>
      rw [if_neg (by decide)]
      refine ⟨hlt, ?_, rfl⟩
      rw [htk, List.filter_append, List.filter_cons_of_neg (by rw [hp]; decide)]
      simp
  · rintro acc S' ⟨_, rfl, rfl⟩
    rw [List.length_map, List.take_length]
    exact ⟨ha, hQ⟩
end
section
open PySem L2
def rsP (q : Nat × List Row) : PV := .tup [.int q.1, .tup (q.2.map Row.pv)]
theorem two0 {S : Store} {a b : Cell} : (S ++ [a, b])[S.length]? = some a := get_app (A := S) (B := [a, b]) (i := 0)
theorem two1 {S : Store} {a b : Cell} : (S ++ [a, b])[S.length + 1]? = some b := get_app (A := S) (B := [a, b]) (i := 1)
theorem two_set0 {S : Store} {a b c : Cell} : (S ++ [a, b]).set S.length c = S ++ [c, b] := set_app (A := S) (B := [a, b]) (i := 0)
theorem two_set1 {S : Store} {a b c : Cell} : (S ++ [a, b]).set (S.length + 1) c = S ++ [a, c] := set_app (A := S) (B := [a, b]) (i := 1)
def noDash (c : Nat) : Bool := !decide ((⟨#[c]⟩ : Str) = ("-" : Str))
theorem dash_eq {c : Nat} : noDash c = !decide (c = 45) := by
  unfold noDash
  have e : ("-" : Str) = ⟨#[45]⟩ := by decide +kernel
  rw [e]
  by_cases h : c = 45
  · rw [h]
    rfl
  · rw [decide_eq_false h, decide_eq_false]
    intro z
    have z2 : [c] = [45] := congrArg (fun s : Str => s.cps.toList) z
    exact h (List.cons.inj z2).1
theorem boxB_cases {w : Str} (h : boxB w = true) : (w = ("-" : Str) ∧ w.cps.toList = [45]) ∨ (w ≠ ("-" : Str) ∧ w.cps.toList.all figB = true) := by
  unfold boxB at h
  by_cases h0 : w = ("-" : Str)
  · exact .inl ⟨h0, by rw [h0]; decide +kernel⟩
  · rw [decide_eq_false h0, Bool.false_or] at h
    unfold figsB at h
    rw [Bool.and_eq_true] at h
    exact .inr ⟨h0, h.2⟩
theorem boxes_made {w : Str} (h : boxB w = true) : ((w.cps.toList.filter noDash).map fun c => PV.int ((c - 48 : Nat) : Int)) = ivs (boxesOf w) := by
  unfold boxesOf
  rcases boxB_cases h with ⟨h1, h2⟩ | ⟨h1, h2⟩
  · rw [if_pos h1, h2]
    decide +kernel
  · rw [if_neg h1]
    have e : w.cps.toList.filter noDash = w.cps.toList := List.filter_eq_self.mpr fun c hc => by
      have := figB_iff.mp (List.all_eq_true.mp h2 c hc)
      rw [dash_eq, decide_eq_false (by omega)]
      rfl
    rw [e]
    unfold ivs
    rw [List.map_map]
    rfl
theorem boxes_fig {w : Str} (h : boxB w = true) {c : Nat} (hc : c ∈ w.cps.toList) (hd : noDash c = true) : figB c = true := by
  rcases boxB_cases h with ⟨h1, h2⟩ | ⟨h1, h2⟩
  · rw [h2] at hc
    rw [List.mem_singleton.mp hc] at hd
    rw [dash_eq] at hd
    cases hd
  · exact List.all_eq_true.mp h2 c hc
set_option maxHeartbeats 8000000 in
theorem made_spec (S : Store) (hS : LowS S) (t : Str) (ht : TOk 90000 t) (hgood : firstBad (wordsOf t) = none) : Post (m_made [.ls ((linesOf t).map .str)] S) fun v S' => v = (progOf (wordsOf t)).pv ∧ S' = S := by
  have hLn := lines_len ht
  have hWl := words_len' t
  have hgood := bad_none hgood
  unfold m_made
  refine w_fnP rfl ?_
  ((repeat sizeOf_list_dec) <;> (try dsimp only))
  refine for_go (all := (linesOf t).map PV.str) (fun i env S' => ∃ (a : Acc) (x3 x4 x5 x6 x7 x8 : Option PV), readN (wordsOf t) i = some a ∧ a.hs.length ≤ i ∧ a.rs.length ≤ i ∧ (∀ q ∈ a.rs, q.2.length ≤ i) ∧ S' = S ++ [.lst (a.hs.map House.pv), .lst (a.rs.map rsP)] ∧ env = [some (.ls ((linesOf t).map .str)), some (.loc S.length), some (.loc (S.length + 1)), x3, x4, x5, x6, x7, x8, none, none]) (by rfl) ⟨⟨[], []⟩, none, none, none, none, none, none, read0 _, Nat.le_refl _, Nat.le_refl _, fun q h => absurd h List.not_mem_nil, ?_, ?_⟩ ?_ ?_
  · show S ++ [Cell.lst []] ++ [Cell.lst []] = _
    rw [List.append_assoc]
    rfl
  · rw [List.length_append]
    rfl
  · rintro i env S' x ⟨a, x3, x4, x5, x6, x7, x8, hrun, hhl, hrl, hrows, rfl, rfl⟩ hl
    refine ⟨by rfl, ?_⟩
    rw [List.getElem?_map, Option.map_eq_some_iff] at hl
    obtain ⟨l, hl, rfl⟩ := hl
    have hlt := (List.getElem?_eq_some_iff.mp hl).1
    have hi : i ≤ 90000 := by omega
    have hm := List.mem_of_getElem? hl
    have hlo := line_tok ht hm
    have hw := words_at hl
    have hwl : i < (wordsOf t).length := by rw [hWl]; exact hlt
    have hwo : ∀ w ∈ Txt.split l " ", WOk w := fun w hw => word_wok hlo hw
    have hnx := read_succ hw hrun
    have hbh := behind (Nat.le_of_lt hwl) (fun j hj => hgood j (by omega)) hrun
    have hgd : (wordsOf t).getD i [] = Txt.split l " " := by rw [List.getD_eq_getElem?_getD, hw]; rfl
    have hg : lineB (Txt.split l " ") (!a.rs.isEmpty) = true := by
      have := hgood i hwl
      unfold badAt at this
      rw [hgd, hbh] at this
      simpa using this
    ((repeat sizeOf_list_dec) <;> (try dsimp only))
    refine w_splitS.mpr ?_
    ((repeat sizeOf_list_dec) <;> (try dsimp only))
    refine ⟨l, rfl, ?_⟩
    ((repeat sizeOf_list_dec) <;> (try dsimp only))
    refine ⟨_, rfl, by decide +kernel, by have := hlo.len; rw [sizeLine_eq]; omega, ?_⟩
    have hne := pieces_ne l " "
    generalize Txt.split l " " = ws at hw hne hwo hnx hgd hg
    by_cases h1 : ws.head? = some ("house" : Str)
    · rw [line_house h1, Bool.and_eq_true] at hg
      obtain ⟨b, c, d, rfl⟩ := house_head hg.2
      have hB := hg.2
      rw [isHouseB_4] at hB
      simp only [Bool.and_eq_true] at hB
      have hrs : a.rs = [] := by
        have := hg.1
        simpa using this
      obtain ⟨hs, rs⟩ := a
      have hrs : rs = [] := hrs
      subst hrs
      ((repeat sizeOf_list_dec) <;> (try dsimp only))
      rw [show decide True = true from rfl]
      ((repeat sizeOf_list_dec) <;> (try dsimp only))
      refine (lc_valsL (enc := PV.str) (zs := [b, d]) (fun w => PV.tup (ivs (boxesOf w))) (by rfl) (by show 2 ≤ 100000; decide) (fun w hw => ?_) ?_)
      · have hwb : boxB w = true ∧ WOk w := by
          simp only [List.mem_cons, List.not_mem_nil, or_false] at hw
          rcases hw with rfl | rfl
          · exact ⟨hB.2.1, hwo _ (by simp)⟩
          · exact ⟨hB.2.2.2, hwo _ (by simp)⟩
        ((repeat sizeOf_list_dec) <;> (try dsimp only))
        refine w_iChs.mpr ?_
        ((repeat sizeOf_list_dec) <;> (try dsimp only))
        refine ⟨w, rfl, ?_⟩
        have hwl2 := hwb.2.len
        rw [TL.len_tl] at hwl2
        refine lc_fmL (enc := fun c : Nat => PV.str ⟨#[c]⟩) (zs := w.cps.toList) noDash (fun c => PV.int ((c - 48 : Nat) : Int)) (by rfl) hwl2 (fun c hc => ?_) (fun c hc hd => ?_) ?_
        · ((repeat sizeOf_list_dec) <;> (try dsimp only))
          refine (w_neS (one_ok (sign_ok hwb.2.ok c hc)) (by decide +kernel)).mpr ?_
          exact ⟨rfl, rfl⟩
        · ((repeat sizeOf_list_dec) <;> (try dsimp only))
          exact (w_intSS (digit_reads (boxes_fig hwb.1 hc hd)) (by show 1 ≤ 640; decide)).mpr ⟨rfl, rfl⟩
        · ((repeat sizeOf_list_dec) <;> (try dsimp only))
          exact ⟨by rw [boxes_made hwb.1], by trivial⟩
      · show Post (gTp [gNm 5, gNm 6] (.ls [.tup (ivs (boxesOf b)), .tup (ivs (boxesOf d))]) _ _) _
        ((repeat sizeOf_list_dec) <;> (try dsimp only))
        refine ⟨_, _, rfl, two0, ?_⟩
        ((repeat sizeOf_list_dec) <;> (try dsimp only))
        refine (w_num hB.2.2.1).mpr ?_
        ((repeat sizeOf_list_dec) <;> (try dsimp only))
        refine (w_mAppend two0 (by rw [List.length_map]; exact Nat.lt_of_le_of_lt (show hs.length ≤ 100000 by have : hs.length ≤ i := hhl; omega) (by decide))).mpr ?_
        rw [two_set0]
        rw [item_house] at hnx
        refine ⟨_, _, _, _, _, _, _, hnx, ?_, Nat.zero_le _, fun q h => absurd h List.not_mem_nil, ?_, rfl⟩
        · show (hs ++ [_]).length ≤ i + 1
          rw [List.length_append]
          exact Nat.add_le_add_right hhl 1
        · show _ = S ++ [.lst ((hs ++ [_]).map House.pv), .lst []]
          rw [List.map_append]
          rfl
    · by_cases h2 : ws.head? = some ("routine" : Str)
      · rw [line_routine h2] at hg
        obtain ⟨b, rfl⟩ := routine_head hg
        have hnum : numB b = true := by
          rw [isRoutineB_2, Bool.and_eq_true] at hg
          exact hg.2
        ((repeat sizeOf_list_dec) <;> (try dsimp only))
        rw [show decide (("routine" : Str) = "house") = false by decide +kernel]
        ((repeat sizeOf_list_dec) <;> (try dsimp only))
        rw [show decide True = true from rfl]
        ((repeat sizeOf_list_dec) <;> (try dsimp only))
        refine ⟨_, _, rfl, two1, ?_⟩
        ((repeat sizeOf_list_dec) <;> (try dsimp only))
        refine (w_num hnum).mpr ?_
        ((repeat sizeOf_list_dec) <;> (try dsimp only))
        refine (w_mAppend two1 (by rw [List.length_map]; exact Nat.lt_of_le_of_lt (show a.rs.length ≤ 100000 by omega) (by decide))).mpr ?_
        rw [two_set1]
        rw [item_routine] at hnx
        refine ⟨_, _, _, _, _, _, _, hnx, Nat.le_succ_of_le hhl, ?_, fun q h => ?_, ?_, rfl⟩
        · show (a.rs ++ [_]).length ≤ i + 1
          rw [List.length_append]
          exact Nat.add_le_add_right hrl 1
        · rcases List.mem_append.mp h with h | h
          · exact Nat.le_succ_of_le (hrows q h)
          · rw [List.mem_singleton.mp h]
            exact Nat.zero_le _
        · show _ = S ++ [.lst (a.hs.map House.pv), .lst ((a.rs ++ [_]).map rsP)]
          rw [List.map_append]
          rfl
      · rw [line_row h1 h2, Bool.and_eq_true] at hg
        have hW := hg.2
        obtain ⟨w, r, rfl, hh, hr⟩ := row_headB hW
        obtain ⟨hs, rs⟩ := a
        rcases List.eq_nil_or_concat rs with h0 | ⟨init, q, h0⟩
        · subst h0
          exact absurd (show false = true from hg.1) (by decide)
        · have h0 : rs = init ++ [q] := by rw [h0, List.concat_eq_append]
          subst h0
          obtain ⟨n, vs⟩ := q
          have hw0 := hwo w (by simp)
          have hrn : r.length ≤ 3 := by
            rw [isRowB_cons, Bool.and_eq_true, decide_eq_true_eq] at hW
            rcases places w with ⟨_, f⟩ | ⟨ps, _, f, hl⟩
            · rw [f] at hW
              cases hW.1
            · rw [f] at hW
              have := Option.some.inj hW.1
              omega
          have hnums : ∀ x ∈ r, numB x = true := by
            rw [isRowB_cons, Bool.and_eq_true] at hW
            exact List.all_eq_true.mp hW.2
          ((repeat sizeOf_list_dec) <;> (try dsimp only))
          refine (w_eqS hw0.ok (by decide +kernel)).mpr ?_
          rw [decide_eq_false hh]
          ((repeat sizeOf_list_dec) <;> (try dsimp only))
          refine (w_eqS hw0.ok (by decide +kernel)).mpr ?_
          rw [decide_eq_false hr]
          ((repeat sizeOf_list_dec) <;> (try dsimp only))
          refine w_meth0 ?_
          ((repeat sizeOf_list_dec) <;> (try dsimp only))
          refine ⟨_, _, rfl, two1, ?_⟩
          have hv := hrows (n, vs) (by simp)
          have hv : vs.length ≤ i := hv
          refine (w_mPop (y := rsP (n, vs)) two1 (by show ((init ++ [(n, vs)]).map rsP).getLast? = _; rw [List.map_append]; simp)).mpr ?_
          rw [two_set1]
          show Post (gTp [gNm 7, gNm 8] (.tup [.int n, .tup (vs.map Row.pv)]) _ _) _
          ((repeat sizeOf_list_dec) <;> (try dsimp only))
          refine ⟨_, _, rfl, two1, ?_⟩
          ((repeat sizeOf_list_dec) <;> (try dsimp only))
          rw [List.map_cons, cut1]
          refine lc_valsL (enc := PV.str) (zs := r) (fun x => PV.int (numOf x)) (by rfl) (by omega) (fun x hx => ?_) ?_
          · ((repeat sizeOf_list_dec) <;> (try dsimp only))
            exact (w_num (hnums x hx)).mpr ⟨rfl, rfl⟩
          · ((repeat sizeOf_list_dec) <;> (try dsimp only))
            refine (w_addT (by rw [List.length_map]; exact le_lim (by show 1 + r.length ≤ 1000; omega))).mpr ?_
            ((repeat sizeOf_list_dec) <;> (try dsimp only))
            have e1 : PV.tup ([PV.str w] ++ r.map fun x => PV.int (numOf x)) = (rowOf w r).pv := by
              rw [rowOf_pv hW]
              unfold ivs
              rw [List.map_map]
              rfl
            rw [e1]
            refine (w_addT (by rw [List.length_map]; show vs.length + 1 ≤ 1000000; omega)).mpr ?_
            ((repeat sizeOf_list_dec) <;> (try dsimp only))
            refine (w_mAppend two1 (by show (((init ++ [(n, vs)]).map rsP).dropLast).length < lim; rw [List.length_dropLast, List.length_map]; exact Nat.lt_of_le_of_lt (show (init ++ [(n, vs)]).length - 1 ≤ 100000 by have : (init ++ [(n, vs)]).length ≤ i := hrl; omega) (by decide))).mpr ?_
            rw [two_set1]
            rw [item_row hh hr, run_row] at hnx
            refine ⟨_, _, _, _, _, _, _, hnx, Nat.le_succ_of_le hhl, ?_, fun q h => ?_, ?_, rfl⟩
            · have : (init ++ [(n, vs)]).length ≤ i := hrl
              show (init ++ [_]).length ≤ i + 1
              rw [List.length_append] at this ⊢
              exact Nat.le_succ_of_le this
            · rcases List.mem_append.mp h with h | h
              · exact Nat.le_succ_of_le (hrows q (List.mem_append.mpr (.inl h)))
              · rw [List.mem_singleton.mp h]
                show (vs ++ [_]).length ≤ i + 1
                rw [List.length_append]
                exact Nat.add_le_add_right hv 1
            · show S ++ [_, .lst (((init ++ [(n, vs)]).map rsP).dropLast ++ [_])] = S ++ [_, .lst ((init ++ [(n, vs ++ [rowOf w r])]).map rsP)]
              rw [List.map_append, List.map_append]
              simp only [List.map_cons, List.map_nil, List.dropLast_concat]
              unfold rsP
              rw [List.map_append]
              rfl
  · rintro env S' ⟨a, x3, x4, x5, x6, x7, x8, hrun, hhl, hrl, hrows, rfl, rfl⟩
    refine ⟨by rfl, ?_⟩
    have hal : ((linesOf t).map PV.str).length = (wordsOf t).length := by rw [List.length_map, hWl]
    rw [hal] at hrun
    have hp : progOf (wordsOf t) = a.toL := by unfold progOf; rw [hrun]; rfl
    rw [hp]
    ((repeat sizeOf_list_dec) <;> (try dsimp only))
    refine (w_tuple (xs := a.hs.map House.pv) (by show (match (S ++ [_, _])[S.length]? with | some (.lst xs) => some xs | _ => none) = _; rw [two0])).mpr ?_
    ((repeat sizeOf_list_dec) <;> (try dsimp only))
    refine (w_tuple (xs := a.rs.map rsP) (by show (match (S ++ [_, _])[S.length + 1]? with | some (.lst xs) => some xs | _ => none) = _; rw [two1])).mpr ?_
    ((repeat sizeOf_list_dec) <;> (try dsimp only))
    have e2 : PV.tup [.tup (a.hs.map House.pv), .tup (a.rs.map rsP)] = a.toL.pv := (Acc.toL_pv a).symm
    rw [e2]
    exact (leave_drop (w := a.toL.pv) hS (by simp) (by
      show (if LW.low _ a.toL.pv = true then some _ else none) = _
      rw [if_pos (LProg.low _ _)])).mpr ⟨rfl, rfl⟩
end

/-! PureCkF -/
/-! PureCkF: what a refusal is told as; written, of any program (k20). -/
section
open PySem L2
def kP (w : Str) (n k : Int) : PV := .tup [.str "BadProgram", .str w, .int n, .int k]
def kT (k : Nat) : PV := .tup [.str "BadText", .int (k : Int)]
theorem w_kindF {m : XE} {env : LW.Env} {S : Store} {Q : PV → Store → Prop} (h : PostC (m env S) (fun _ S => Q (.str "") S) fun e S => (∃ w n k, e = badProg w n k ∧ Q (kP w n k) S) ∨ ∃ k, e = badText k ∧ Q (kT k) S) : Post (eKindF m env S) Q := by
  have n1 : (("word" : Str) == "row") = false := by decide +kernel
  have n2 : (("word" : Str) == "number") = false := by decide +kernel
  have n3 : (("number" : Str) == "row") = false := by decide +kernel
  have n4 : ("BadProgram" : Str) ≠ "" := by decide +kernel
  have n5 : ("BadText" : Str) ≠ "BadProgram" := by decide +kernel
  unfold eKindF
  cases hm : m env S with
  | ok a S1 => rw [hm] at h; exact ⟨h.told⟩
  | bad => rw [hm] at h; exact h.told.elim
  | exc e S1 =>
    rw [hm] at h
    rcases h.told with ⟨w, n, k, rfl, hq⟩ | ⟨k, rfl, hq⟩
    · simp only
      rw [if_neg (by rintro ⟨_, _, z⟩; exact absurd z (List.cons_ne_nil _ _))]
      rw [if_pos (by rfl)]
      have f : (badProg w n k).fs = [(("row" : Str), PV.int k), (("number" : Str), PV.int n), (("word" : Str), PV.str w)] := rfl
      rw [f]
      simp only [List.lookup, n1, n2, n3, beq_self_eq_true]
      exact ⟨hq⟩
    · simp only
      rw [if_neg (by rintro ⟨_, _, z⟩; exact absurd z (List.cons_ne_nil _ _))]
      rw [if_neg (by exact n5)]
      rw [if_pos (by rfl)]
      have f : (badText k).fs = [(("line" : Str), PV.int (k : Int))] := rfl
      rw [f]
      simp only [List.lookup, beq_self_eq_true]
      exact ⟨hq⟩
theorem hsC_form {e : PExc} : ∀ (hs : List House) (i : Nat), hsC i hs = some e → ∃ w n k, e = badProg w n k ∧ PyData.strOk w = true
  | [], _, h => by cases h
  | x :: r, i, h => by
    have h : (if houseB x = true then hsC (i + 1) r else some (badProg "house" i (-1))) = some e := h
    split at h
    · exact hsC_form r (i + 1) h
    · exact ⟨_, _, _, (Option.some.inj h).symm, by decide +kernel⟩
theorem rwC_form {e : PExc} {many R number : Nat} : ∀ (rs : List Row) (i : Nat), rwC many R number i rs = some e → ∃ w n k, e = badProg w n k ∧ PyData.strOk w = true
  | [], _, h => by cases h
  | x :: r, i, h => by
    have h : (if fitB R many x = true then rwC many R number (i + 1) r else some (badProg "row" number i)) = some e := h
    split at h
    · exact rwC_form r (i + 1) h
    · exact ⟨_, _, _, (Option.some.inj h).symm, by decide +kernel⟩
theorem rowsL_form {e : PExc} {rows : List Row} {number many : Nat} (h : rowsL rows number many = some e) : ∃ w n k, e = badProg w n k ∧ PyData.strOk w = true := by
  unfold rowsL rowsC at h
  split at h
  · rename_i x hx
    cases h
    exact rwC_form _ _ hx
  · split at h
    · cases h
    · exact ⟨_, _, _, (Option.some.inj h).symm, by decide +kernel⟩
theorem rosC_form {e : PExc} {houses many : Nat} : ∀ (rs : List LRou) (i : Nat), rosC houses many i rs = some e → ∃ w n k, e = badProg w n k ∧ PyData.strOk w = true
  | [], _, h => by cases h
  | x :: r, i, h => by
    have h : (if okR houses x then (match rowsL x.rows i many with | some e => some e | none => rosC houses many (i + 1) r) else some (badProg "routine" i (-1))) = some e := h
    split at h
    · split at h
      · rename_i y hy
        cases h
        exact rowsL_form hy
      · exact rosC_form r (i + 1) h
    · exact ⟨_, _, _, (Option.some.inj h).symm, by decide +kernel⟩
theorem chk_form {p : LProg} {e : PExc} (h : chk p = some e) : ∃ w n k, e = badProg w n k ∧ PyData.strOk w = true := by
  unfold chk at h
  split at h
  · rename_i x hx
    cases h
    unfold housesC at hx
    split at hx
    · exact hsC_form _ _ hx
    · exact ⟨_, _, _, (Option.some.inj hx).symm, by decide +kernel⟩
  · unfold routinesC at h
    split at h
    · exact rosC_form _ _ h
    · exact ⟨_, _, _, (Option.some.inj h).symm, by decide +kernel⟩
theorem plain_kP {w : Str} {n k : Int} {S : Store} (h : PyData.strOk w = true) : res 20 S (kP w n k) = kP w n k ∧ plain 20 (kP w n k) = true := by
  refine ⟨rfl, ?_⟩
  show (PyData.strOk "BadProgram" && (PyData.strOk w && (true && (true && true)))) = true
  rw [h, show PyData.strOk ("BadProgram" : Str) = true by decide +kernel]
  rfl
theorem plain_kT {k : Nat} {S : Store} : res 20 S (kT k) = kT k ∧ plain 20 (kT k) = true := by
  refine ⟨rfl, ?_⟩
  show (PyData.strOk "BadText" && (true && true)) = true
  rw [show PyData.strOk ("BadText" : Str) = true by decide +kernel]
  rfl
/-- a tuple is no text -/
theorem w_eqTS {x : List PV} {s : Str} {S : Store} {Q : PV → Store → Prop} (h : plain 20 (res 20 S (.tup x)) = true) (h2 : PyData.strOk s = true) : Post (oEq (.tup x) (.str s) S) Q ↔ Q (.bl false) S := by
  unfold oEq
  rw [if_pos ⟨h, h2⟩]
  show Post (R.ok (PV.bl (eqv (.tup (x.map (res 19 S))) (.str s))) S) Q ↔ _
  rw [show eqv (.tup (x.map (res 19 S))) (.str s) = false by unfold eqv; rfl]
  exact Post.ok
theorem w_eqKT {k : Nat} {S : Store} {Q : PV → Store → Prop} : Post (oEq (kT k) (.str "") S) Q ↔ Q (.bl false) S := w_eqTS (x := [.str "BadText", .int (k : Int)]) (show plain 20 (kT k) = true from (plain_kT (S := S)).2) (by decide +kernel)
theorem w_eqKP {w : Str} {n k : Int} {S : Store} {Q : PV → Store → Prop} (h : PyData.strOk w = true) : Post (oEq (kP w n k) (.str "") S) Q ↔ Q (.bl false) S := w_eqTS (x := [.str "BadProgram", .str w, .int n, .int k]) (show plain 20 (kP w n k) = true from (plain_kP (S := S) h).2) (by decide +kernel)
theorem prog_hlen {t : Str} (ht : TOk 90000 t) : ∀ h ∈ (progOf (wordsOf t)).houses, h.ins.length ≤ 100000 ∧ h.kept.length ≤ 100000 := by
  unfold progOf
  cases e : readN (wordsOf t) (wordsOf t).length with
  | none => exact fun h hh => absurd hh List.not_mem_nil
  | some a => exact read_hlen ht e
theorem written_any (S : Store) (hS : LowS S) (p : LProg) (hb : ∀ h ∈ p.houses, h.ins.length ≤ 100000 ∧ h.kept.length ≤ 100000) :
    PostC (m_written [p.pv] S) (fun _ S' => chk p = none ∧ S' = S) fun e S' => chk p = some e ∧ ∃ B, S' = S ++ B ∧ B.all (Cell.low 0) = true := by
  cases hc : chk p with
  | none =>
    obtain ⟨h1, h2⟩ := chk_ok hc
    rw [← h2]
    exact PostC.post ((written_spec S hS p.toP h1).mono fun _ _ h => ⟨rfl, h.2⟩)
  | some e =>
    unfold m_written
    refine c_fn rfl (c_seq (c_drop (c_call ?_)))
    ((repeat sizeOf_list_dec) <;> (try dsimp only))
    refine PostC.mono (chk_spec S hS p hb) ?_ ?_
    · rintro _ _ ⟨h, _⟩
      rw [hc] at h
      cases h
    · rintro e2 S' ⟨h, B, h2, h3⟩
      rw [hc] at h
      exact ⟨h, B, h2, h3⟩
end

/-! PureCkG -/
/-! PureCkG: texts told otherwise (k20). -/
section
open PySem L2
/-- signs of texts, and one more each -/
def wt (ls : List Str) : Nat := (ls.map (·.length)).sum + ls.length
theorem wt_app (a b : List Str) : wt (a ++ b) = wt a + wt b := by
  unfold wt
  rw [List.map_append, List.sum_append, List.length_append]
  omega
theorem wt_part (k : Nat) (ls : List Str) : wt (ls.take k) ≤ wt ls ∧ wt (ls.drop k) ≤ wt ls := by
  have h := wt_app (ls.take k) (ls.drop k)
  rw [List.take_append_drop] at h
  omega
theorem wt_len (ls : List Str) : ls.length ≤ wt ls := by unfold wt; omega
theorem wt_one (s : Str) : wt [s] = s.length + 1 := rfl
theorem wt_split {t s : Str} (hs : s.length = 1) : wt (Txt.split t s) ≤ t.length + 1 := weight hs
theorem wt_join {s : Str} (hs : s.length = 1) (ls : List Str) : (Txt.join s ls).length ≤ wt ls := by
  have h := join_len s ls
  rw [hs] at h
  unfold wt
  omega
theorem join_tok {n : Nat} {s : Str} {ls : List Str} (hs : s.length = 1) (h1 : PyData.strOk s = true) (h2 : ∀ l ∈ ls, PyData.strOk l = true) (h3 : wt ls ≤ n) : TOk n (Txt.join s ls) := ⟨Nat.le_trans (wt_join hs ls) h3, ok_of_signs fun c hc => by
  rcases join_mem hc with hc | ⟨w, hw, hc⟩
  · exact sign_ok h1 c hc
  · exact sign_ok (h2 w hw) c hc⟩
theorem app_ok {a b : Str} (ha : PyData.strOk a = true) (hb : PyData.strOk b = true) : PyData.strOk (a ++ b) = true := ok_of_signs fun c hc => by
  rw [show (a ++ b).cps.toList = a.cps.toList ++ b.cps.toList from TL.tl_append a b] at hc
  rcases List.mem_append.mp hc with hc | hc
  · exact sign_ok ha c hc
  · exact sign_ok hb c hc
theorem slice_ok {t : Str} (h : PyData.strOk t = true) (lo hi : Option Int) : PyData.strOk (Txt.slice t lo hi) = true := ok_of_signs fun c hc => by
  unfold Txt.slice at hc
  split at hc
  · exact sign_ok h c hc
  · obtain ⟨i, _, hi⟩ := List.mem_filterMap.mp (show c ∈ List.filterMap _ _ from hc)
    refine sign_ok h c ?_
    rw [Array.getElem?_eq_some_iff] at hi
    obtain ⟨hi, rfl⟩ := hi
    exact Array.mem_toList_iff.mpr (Array.getElem_mem hi)
theorem w_cutS {o : XE} {lo hi : Option XE} {env : LW.Env} {S : Store} {Q : PV → Store → Prop} (h : Post (o env S) fun x S => ∃ z, x = .str z ∧ z.length ≤ 1000000 ∧ Post (ePart lo env S) fun i S => Post (ePart hi env S) fun j S => Q (.str (Txt.slice z i j)) S) : Post (eCutS o lo hi env S) Q := by
  unfold eCutS
  refine Post.bind.mpr (h.mono ?_)
  rintro _ S ⟨z, rfl, hz, h⟩
  refine Post.bind.mpr (h.mono fun i S h => Post.bind.mpr (h.mono fun j S h => ?_))
  simp only
  rw [if_pos (show z.length ≤ lim from hz)]
  exact Post.ok.mpr h
theorem w_mul2 {x : PV} {S : Store} {Q : PV → Store → Prop} : Post (oMul (.ls [x]) (.int 2) S) Q ↔ Q (.ls [x, x]) S := by
  unfold oMul
  simp only [lstOf]
  rw [if_pos (by refine ⟨by decide, by decide, ?_⟩; show 1 ≤ 1000; decide)]
  exact Post.ok
theorem cut_takeS (ls : List Str) (k : Nat) : cut (ls.map PV.str) none (some (k : Int)) = (ls.take k).map .str := by rw [cut_take, List.map_take]
theorem cut_dropS (ls : List Str) (k : Nat) : cut (ls.map PV.str) (some (k : Int)) none = (ls.drop k).map .str := by rw [cut_drop, List.map_drop]
theorem cut_takeS1 (ls : List Str) (k : Nat) : cut (ls.map PV.str) none (some ((k : Int) + 1)) = (ls.take (k + 1)).map .str := cut_takeS ls (k + 1)
theorem cut_dropS1 (ls : List Str) (k : Nat) : cut (ls.map PV.str) (some ((k : Int) + 1)) none = (ls.drop (k + 1)).map .str := cut_dropS ls (k + 1)
def allSigns : Str := "0123456789 -\nabcdefghijklmnopqrstuvwxyz!#$&'()*+,./:;<=>?@ABCDEFGHIJKLMNOPQRSTUVWXYZ[]^_{|}~"
def oddWords : List Str := ["", "0", "00", "07", "5", "6", "31", "32", "999", "1000", "-", "--", "-1", "012345", "10", "house", "routine", "put", "back", "go", "zero", "call", "Put", "say"]
theorem signs_ok : allSigns.length = 92 ∧ PyData.strOk allSigns = true := by decide +kernel
theorem odd_ok : ∀ w ∈ oddWords, w.length ≤ 7 ∧ PyData.strOk w = true := by decide +kernel
theorem strs_at {ls : List Str} {k : Nat} (h : k < ls.length) : atI (ls.map PV.str) (k : Int) = some (.str ls[k]) := by
  have e : (ls.map PV.str)[k]? = some (.str ls[k]) := by rw [List.getElem?_map, List.getElem?_eq_getElem h]; rfl
  rw [L2.atI_nat (j := k)]
  exact e
end

/-! PureCkH -/
/-! PureCkH: the law's spoilt (k20). -/
section
open PySem L2
def Spoilt (n : Nat) (rest : Store) (v : PV) (S : Store) : Prop := ∃ (g : Hs) (t : Str), v = .str t ∧ S = g.st rest ∧ g.Ok ∧ TOk n t
theorem spoilt_out {n : Nat} {g0 g : Hs} {rest : Store} {t : Str} (hg : g.Ok) (ht : TOk n t) : Post (leave (g0.st rest).length (.str t) (g.st rest)) (Spoilt n rest) := (leave_same rfl).mpr ⟨g, t, rfl, rfl, hg, ht⟩
set_option maxHeartbeats 8000000 in
theorem spoilt_spec (g : Hs) (rest : Store) (hg : g.Ok) (n : Nat) (hn : n ≤ 45000) (t : Str) (ht : TOk n t) : Post (m_spoilt [.loc 1, .str t] (g.st rest)) (Spoilt (2 * n + 20) rest) := by
  have hl := ht.len
  have hw := wt_split (t := t) len_nl
  have hLn := lines_len ht
  have hso := signs_ok
  unfold m_spoilt
  refine w_fnP rfl ?_
  ((repeat sizeOf_list_dec) <;> (try dsimp only))
  ((refine Post.mono (next_spec _ _ _ hg ?hn0 ?hn1) ?_); (case hn0 => omega); (case hn1 => omega))
  rintro _ _ ⟨turn, g1, rfl, rfl, hg1, t0, t1⟩
  ((repeat sizeOf_list_dec) <;> (try dsimp only))
  refine (w_lenS (by omega)).mpr ?_
  ((repeat sizeOf_list_dec) <;> (try dsimp only))
  ((refine Post.mono (next_spec _ _ _ hg1 ?hn0 ?hn1) ?_); (case hn0 => omega); (case hn1 => omega))
  rintro _ _ ⟨at', g2, rfl, rfl, hg2, a0, a1⟩
  obtain ⟨at', rfl⟩ : ∃ k : Nat, at' = k := ⟨at'.toNat, by omega⟩
  ((repeat sizeOf_list_dec) <;> (try dsimp only))
  refine (w_lenS (by rw [show ("0123456789 -\nabcdefghijklmnopqrstuvwxyz!#$&'()*+,./:;<=>?@ABCDEFGHIJKLMNOPQRSTUVWXYZ[]^_{|}~" : Str).length = 92 from hso.1]; decide)).mpr ?_
  rw [show ("0123456789 -\nabcdefghijklmnopqrstuvwxyz!#$&'()*+,./:;<=>?@ABCDEFGHIJKLMNOPQRSTUVWXYZ[]^_{|}~" : Str).length = 92 from hso.1]
  ((repeat sizeOf_list_dec) <;> (try dsimp only))
  ((refine Post.mono (next_spec _ _ _ hg2 ?hn0 ?hn1) ?_); (case hn0 => omega); (case hn1 => omega))
  rintro _ _ ⟨z, g3, rfl, rfl, hg3, z0, z1⟩
  have hz : ∃ m : Nat, atI [PV.int 13, PV.int 92] z = some (.int (m : Int)) ∧ 0 < m ∧ m ≤ 92 := by
    rcases (by omega : z = 0 ∨ z = 1) with rfl | rfl
    · exact ⟨13, rfl, by decide, by decide⟩
    · exact ⟨92, rfl, by decide, by decide⟩
  obtain ⟨m, hm, m0, m1⟩ := hz
  refine (w_ix (xs := [PV.int 13, PV.int 92]) rfl hm).mpr ?_
  ((repeat sizeOf_list_dec) <;> (try dsimp only))
  ((refine Post.mono (next_spec _ _ _ hg3 ?hn0 ?hn1) ?_); (case hn0 => omega); (case hn1 => omega))
  rintro _ _ ⟨y, g4, rfl, rfl, hg4, y0, y1⟩
  obtain ⟨y, rfl⟩ : ∃ k : Nat, y = k := ⟨y.toNat, by omega⟩
  have hylt : y < allSigns.cps.toList.length := by
    have h := hso.1
    rw [TL.len_tl] at h
    have h : allSigns.cps.toList.length = 92 := h
    omega
  have hc : allSigns.cps.toList[y] < 0x110000 := sign_ok hso.2 _ (List.getElem_mem hylt)
  refine (w_ixC (c := allSigns.cps.toList[y]) (by rw [L2.atI_nat (j := y)]; exact List.getElem?_eq_getElem hylt) (by show allSigns.length ≤ 1000000; rw [hso.1]; decide)).mpr ?_
  generalize allSigns.cps.toList[y] = c at hc ⊢
  have hok : PyData.strOk (⟨#[c]⟩ : Str) = true := one_ok hc
  ((repeat sizeOf_list_dec) <;> (try dsimp only))
  by_cases h3 : turn < 3
  · rw [decide_eq_true h3]
    ((repeat sizeOf_list_dec) <;> (try dsimp only))
    have hs : ∃ s : Str, atI [PV.str ⟨#[c]⟩, PV.str "", PV.str ⟨#[c]⟩] turn = some (.str s) ∧ s.length ≤ 1 ∧ PyData.strOk s = true := by
      rcases (by omega : turn = 0 ∨ turn = 1 ∨ turn = 2) with rfl | rfl | rfl
      · exact ⟨_, rfl, Nat.le_refl _, hok⟩
      · exact ⟨_, rfl, Nat.zero_le _, by decide +kernel⟩
      · exact ⟨_, rfl, Nat.le_refl _, hok⟩
    obtain ⟨s, hs1, hs2, hs3⟩ := hs
    refine w_cutS ?_
    ((repeat sizeOf_list_dec) <;> (try dsimp only))
    refine ⟨t, rfl, by omega, ?_⟩
    ((repeat sizeOf_list_dec) <;> (try dsimp only))
    refine (w_ix (xs := [PV.str ⟨#[c]⟩, PV.str "", PV.str ⟨#[c]⟩]) rfl hs1).mpr ?_
    have l1 := Txt.slice_le t none (some (at' : Int))
    refine (w_addS (by omega)).mpr ?_
    refine w_cutS ?_
    ((repeat sizeOf_list_dec) <;> (try dsimp only))
    refine ⟨t, rfl, by omega, ?_⟩
    ((repeat sizeOf_list_dec) <;> (try dsimp only))
    generalize (at' : Int) + (if decide (0 < turn) = true then 1 else 0) = q
    have l2 := Txt.slice_le t (some q) none
    refine (w_addS (by rw [app_len]; omega)).mpr ?_
    refine spoilt_out hg4 ⟨by rw [app_len, app_len]; omega, app_ok (app_ok (slice_ok ht.ok _ _) hs3) (slice_ok ht.ok _ _)⟩
  · rw [decide_eq_false h3]
    ((repeat sizeOf_list_dec) <;> (try dsimp only))
    refine w_splitS.mpr ?_
    ((repeat sizeOf_list_dec) <;> (try dsimp only))
    refine ⟨t, rfl, ?_⟩
    ((repeat sizeOf_list_dec) <;> (try dsimp only))
    refine ⟨_, rfl, by decide +kernel, by rw [sizeLine_eq]; omega, ?_⟩
    have hwl : wt (linesOf t) ≤ n + 1 := by have : wt (linesOf t) ≤ t.length + 1 := hw; omega
    have hlok : ∀ l ∈ linesOf t, TOk n l := fun l hl => line_tok ht hl
    have hlne : linesOf t ≠ [] := pieces_ne t "\n"
    rw [show Txt.split t "\n" = linesOf t from rfl]
    generalize linesOf t = ls at hwl hlok hlne hLn
    have hlp : 0 < ls.length := List.length_pos_iff.mpr hlne
    ((repeat sizeOf_list_dec) <;> (try dsimp only))
    refine w_lenL.mpr ?_
    rw [List.length_map]
    ((repeat sizeOf_list_dec) <;> (try dsimp only))
    ((refine Post.mono (next_spec _ _ _ hg4 ?hn0 ?hn1) ?_); (case hn0 => omega); (case hn1 => omega))
    rintro _ _ ⟨k, g5, rfl, rfl, hg5, k0, k1⟩
    obtain ⟨k, rfl⟩ : ∃ q : Nat, k = q := ⟨k.toNat, by omega⟩
    have hk : k < ls.length := by omega
    ((repeat sizeOf_list_dec) <;> (try dsimp only))
    have tk := wt_part k ls
    have tk1 := wt_part (k + 1) ls
    have lk1 : (ls.take k).length ≤ ls.length := by rw [List.length_take]; omega
    have lk2 : (ls.drop k).length ≤ ls.length := by rw [List.length_drop]; omega
    have lk3 : (ls.take (k + 1)).length ≤ ls.length := by rw [List.length_take]; omega
    have lk4 : (ls.drop (k + 1)).length ≤ ls.length := by rw [List.length_drop]; omega
    have ok1 : ∀ q, ∀ l ∈ ls.take q, PyData.strOk l = true := fun q l hl => (hlok l (List.mem_of_mem_take hl)).ok
    have ok2 : ∀ q, ∀ l ∈ ls.drop q, PyData.strOk l = true := fun q l hl => (hlok l (List.mem_of_mem_drop hl)).ok
    have okn : PyData.strOk ("\n" : Str) = true := by decide +kernel
    have okb : PyData.strOk (" " : Str) = true := by decide +kernel
    -- the end of all that joins lines
    have fin : ∀ (g' : Hs) (os : List Str), g'.Ok → (∀ l ∈ os, PyData.strOk l = true) → wt os ≤ 2 * n + 20 → Post (leave (g.st rest).length (.str (Txt.join "\n" os)) (g'.st rest)) (Spoilt (2 * n + 20) rest) := fun g' os hg h1 h2 => spoilt_out hg (join_tok len_nl okn h1 h2)
    have size : ∀ os : List Str, wt os ≤ 2 * n + 20 → (os.map (·.length)).sum + os.length * ("\n" : Str).length ≤ 16777216 := fun os h => by
      rw [len_nl]
      unfold wt at h
      omega
    by_cases h6 : turn < 6
    · rw [decide_eq_true h6]
      ((repeat sizeOf_list_dec) <;> (try dsimp only))
      refine w_joinS.mpr ?_
      ((repeat sizeOf_list_dec) <;> (try dsimp only))
      refine ⟨_, rfl, ?_⟩
      ((repeat sizeOf_list_dec) <;> (try dsimp only))
      rw [cut_takeS, cut_dropS1]
      refine (w_addLL (by rw [List.length_map, List.length_map]; show _ ≤ 1000000; omega)).mpr ?_
      ((repeat sizeOf_list_dec) <;> (try dsimp only))
      rw [cut_takeS1, cut_dropS]
      refine (w_addLL (by rw [List.length_map, List.length_map]; show _ ≤ 1000000; omega)).mpr ?_
      ((repeat sizeOf_list_dec) <;> (try dsimp only))
      rw [cut_takeS, cut_dropS]
      refine (w_addLL (by rw [List.length_map, List.length_map]; show _ ≤ 1000000; omega)).mpr ?_
      rw [← List.map_append, ← List.map_append, ← List.map_append]
      ((repeat sizeOf_list_dec) <;> (try dsimp only))
      have fin2 : ∀ os : List Str, (∀ l ∈ os, PyData.strOk l = true) → wt os ≤ 2 * n + 20 → ∃ ys : List Str, lstOf (g5.st rest) (.ls (os.map .str)) = some (ys.map .str) ∧ (ys.map (·.length)).sum + ys.length * ("\n" : Str).length ≤ 16777216 ∧ Post (leave (g.st rest).length (.str (Txt.join "\n" ys)) (g5.st rest)) (Spoilt (2 * n + 20) rest) := fun os h1 h2 => ⟨os, rfl, size os h2, fin g5 os hg5 h1 h2⟩
      have okA : ∀ {a b : List Str}, (∀ l ∈ a, PyData.strOk l = true) → (∀ l ∈ b, PyData.strOk l = true) → ∀ l ∈ a ++ b, PyData.strOk l = true := fun ha hb l hl => by
        rcases List.mem_append.mp hl with hl | hl
        · exact ha l hl
        · exact hb l hl
      rcases (by omega : turn = 3 ∨ turn = 4 ∨ turn = 5) with rfl | rfl | rfl
      · refine (w_ix (y := .ls ((ls.take k ++ ls.drop (k + 1)).map .str)) rfl rfl).mpr ?_
        exact fin2 _ (okA (ok1 _) (ok2 _)) (by rw [wt_app]; omega)
      · refine (w_ix (y := .ls ((ls.take (k + 1) ++ ls.drop k).map .str)) rfl rfl).mpr ?_
        exact fin2 _ (okA (ok1 _) (ok2 _)) (by rw [wt_app]; omega)
      · refine (w_ix (y := .ls ((ls.drop k ++ ls.take k).map .str)) rfl rfl).mpr ?_
        exact fin2 _ (okA (ok2 _) (ok1 _)) (by rw [wt_app]; omega)
    · rw [decide_eq_false h6]
      ((repeat sizeOf_list_dec) <;> (try dsimp only))
      refine w_splitS.mpr ?_
      ((repeat sizeOf_list_dec) <;> (try dsimp only))
      refine (w_ix (xs := ls.map .str) rfl (strs_at hk)).mpr ?_
      have hlk := hlok ls[k] (List.getElem_mem hk)
      have hlkl := hlk.len
      refine ⟨_, rfl, ?_⟩
      ((repeat sizeOf_list_dec) <;> (try dsimp only))
      refine ⟨_, rfl, by decide +kernel, by rw [sizeLine_eq]; omega, ?_⟩
      have wsl : wt (Txt.split ls[k] " ") ≤ ls[k].length + 1 := wt_split len_bl
      have wok : ∀ w ∈ Txt.split ls[k] " ", PyData.strOk w = true := fun w hw => piece_ok hlk.ok hw
      have wlen : ∀ w ∈ Txt.split ls[k] " ", w.length ≤ ls[k].length := fun w hw => piece_len hw
      have wne := pieces_ne ls[k] " "
      have wline : wt (ls.take k) + ls[k].length + 1 + wt (ls.drop (k + 1)) ≤ n + 1 := by
        have e : ls = ls.take k ++ ([ls[k]] ++ ls.drop (k + 1)) := by
          rw [List.singleton_append, ← List.drop_eq_getElem_cons hk, List.take_append_drop]
        have e2 := congrArg wt e
        rw [wt_app, wt_app, wt_one] at e2
        omega
      generalize Txt.split ls[k] " " = ws at wsl wok wlen wne
      have wsn := wt_len ws
      have wsp : 0 < ws.length := List.length_pos_iff.mpr wne
      ((repeat sizeOf_list_dec) <;> (try dsimp only))
      refine w_lenL.mpr ?_
      rw [List.length_map]
      ((repeat sizeOf_list_dec) <;> (try dsimp only))
      ((refine Post.mono (next_spec _ _ _ hg5 ?hn0 ?hn1) ?_); (case hn0 => omega); (case hn1 => omega))
      rintro _ _ ⟨j, g6, rfl, rfl, hg6, j0, j1⟩
      obtain ⟨j, rfl⟩ : ∃ q : Nat, j = q := ⟨j.toNat, by omega⟩
      have hj : j < ws.length := by omega
      ((repeat sizeOf_list_dec) <;> (try dsimp only))
      refine (w_addLL (by decide)).mpr ?_
      ((repeat sizeOf_list_dec) <;> (try dsimp only))
      rw [cut_takeS]
      refine (w_ix (xs := ws.map .str) rfl (strs_at hj)).mpr ?_
      ((repeat sizeOf_list_dec) <;> (try dsimp only))
      refine w_mul2.mpr ?_
      ((repeat sizeOf_list_dec) <;> (try dsimp only))
      ((refine Post.mono (next_spec _ _ _ hg6 ?hn0 ?hn1) ?_); (case hn0 => omega); (case hn1 => omega))
      rintro _ _ ⟨o, g7, rfl, rfl, hg7, o0, o1⟩
      obtain ⟨o, rfl⟩ : ∃ q : Nat, o = q := ⟨o.toNat, by omega⟩
      have ho : o < oddWords.length := by show o < 24; omega
      refine (w_ix (xs := oddWords.map .str) rfl (strs_at ho)).mpr ?_
      have hodd := odd_ok _ (List.getElem_mem ho)
      generalize oddWords[o] = ow at hodd ⊢
      ((repeat sizeOf_list_dec) <;> (try dsimp only))
      have hmid : ∃ mid : List Str, atI [PV.ls [], PV.ls [PV.str ws[j], PV.str ws[j]], PV.ls [PV.str ow]] (turn - 6) = some (.ls (mid.map .str)) ∧ mid.length ≤ 2 ∧ (∀ w ∈ mid, PyData.strOk w = true) ∧ wt mid ≤ 2 * ws[j].length + 10 := by
        have hwj := wok _ (List.getElem_mem hj)
        rcases (by omega : turn = 6 ∨ turn = 7 ∨ turn = 8) with rfl | rfl | rfl
        · exact ⟨[], rfl, Nat.zero_le _, fun w hw => absurd hw List.not_mem_nil, Nat.zero_le _⟩
        · refine ⟨[ws[j], ws[j]], rfl, Nat.le_refl _, fun w hw => ?_, ?_⟩
          · simp only [List.mem_cons, List.not_mem_nil, or_false, or_self] at hw
            rw [hw]
            exact hwj
          · show ws[j].length + (ws[j].length + 0) + 2 ≤ _
            omega
        · refine ⟨[ow], rfl, Nat.le_of_ble_eq_true rfl, fun w hw => ?_, ?_⟩
          · rw [List.mem_singleton.mp hw]
            exact hodd.2
          · show ow.length + 0 + 1 ≤ _
            have := hodd.1
            omega
      obtain ⟨mid, hm1, hm2, hm3, hm4⟩ := hmid
      refine (w_ix (xs := [PV.ls [], PV.ls [PV.str ws[j], PV.str ws[j]], PV.ls [PV.str ow]]) rfl hm1).mpr ?_
      have tj := wt_part j ws
      have tj1 := wt_part (j + 1) ws
      have lj1 : (ws.take j).length ≤ ws.length := by rw [List.length_take]; omega
      have lj2 : (ws.drop (j + 1)).length ≤ ws.length := by rw [List.length_drop]; omega
      refine (w_addLL (by rw [List.length_map, List.length_map]; show _ ≤ 1000000; omega)).mpr ?_
      ((repeat sizeOf_list_dec) <;> (try dsimp only))
      rw [cut_dropS1, ← List.map_append]
      refine (w_addLL (by rw [List.length_map, List.length_map, List.length_append]; show _ ≤ 1000000; omega)).mpr ?_
      rw [← List.map_append]
      have hws2 : wt (ws.take j ++ mid ++ ws.drop (j + 1)) ≤ 2 * ls[k].length + 15 := by
        have e : ws = ws.take j ++ ([ws[j]] ++ ws.drop (j + 1)) := by
          rw [List.singleton_append, ← List.drop_eq_getElem_cons hj, List.take_append_drop]
        have e2 := congrArg wt e
        rw [wt_app, wt_app, wt_one] at e2
        rw [wt_app, wt_app]
        omega
      have hws3 : ∀ w ∈ ws.take j ++ mid ++ ws.drop (j + 1), PyData.strOk w = true := fun w hw => by
        rcases List.mem_append.mp hw with hw | hw
        · rcases List.mem_append.mp hw with hw | hw
          · exact wok w (List.mem_of_mem_take hw)
          · exact hm3 w hw
        · exact wok w (List.mem_of_mem_drop hw)
      generalize ws.take j ++ mid ++ ws.drop (j + 1) = ws2 at hws2 hws3 ⊢
      have hj2 := join_tok (s := " ") len_bl okb hws3 hws2
      ((repeat sizeOf_list_dec) <;> (try dsimp only))
      refine w_joinS.mpr ?_
      ((repeat sizeOf_list_dec) <;> (try dsimp only))
      refine ⟨_, rfl, ?_⟩
      ((repeat sizeOf_list_dec) <;> (try dsimp only))
      rw [cut_takeS]
      refine w_joinS.mpr ?_
      ((repeat sizeOf_list_dec) <;> (try dsimp only))
      refine ⟨_, rfl, ?_⟩
      ((repeat sizeOf_list_dec) <;> (try dsimp only))
      refine ⟨ws2, rfl, by rw [len_bl]; unfold wt at hws2; omega, ?_⟩
      ((repeat sizeOf_list_dec) <;> (try dsimp only))
      refine (w_addLL (by rw [List.length_map]; show _ + 1 ≤ 1000000; omega)).mpr ?_
      ((repeat sizeOf_list_dec) <;> (try dsimp only))
      rw [cut_dropS1]
      refine (w_addLL (by rw [List.length_append, List.length_map, List.length_map]; show _ + 1 + _ ≤ 1000000; omega)).mpr ?_
      have hl2 := hj2.len
      refine ⟨ls.take k ++ [Txt.join " " ws2] ++ ls.drop (k + 1), ?_, ?_, ?_⟩
      · rw [List.map_append, List.map_append]
        rfl
      · refine size _ ?_
        rw [wt_app, wt_app, wt_one]
        omega
      · refine fin _ _ hg7 (fun l hl => ?_) ?_
        · rcases List.mem_append.mp hl with hl | hl
          · rcases List.mem_append.mp hl with hl | hl
            · exact ok1 _ l hl
            · rw [List.mem_singleton.mp hl]
              exact hj2.ok
          · exact ok2 _ l hl
        · rw [wt_app, wt_app, wt_one]
          omega
end

/-! PureK -/
/-! PureK: any rows. -/
section
open PySem L2
theorem wild_row_spec (g : Hs) (rest : Store) (hg : g.Ok) (rows routines : Nat) (h1 : 0 < rows) (h2 : rows < 1000) (h3 : 0 < routines) (h4 : routines < 1000) :
    Post (m_wild_row [.loc 1, .int rows, .int routines] (g.st rest)) fun v S => ∃ (r : Row) (g' : Hs), v = r.pv ∧ r.Ok rows routines ∧ S = g'.st rest ∧ g'.Ok := by
  unfold m_wild_row
  refine w_fnP rfl ?_
  ((repeat array_mem_dec) <;> (try dsimp only))
  ((refine Post.mono (next_spec _ _ _ hg ?hn0 ?hn1) ?_); (case hn0 => omega); (case hn1 => omega))
  rintro _ _ ⟨w, g1, rfl, rfl, hg1, w0, w1⟩
  obtain ⟨word, hw, hword⟩ : ∃ word : Str, word ∈ (["put", "move", "add", "take", "push", "pop", "say", "zero", "go", "call", "back"] : List Str) ∧ atI [PV.str "put", PV.str "move", PV.str "add", PV.str "take", PV.str "push", PV.str "push", PV.str "pop", PV.str "pop", PV.str "say", PV.str "zero", PV.str "zero", PV.str "go", PV.str "call", PV.str "back"] w = some (.str word) := by
    rcases (by omega : w = 0 ∨ w = 1 ∨ w = 2 ∨ w = 3 ∨ w = 4 ∨ w = 5 ∨ w = 6 ∨ w = 7 ∨ w = 8 ∨ w = 9 ∨ w = 10 ∨ w = 11 ∨ w = 12 ∨ w = 13) with rfl | rfl | rfl | rfl | rfl | rfl | rfl | rfl | rfl | rfl | rfl | rfl | rfl | rfl <;> exact ⟨_, by decide +kernel, rfl⟩
  refine (w_ix (by rfl) hword).mpr ?_
  ((repeat array_mem_dec) <;> (try dsimp only))
  refine lc_draws (P := fun _ x => ∃ s : Int, x = .int s ∧ 0 ≤ s ∧ s < 6) hg1 (by decide) (fun i g0 hi hg0 => ?_) (fun some0 g2 hg2 hl hP => ?_)
  · ((repeat array_mem_dec) <;> (try dsimp only))
    ((refine Post.mono (next_spec _ _ _ hg0 ?hn0 ?hn1) ?_); (case hn0 => omega); (case hn1 => omega))
    rintro _ _ ⟨r2, g3, rfl, rfl, hg3, a2, b2⟩
    exact ⟨g3, rfl, hg3, r2, rfl, a2, b2⟩
  · obtain ⟨a, b, c, rfl, ha, hb, hc⟩ : ∃ a b c : Nat, some0 = [.int a, .int b, .int c] ∧ a < 6 ∧ b < 6 ∧ c < 6 := by
      match some0, hl, hP with
      | [x, y, z], _, hP =>
        obtain ⟨a, rfl, a0, a1⟩ := hP 0 x rfl
        obtain ⟨b, rfl, b0, b1⟩ := hP 1 y rfl
        obtain ⟨c, rfl, c0, c1⟩ := hP 2 z rfl
        exact ⟨a.toNat, b.toNat, c.toNat, by rw [Int.toNat_of_nonneg a0, Int.toNat_of_nonneg b0, Int.toNat_of_nonneg c0], by omega, by omega, by omega⟩
    ((repeat array_mem_dec) <;> (try dsimp only))
    simp only [List.mem_cons, List.not_mem_nil, or_false] at hw
    rcases hw with rfl | rfl | rfl | rfl | rfl | rfl | rfl | rfl | rfl | rfl | rfl
    · -- put
      refine (w_in (by rfl) rfl (by decide +kernel)).mpr ?_
      rw [show inSeq (.str "put") [.str "move", .str "push", .str "pop", .str "say", .str "add", .str "take"] = false by decide +kernel]
      ((repeat array_mem_dec) <;> (try dsimp only))
      rw [if_pos (by decide +kernel)]
      ((repeat array_mem_dec) <;> (try dsimp only))
      refine (number_spec _ _ hg2).mono ?_
      rintro _ _ ⟨n, g3, rfl, rfl, hg3, n0, n1⟩
      ((repeat array_mem_dec) <;> (try dsimp only))
      exact (leave_same rfl).mpr ⟨.put a n.toNat, g3, by show _ = PV.tup _; rw [Int.toNat_of_nonneg n0], ⟨ha, by omega⟩, rfl, hg3⟩
    · -- move
      refine (w_in (by rfl) rfl (by decide +kernel)).mpr ?_
      rw [show inSeq (.str "move") [.str "move", .str "push", .str "pop", .str "say", .str "add", .str "take"] = true by decide +kernel]
      ((repeat array_mem_dec) <;> (try dsimp only))
      refine w_get2 ?_
      refine w_eDc.mpr ?_
      ((repeat array_mem_dec) <;> (try dsimp only))
      refine ⟨rfl, by decide, by decide +kernel, _, _, rfl, ?_⟩
      ((repeat array_mem_dec) <;> (try dsimp only))
      refine ⟨_, rfl, ?_⟩
      ((repeat array_mem_dec) <;> (try dsimp only))
      rw [show (lookS ["move", "add", "take"] [.int 2, .int 3, .int 3] "move").getD (.int 1) = .int 2 by decide +kernel]
      ((repeat array_mem_dec) <;> (try dsimp only))
      rw [show cut [.int a, .int b, .int c] none (some 2) = [.int a, .int b] by rfl]
      refine (w_addT (Nat.le_of_ble_eq_true rfl)).mpr ?_
      ((repeat array_mem_dec) <;> (try dsimp only))
      exact (leave_same rfl).mpr ⟨.move a b, g2, rfl, ⟨ha, hb⟩, rfl, hg2⟩
    · -- add
      refine (w_in (by rfl) rfl (by decide +kernel)).mpr ?_
      rw [show inSeq (.str "add") [.str "move", .str "push", .str "pop", .str "say", .str "add", .str "take"] = true by decide +kernel]
      ((repeat array_mem_dec) <;> (try dsimp only))
      refine w_get2 ?_
      refine w_eDc.mpr ?_
      ((repeat array_mem_dec) <;> (try dsimp only))
      refine ⟨rfl, by decide, by decide +kernel, _, _, rfl, ?_⟩
      ((repeat array_mem_dec) <;> (try dsimp only))
      refine ⟨_, rfl, ?_⟩
      ((repeat array_mem_dec) <;> (try dsimp only))
      rw [show (lookS ["move", "add", "take"] [.int 2, .int 3, .int 3] "add").getD (.int 1) = .int 3 by decide +kernel]
      ((repeat array_mem_dec) <;> (try dsimp only))
      rw [show cut [.int a, .int b, .int c] none (some 3) = [.int a, .int b, .int c] by rfl]
      refine (w_addT (Nat.le_of_ble_eq_true rfl)).mpr ?_
      ((repeat array_mem_dec) <;> (try dsimp only))
      exact (leave_same rfl).mpr ⟨.add a b c, g2, rfl, ⟨ha, hb, hc⟩, rfl, hg2⟩
    · -- take
      refine (w_in (by rfl) rfl (by decide +kernel)).mpr ?_
      rw [show inSeq (.str "take") [.str "move", .str "push", .str "pop", .str "say", .str "add", .str "take"] = true by decide +kernel]
      ((repeat array_mem_dec) <;> (try dsimp only))
      refine w_get2 ?_
      refine w_eDc.mpr ?_
      ((repeat array_mem_dec) <;> (try dsimp only))
      refine ⟨rfl, by decide, by decide +kernel, _, _, rfl, ?_⟩
      ((repeat array_mem_dec) <;> (try dsimp only))
      refine ⟨_, rfl, ?_⟩
      ((repeat array_mem_dec) <;> (try dsimp only))
      rw [show (lookS ["move", "add", "take"] [.int 2, .int 3, .int 3] "take").getD (.int 1) = .int 3 by decide +kernel]
      ((repeat array_mem_dec) <;> (try dsimp only))
      rw [show cut [.int a, .int b, .int c] none (some 3) = [.int a, .int b, .int c] by rfl]
      refine (w_addT (Nat.le_of_ble_eq_true rfl)).mpr ?_
      ((repeat array_mem_dec) <;> (try dsimp only))
      exact (leave_same rfl).mpr ⟨.take a b c, g2, rfl, ⟨ha, hb, hc⟩, rfl, hg2⟩
    · -- push
      refine (w_in (by rfl) rfl (by decide +kernel)).mpr ?_
      rw [show inSeq (.str "push") [.str "move", .str "push", .str "pop", .str "say", .str "add", .str "take"] = true by decide +kernel]
      ((repeat array_mem_dec) <;> (try dsimp only))
      refine w_get2 ?_
      refine w_eDc.mpr ?_
      ((repeat array_mem_dec) <;> (try dsimp only))
      refine ⟨rfl, by decide, by decide +kernel, _, _, rfl, ?_⟩
      ((repeat array_mem_dec) <;> (try dsimp only))
      refine ⟨_, rfl, ?_⟩
      ((repeat array_mem_dec) <;> (try dsimp only))
      rw [show (lookS ["move", "add", "take"] [.int 2, .int 3, .int 3] "push").getD (.int 1) = .int 1 by decide +kernel]
      ((repeat array_mem_dec) <;> (try dsimp only))
      rw [show cut [.int a, .int b, .int c] none (some 1) = [.int a] by rfl]
      refine (w_addT (Nat.le_of_ble_eq_true rfl)).mpr ?_
      ((repeat array_mem_dec) <;> (try dsimp only))
      exact (leave_same rfl).mpr ⟨.push a, g2, rfl, ha, rfl, hg2⟩
    · -- pop
      refine (w_in (by rfl) rfl (by decide +kernel)).mpr ?_
      rw [show inSeq (.str "pop") [.str "move", .str "push", .str "pop", .str "say", .str "add", .str "take"] = true by decide +kernel]
      ((repeat array_mem_dec) <;> (try dsimp only))
      refine w_get2 ?_
      refine w_eDc.mpr ?_
      ((repeat array_mem_dec) <;> (try dsimp only))
      refine ⟨rfl, by decide, by decide +kernel, _, _, rfl, ?_⟩
      ((repeat array_mem_dec) <;> (try dsimp only))
      refine ⟨_, rfl, ?_⟩
      ((repeat array_mem_dec) <;> (try dsimp only))
      rw [show (lookS ["move", "add", "take"] [.int 2, .int 3, .int 3] "pop").getD (.int 1) = .int 1 by decide +kernel]
      ((repeat array_mem_dec) <;> (try dsimp only))
      rw [show cut [.int a, .int b, .int c] none (some 1) = [.int a] by rfl]
      refine (w_addT (Nat.le_of_ble_eq_true rfl)).mpr ?_
      ((repeat array_mem_dec) <;> (try dsimp only))
      exact (leave_same rfl).mpr ⟨.pop a, g2, rfl, ha, rfl, hg2⟩
    · -- say
      refine (w_in (by rfl) rfl (by decide +kernel)).mpr ?_
      rw [show inSeq (.str "say") [.str "move", .str "push", .str "pop", .str "say", .str "add", .str "take"] = true by decide +kernel]
      ((repeat array_mem_dec) <;> (try dsimp only))
      refine w_get2 ?_
      refine w_eDc.mpr ?_
      ((repeat array_mem_dec) <;> (try dsimp only))
      refine ⟨rfl, by decide, by decide +kernel, _, _, rfl, ?_⟩
      ((repeat array_mem_dec) <;> (try dsimp only))
      refine ⟨_, rfl, ?_⟩
      ((repeat array_mem_dec) <;> (try dsimp only))
      rw [show (lookS ["move", "add", "take"] [.int 2, .int 3, .int 3] "say").getD (.int 1) = .int 1 by decide +kernel]
      ((repeat array_mem_dec) <;> (try dsimp only))
      rw [show cut [.int a, .int b, .int c] none (some 1) = [.int a] by rfl]
      refine (w_addT (Nat.le_of_ble_eq_true rfl)).mpr ?_
      ((repeat array_mem_dec) <;> (try dsimp only))
      exact (leave_same rfl).mpr ⟨.say a, g2, rfl, ha, rfl, hg2⟩
    · -- zero
      refine (w_in (by rfl) rfl (by decide +kernel)).mpr ?_
      rw [show inSeq (.str "zero") [.str "move", .str "push", .str "pop", .str "say", .str "add", .str "take"] = false by decide +kernel]
      ((repeat array_mem_dec) <;> (try dsimp only))
      rw [if_neg (by decide +kernel)]
      ((repeat array_mem_dec) <;> (try dsimp only))
      rw [if_pos (by decide +kernel)]
      ((repeat array_mem_dec) <;> (try dsimp only))
      ((refine Post.mono (next_spec _ _ _ hg2 ?hn0 ?hn1) ?_); (case hn0 => omega); (case hn1 => omega))
      rintro _ _ ⟨n, g3, rfl, rfl, hg3, n0, n1⟩
      ((repeat array_mem_dec) <;> (try dsimp only))
      exact (leave_same rfl).mpr ⟨.zero a n.toNat, g3, by show _ = PV.tup _; rw [Int.toNat_of_nonneg n0], ⟨ha, by omega⟩, rfl, hg3⟩
    · -- go
      refine (w_in (by rfl) rfl (by decide +kernel)).mpr ?_
      rw [show inSeq (.str "go") [.str "move", .str "push", .str "pop", .str "say", .str "add", .str "take"] = false by decide +kernel]
      ((repeat array_mem_dec) <;> (try dsimp only))
      rw [if_neg (by decide +kernel)]
      ((repeat array_mem_dec) <;> (try dsimp only))
      rw [if_neg (by decide +kernel)]
      ((repeat array_mem_dec) <;> (try dsimp only))
      refine w_eDc.mpr ?_
      ((repeat array_mem_dec) <;> (try dsimp only))
      ((refine Post.mono (next_spec _ _ _ hg2 ?hn0 ?hn1) ?_); (case hn0 => omega); (case hn1 => omega))
      rintro _ _ ⟨n, g3, rfl, rfl, hg3, n0, n1⟩
      ((repeat array_mem_dec) <;> (try dsimp only))
      ((refine Post.mono (next_spec _ _ _ hg3 ?hn0 ?hn1) ?_); (case hn0 => omega); (case hn1 => omega))
      rintro _ _ ⟨m, g4, rfl, rfl, hg4, m0, m1⟩
      ((repeat array_mem_dec) <;> (try dsimp only))
      refine ⟨rfl, by decide, by decide +kernel, ?_⟩
      ((repeat array_mem_dec) <;> (try dsimp only))
      exact (leave_same rfl).mpr ⟨.go n.toNat, g4, by show _ = PV.tup _; rw [Int.toNat_of_nonneg n0], (show n.toNat < rows by omega), rfl, hg4⟩
    · -- call
      refine (w_in (by rfl) rfl (by decide +kernel)).mpr ?_
      rw [show inSeq (.str "call") [.str "move", .str "push", .str "pop", .str "say", .str "add", .str "take"] = false by decide +kernel]
      ((repeat array_mem_dec) <;> (try dsimp only))
      rw [if_neg (by decide +kernel)]
      ((repeat array_mem_dec) <;> (try dsimp only))
      rw [if_neg (by decide +kernel)]
      ((repeat array_mem_dec) <;> (try dsimp only))
      refine w_eDc.mpr ?_
      ((repeat array_mem_dec) <;> (try dsimp only))
      ((refine Post.mono (next_spec _ _ _ hg2 ?hn0 ?hn1) ?_); (case hn0 => omega); (case hn1 => omega))
      rintro _ _ ⟨n, g3, rfl, rfl, hg3, n0, n1⟩
      ((repeat array_mem_dec) <;> (try dsimp only))
      ((refine Post.mono (next_spec _ _ _ hg3 ?hn0 ?hn1) ?_); (case hn0 => omega); (case hn1 => omega))
      rintro _ _ ⟨m, g4, rfl, rfl, hg4, m0, m1⟩
      ((repeat array_mem_dec) <;> (try dsimp only))
      refine ⟨rfl, by decide, by decide +kernel, ?_⟩
      ((repeat array_mem_dec) <;> (try dsimp only))
      exact (leave_same rfl).mpr ⟨.call m.toNat, g4, by show _ = PV.tup _; rw [Int.toNat_of_nonneg m0], (show m.toNat < routines by omega), rfl, hg4⟩
    · -- back
      refine (w_in (by rfl) rfl (by decide +kernel)).mpr ?_
      rw [show inSeq (.str "back") [.str "move", .str "push", .str "pop", .str "say", .str "add", .str "take"] = false by decide +kernel]
      ((repeat array_mem_dec) <;> (try dsimp only))
      rw [if_neg (by decide +kernel)]
      ((repeat array_mem_dec) <;> (try dsimp only))
      rw [if_neg (by decide +kernel)]
      ((repeat array_mem_dec) <;> (try dsimp only))
      refine w_eDc.mpr ?_
      ((repeat array_mem_dec) <;> (try dsimp only))
      ((refine Post.mono (next_spec _ _ _ hg2 ?hn0 ?hn1) ?_); (case hn0 => omega); (case hn1 => omega))
      rintro _ _ ⟨n, g3, rfl, rfl, hg3, n0, n1⟩
      ((repeat array_mem_dec) <;> (try dsimp only))
      ((refine Post.mono (next_spec _ _ _ hg3 ?hn0 ?hn1) ?_); (case hn0 => omega); (case hn1 => omega))
      rintro _ _ ⟨m, g4, rfl, rfl, hg4, m0, m1⟩
      ((repeat array_mem_dec) <;> (try dsimp only))
      refine ⟨rfl, by decide, by decide +kernel, ?_⟩
      ((repeat array_mem_dec) <;> (try dsimp only))
      exact (leave_same rfl).mpr ⟨.back, g4, by show _ = PV.tup _; rfl, trivial, rfl, hg4⟩
end

/-! PureQ -/
/-! PureQ: programs that are drawn, nearly so. -/
section
open PySem L2
set_option maxHeartbeats 4000000 in
theorem odd_spec (g : Hs) (rest : Store) (hg : g.Ok) (p : Prog) (hp : p.Ok) (turns : Nat) (ht : turns ≤ 1000) : Post (m_odd [.loc 1, p.pv, .int turns] (g.st rest)) (IsProg rest) := by
  have h1 := hp.h1
  have h3 := hp.h3
  have r1 := hp.r1
  have r6 := hp.r6
  unfold m_odd
  refine w_fnP rfl ?_
  ((repeat sizeOf_list_dec) <;> (try dsimp only))
  rw [Int.toNat_natCast]
  refine for_go (all := upto 0 turns) (fun i env S => ∃ rs g' x5 x6 x7 x8 x9 x10 x11 x12 x13, S = Hs.st g' rest ∧ g'.Ok ∧ rs.length = p.routines.length ∧ (∀ r ∈ rs, Routine.Ok p.houses.length p.routines.length r) ∧ env = [some (.loc 1), some p.pv, some (.int turns), some (.tup (p.houses.map House.pv)), some (.tup (rs.map Routine.pv)), x5, x6, x7, x8, x9, x10, x11, x12, x13, none]) (by rfl) ⟨p.routines, g, none, none, none, none, none, none, none, none, none, rfl, hg, rfl, hp.routines, rfl⟩ ?_ ?_
  · rintro i env S x ⟨rs, g', x5, x6, x7, x8, x9, x10, x11, x12, x13, rfl, hg', hlr, hrs, rfl⟩ hx
    refine ⟨by rfl, ?_⟩
    ((repeat sizeOf_list_dec) <;> (try dsimp only))
    rw [List.length_map]
    ((refine Post.mono (next_spec _ _ _ hg' ?hn0 ?hn1) ?_); (case hn0 => omega); (case hn1 => omega))
    rintro _ _ ⟨k, g1, rfl, rfl, hg1, a1, b1⟩
    obtain ⟨k, rfl⟩ : ∃ n : Nat, k = n := ⟨k.toNat, by omega⟩
    have hk : k < rs.length := by omega
    ((repeat sizeOf_list_dec) <;> (try dsimp only))
    refine (w_ix rfl (atI_map (List.getElem?_eq_getElem hk))).mpr ?_
    have hr := hrs _ (List.getElem_mem hk)
    generalize rs[k] = r at hr ⊢
    have hl := hr.len
    have hl0 := r.rows_pos
    ((repeat sizeOf_list_dec) <;> (try dsimp only))
    rw [List.length_map]
    ((refine Post.mono (next_spec _ _ _ hg1 ?hn0 ?hn1) ?_); (case hn0 => omega); (case hn1 => omega))
    rintro _ _ ⟨a, g2, rfl, rfl, hg2, a2, b2⟩
    obtain ⟨a, rfl⟩ : ∃ n : Nat, a = n := ⟨a.toNat, by omega⟩
    ((repeat sizeOf_list_dec) <;> (try dsimp only))
    rw [List.length_map, List.length_map]
    refine (wild_row_spec g2 rest hg2 r.rows.length rs.length hl0 (by omega) (by omega) (by omega)).mono ?_
    rintro _ _ ⟨row, g3, rfl, hrow, rfl, hg3⟩
    ((repeat sizeOf_list_dec) <;> (try dsimp only))
    ((refine Post.mono (next_spec _ _ _ hg3 ?hn0 ?hn1) ?_); (case hn0 => omega); (case hn1 => omega))
    rintro _ _ ⟨sort, g4, rfl, rfl, hg4, a3, b3⟩
    ((repeat sizeOf_list_dec) <;> (try dsimp only))
    have e1 : ((a : Int) + 1) = ((a + 1 : Nat) : Int) := rfl
    have add1 : ∀ (xs ys : List PV) (S : Store) (Q : PV → Store → Prop), xs.length ≤ 100 → ys.length ≤ 100 → Q (.tup (xs ++ ys)) S → Post (oAdd (.tup xs) (.tup ys) S) Q := fun xs ys S Q h1 h2 h => (w_addT' (by omega)).mpr h
    have lt : ∀ n, ((r.rows.map Row.pv).take n).length ≤ 32 := fun n => by rw [List.length_take, List.length_map]; omega
    have ld : ∀ n, ((r.rows.map Row.pv).drop n).length ≤ 32 := fun n => by rw [List.length_drop, List.length_map]; omega
    have lt1 : ∀ n, ((r.rows.map Row.pv).take n ++ [row.pv]).length ≤ 33 := fun n => by rw [List.length_append]; exact Nat.add_le_add_right (lt n) 1
    rw [cut_take]
    refine add1 _ _ _ _ (Nat.le_trans (lt _) (by decide)) (Nat.le_of_ble_eq_true rfl) ?_
    ((repeat sizeOf_list_dec) <;> (try dsimp only))
    rw [e1, cut_drop]
    refine add1 _ _ _ _ (Nat.le_trans (lt1 _) (by decide)) (Nat.le_trans (ld _) (by decide)) ?_
    ((repeat sizeOf_list_dec) <;> (try dsimp only))
    rw [cut_take]
    refine add1 _ _ _ _ (Nat.le_trans (lt _) (by decide)) (Nat.le_of_ble_eq_true rfl) ?_
    ((repeat sizeOf_list_dec) <;> (try dsimp only))
    rw [cut_drop]
    refine add1 _ _ _ _ (Nat.le_trans (lt1 _) (by decide)) (Nat.le_trans (ld _) (by decide)) ?_
    ((repeat sizeOf_list_dec) <;> (try dsimp only))
    rw [cut_take, e1, cut_drop]
    refine add1 _ _ _ _ (Nat.le_trans (lt _) (by decide)) (Nat.le_trans (ld _) (by decide)) ?_
    ((repeat sizeOf_list_dec) <;> (try dsimp only))
    have hsel : ∃ zs : List Row, (∀ z ∈ zs, z.Ok r.rows.length rs.length) ∧ zs.length ≤ 33 ∧ atI [PV.tup ((r.rows.map Row.pv).take a ++ [row.pv] ++ (r.rows.map Row.pv).drop (a + 1)), PV.tup ((r.rows.map Row.pv).take a ++ [row.pv] ++ (r.rows.map Row.pv).drop a), PV.tup ((r.rows.map Row.pv).take a ++ (r.rows.map Row.pv).drop (a + 1)), PV.tup (r.rows.map Row.pv)] sort = some (.tup (zs.map Row.pv)) := by
      have ok : ∀ n, (∀ z ∈ r.rows.take n, z.Ok r.rows.length rs.length) ∧ ∀ z ∈ r.rows.drop n, z.Ok r.rows.length rs.length := fun n => by
        rw [hlr]
        exact ⟨fun z hz => hr.rows z (List.mem_of_mem_take hz), fun z hz => hr.rows z (List.mem_of_mem_drop hz)⟩
      rcases (by omega : sort = 0 ∨ sort = 1 ∨ sort = 2 ∨ sort = 3) with rfl | rfl | rfl | rfl
      · refine ⟨r.rows.take a ++ [row] ++ r.rows.drop (a + 1), fun z hz => ?_, ?_, ?_⟩
        · rcases List.mem_append.mp hz with hz | hz
          · rcases List.mem_append.mp hz with hz | hz
            · exact (ok a).1 z hz
            · rw [List.mem_singleton.mp hz]; exact hrow
          · exact (ok _).2 z hz
        · simp only [List.length_append, List.length_take, List.length_drop, List.length_cons, List.length_nil]; omega
        · rw [← List.map_take, ← List.map_drop, ← List.map_drop, List.map_append, List.map_append]; rfl
      · refine ⟨r.rows.take a ++ [row] ++ r.rows.drop a, fun z hz => ?_, ?_, ?_⟩
        · rcases List.mem_append.mp hz with hz | hz
          · rcases List.mem_append.mp hz with hz | hz
            · exact (ok a).1 z hz
            · rw [List.mem_singleton.mp hz]; exact hrow
          · exact (ok _).2 z hz
        · simp only [List.length_append, List.length_take, List.length_drop, List.length_cons, List.length_nil]; omega
        · rw [← List.map_take, ← List.map_drop, ← List.map_drop, List.map_append, List.map_append]; rfl
      · refine ⟨r.rows.take a ++ r.rows.drop (a + 1), fun z hz => ?_, ?_, ?_⟩
        · rcases List.mem_append.mp hz with hz | hz
          · exact (ok a).1 z hz
          · exact (ok _).2 z hz
        · simp only [List.length_append, List.length_take, List.length_drop]; omega
        · rw [← List.map_take, ← List.map_drop, ← List.map_drop, List.map_append]; rfl
      · exact ⟨r.rows, fun z hz => by rw [hlr]; exact hr.rows z hz, by omega, rfl⟩
    obtain ⟨zs, hz, hzl, hat⟩ := hsel
    refine (w_ix rfl hat).mpr ?_
    ((repeat sizeOf_list_dec) <;> (try dsimp only))
    rw [List.length_map]
    refine lc_vals (enc := Row.pv) (zs := zs) (fun z => (z.clip zs.length).pv) rfl (by omega) (fun z hz' => ?_) ?_
    · have hpos : 0 < zs.length := List.length_pos_of_mem hz'
      ((repeat sizeOf_list_dec) <;> (try dsimp only))
      refine w_word.mpr ?_
      ((repeat sizeOf_list_dec) <;> (try dsimp only))
      refine (w_in rfl rfl (by decide +kernel)).mpr ?_
      rw [Row.in_to]
      cases z with
      | go t =>
        dsimp only [Row.pv, Row.toB]
        ((repeat sizeOf_list_dec) <;> (try dsimp only))
        rw [show cut [PV.str "go", PV.int t] none (some (-1)) = [PV.str "go"] from rfl]
        refine (w_ix (xs := [PV.str "go", PV.int t]) (y := .int t) rfl rfl).mpr ?_
        ((repeat sizeOf_list_dec) <;> (try dsimp only))
        refine add1 _ _ _ _ (Nat.le_of_ble_eq_true rfl) (Nat.le_of_ble_eq_true rfl) ?_
        ((repeat sizeOf_list_dec) <;> (try dsimp only))
        rcases min_int t zs.length with hm | hm
        · rw [hm]
          exact ⟨by trivial, by trivial⟩
        · omega
      | zero b t =>
        dsimp only [Row.pv, Row.toB]
        ((repeat sizeOf_list_dec) <;> (try dsimp only))
        rw [show cut [PV.str "zero", PV.int b, PV.int t] none (some (-1)) = [PV.str "zero", PV.int b] from rfl]
        refine (w_ix (xs := [PV.str "zero", PV.int b, PV.int t]) (y := .int t) rfl rfl).mpr ?_
        ((repeat sizeOf_list_dec) <;> (try dsimp only))
        refine add1 _ _ _ _ (Nat.le_of_ble_eq_true rfl) (Nat.le_of_ble_eq_true rfl) ?_
        ((repeat sizeOf_list_dec) <;> (try dsimp only))
        rcases min_int t zs.length with hm | hm
        · rw [hm]
          exact ⟨by trivial, by trivial⟩
        · omega
      | _ =>
        dsimp only [Row.toB]
        ((repeat sizeOf_list_dec) <;> (try dsimp only))
        exact ⟨by trivial, by trivial⟩
    ((repeat ((fail_if_success (with_reducible refine w_if.mpr ?_)); sizeOf_list_dec)) <;> (try dsimp only))
    refine Post.mono (Q := fun q S => q.1 = .nx ∧ ∃ (h' : Nat) (g5 : Hs), q.2 = [some (.loc 1), some p.pv, some (.int turns), some (.tup (p.houses.map House.pv)), some (.tup (rs.map Routine.pv)), some x, some (.int k), some (.int h'), some (.tup (r.rows.map Row.pv)), some (.int a), some row.pv, some (.int sort), some (.tup (zs.map fun z => (z.clip zs.length).pv)), some (.int zs.length), none] ∧ h' < p.houses.length ∧ S = g5.st rest ∧ g5.Ok) ?_ ?_
    · ((repeat sizeOf_list_dec) <;> (try dsimp only))
      cases hs3 : (sort == 3) with
      | false =>
        ((repeat sizeOf_list_dec) <;> (try dsimp only))
        exact ⟨by trivial, r.house, g4, by trivial, hr.house, rfl, hg4⟩
      | true =>
        ((repeat sizeOf_list_dec) <;> (try dsimp only))
        rw [List.length_map]
        cases hmh : decide ((1 : Int) < p.houses.length) with
        | false =>
          ((repeat sizeOf_list_dec) <;> (try dsimp only))
          exact ⟨by trivial, r.house, g4, by trivial, hr.house, rfl, hg4⟩
        | true =>
          ((repeat sizeOf_list_dec) <;> (try dsimp only))
          rw [List.length_map]
          ((refine Post.mono (next_spec _ _ _ hg4 ?hn0 ?hn1) ?_); (case hn0 => omega); (case hn1 => omega))
          rintro _ _ ⟨h', g5, rfl, rfl, hg5, a5, b5⟩
          obtain ⟨h', rfl⟩ : ∃ n : Nat, h' = n := ⟨h'.toNat, by omega⟩
          ((repeat sizeOf_list_dec) <;> (try dsimp only))
          exact ⟨by trivial, h', g5, by trivial, by omega, rfl, hg5⟩
    · rintro ⟨fl, env⟩ S ⟨hfl, h', g5, henv, hh', rfl, hg5⟩
      cases hfl
      cases henv
      ((repeat sizeOf_list_dec) <;> (try dsimp only))
      cases hd0 : decide ((0 : Int) < zs.length) with
      | false =>
        ((repeat sizeOf_list_dec) <;> (try dsimp only))
        exact ⟨rs, g5, _, _, _, _, _, _, _, _, _, rfl, hg5, hlr, hrs, rfl⟩
      | true =>
        ((repeat sizeOf_list_dec) <;> (try dsimp only))
        cases hd1 : decide ((zs.length : Int) < 33) with
        | false =>
          ((repeat sizeOf_list_dec) <;> (try dsimp only))
          exact ⟨rs, g5, _, _, _, _, _, _, _, _, _, rfl, hg5, hlr, hrs, rfl⟩
        | true =>
          have hpos : 0 < zs.length := by have := of_decide_eq_true hd0; omega
          have hle : zs.length ≤ 32 := by have := of_decide_eq_true hd1; omega
          obtain ⟨init, last, hil⟩ : ∃ init last, zs.map (Row.clip zs.length) = init ++ [last] := by
            rcases List.eq_nil_or_concat (zs.map (Row.clip zs.length)) with h | ⟨i, l, h⟩
            · have := congrArg List.length h
              rw [List.length_map] at this
              exact absurd this (by show zs.length ≠ 0; omega)
            · exact ⟨i, l, by rw [h, List.concat_eq_append]⟩
          have hmap : (zs.map fun z => (z.clip zs.length).pv) = (init ++ [last]).map Row.pv := by rw [← hil, List.map_map]; rfl
          have hlen : (init ++ [last]).length = zs.length := by rw [← hil, List.length_map]
          rw [hmap]
          ((repeat sizeOf_list_dec) <;> (try dsimp only))
          refine (w_ix rfl (last_at init last)).mpr ?_
          ((repeat sizeOf_list_dec) <;> (try dsimp only))
          refine w_word.mpr ?_
          ((repeat sizeOf_list_dec) <;> (try dsimp only))
          refine (w_in rfl rfl (by decide +kernel)).mpr ?_
          rw [Row.in_end]
          cases he : last.endB with
          | false =>
            ((repeat sizeOf_list_dec) <;> (try dsimp only))
            exact ⟨rs, g5, _, _, _, _, _, _, _, _, _, rfl, hg5, hlr, hrs, rfl⟩
          | true =>
            ((repeat sizeOf_list_dec) <;> (try dsimp only))
            rw [cut_take]
            refine add1 _ _ _ _ (by rw [List.length_take, List.length_map]; omega) (Nat.le_of_ble_eq_true rfl) ?_
            ((repeat sizeOf_list_dec) <;> (try dsimp only))
            have e2 : ((k : Int) + 1) = ((k + 1 : Nat) : Int) := rfl
            rw [e2, cut_drop]
            refine add1 _ _ _ _ (by rw [List.length_append, List.length_take, List.length_map]; show _ + 1 ≤ 100; omega) (by rw [List.length_drop, List.length_map]; omega) ?_
            ((repeat sizeOf_list_dec) <;> (try dsimp only))
            have hset : (rs.map Routine.pv).take k ++ [Routine.pv ⟨h', init, last⟩] ++ (rs.map Routine.pv).drop (k + 1) = (rs.set k ⟨h', init, last⟩).map Routine.pv := by
              rw [set_take_drop (by rw [List.length_map]; exact hk), List.map_set]
            have hset : (rs.map Routine.pv).take k ++ [PV.tup [PV.int h', PV.tup ((init ++ [last]).map Row.pv)]] ++ (rs.map Routine.pv).drop (k + 1) = (rs.set k ⟨h', init, last⟩).map Routine.pv := hset
            rw [hset]
            refine ⟨rs.set k ⟨h', init, last⟩, g5, _, _, _, _, _, _, _, _, _, rfl, hg5, by rw [List.length_set]; exact hlr, fun r' hr' => ?_, rfl⟩
            rcases List.mem_or_eq_of_mem_set hr' with h | h
            · exact hrs r' h
            · rw [h]
              refine ⟨hh', by show (init ++ [last]).length ≤ 32; omega, ?_, Row.endB_is he⟩
              show ∀ z ∈ init ++ [last], z.Ok (init ++ [last]).length _
              rw [hlen, ← hil, ← hlr]
              intro z hz'
              obtain ⟨z0, hz0, rfl⟩ := List.mem_map.mp hz'
              exact Row.clip_ok (hz z0 hz0) hpos
  · rintro env S ⟨rs, g', x5, x6, x7, x8, x9, x10, x11, x12, x13, rfl, hg', hlr, hrs, rfl⟩
    refine ⟨by rfl, ?_⟩
    ((repeat sizeOf_list_dec) <;> (try dsimp only))
    refine (leave_same rfl).mpr ⟨⟨p.houses, rs⟩, g', rfl, ⟨h1, h3, by show 1 ≤ rs.length; omega, by show rs.length ≤ 6; omega, hp.houses, ?_⟩, rfl, hg'⟩
    show ∀ r ∈ rs, r.Ok p.houses.length rs.length
    rw [hlr]
    exact hrs
end

/-! PureR -/
/-! PureR: wild programs, swapped ones, any. -/
section
open PySem L2
theorem wild_spec (g : Hs) (rest : Store) (hlow : LowR rest) (hg : g.Ok) (most : Nat) (hm0 : 0 < most) (hm : most ≤ 32) : Post (m_wild [.loc 1, .int most] (g.st rest)) (IsProg rest) := by
  unfold m_wild
  refine w_fnP rfl ?_
  generalize hL : (g.st rest).length = L
  ((repeat sizeOf_list_dec) <;> (try dsimp only))
  ((refine Post.mono (next_spec _ _ _ hg ?hn0 ?hn1) ?_); (case hn0 => omega); (case hn1 => omega))
  rintro _ _ ⟨r1, g1, rfl, rfl, hg1, a1, b1⟩
  obtain ⟨n1, rfl⟩ : ∃ n : Nat, r1 = n := ⟨r1.toNat, by omega⟩
  ((repeat sizeOf_list_dec) <;> (try dsimp only))
  rw [show ((1 : Int) + (n1 : Int)).toNat = n1 + 1 by omega]
  refine lc_draws (P := fun _ x => ∃ h : House, x = h.pv ∧ h.Ok) hg1 (by omega) (fun i g0 hi hg0 => ?_) (fun xs g2 hg2 hl hP => ?_)
  · ((repeat sizeOf_list_dec) <;> (try dsimp only))
    refine (house_spec _ _ hg0).mono ?_
    rintro _ _ ⟨h, g3, rfl, hh, rfl, hg3⟩
    exact ⟨g3, rfl, hg3, h, rfl, hh⟩
  obtain ⟨hs, rfl, hhs⟩ := map_of hP
  rw [List.length_map] at hl
  ((repeat sizeOf_list_dec) <;> (try dsimp only))
  ((refine Post.mono (next_spec _ _ _ hg2 ?hn0 ?hn1) ?_); (case hn0 => omega); (case hn1 => omega))
  rintro _ _ ⟨r2, g3, rfl, rfl, hg3, a2, b2⟩
  obtain ⟨n2, rfl⟩ : ∃ n : Nat, r2 = n := ⟨r2.toNat, by omega⟩
  ((repeat sizeOf_list_dec) <;> (try dsimp only))
  rw [show (g3.st rest).length = rest.length + 2 from rfl, show ((1 : Int) + (n2 : Int)).toNat = n2 + 1 by omega]
  refine for_go (all := upto 0 (n2 + 1)) (fun i env S => ∃ (rs : List Routine) (g' : Hs) (x3 x6 x7 : Option PV), S = Hs.st g' (rest ++ [.lst (rs.map Routine.pv)]) ∧ g'.Ok ∧ rs.length = i ∧ i ≤ n2 + 1 ∧ (∀ r ∈ rs, Routine.Ok hs.length (n2 + 1) r) ∧ env = [some (.loc 1), some (.int most), some (.tup (hs.map House.pv)), x3, some (.int (1 + n2)), some (.loc (rest.length + 2)), x6, x7, none]) (by rfl) ⟨[], g3, none, none, none, rfl, hg3, rfl, Nat.zero_le _, fun r h => absurd h List.not_mem_nil, rfl⟩ ?_ ?_
  · rintro i env S x ⟨rs, g', x3, x6, x7, rfl, hg', hlr, hi', hrs, rfl⟩ hx
    refine ⟨by rfl, ?_⟩
    have hi : i < n2 + 1 := by
      have := (List.getElem?_eq_some_iff.mp hx).1
      rw [upto_length] at this
      exact this
    ((repeat sizeOf_list_dec) <;> (try dsimp only))
    ((refine Post.mono (next_spec _ _ _ hg' ?hn0 ?hn1) ?_); (case hn0 => omega); (case hn1 => omega))
    rintro _ _ ⟨r4, g4, rfl, rfl, hg4, a4, b4⟩
    obtain ⟨n4, rfl⟩ : ∃ n : Nat, r4 = n := ⟨r4.toNat, by omega⟩
    ((repeat sizeOf_list_dec) <;> (try dsimp only))
    rw [show ((1 : Int) + (n4 : Int) - 1).toNat = n4 by omega]
    refine lc_draws (P := fun _ x => ∃ r : Row, x = r.pv ∧ r.Ok (n4 + 1) (n2 + 1)) hg4 (by omega) (fun i g0 hi hg0 => ?_) (fun xs g5 hg5 hl2 hP2 => ?_)
    · ((repeat sizeOf_list_dec) <;> (try dsimp only))
      rw [show ((1 : Int) + (n4 : Int)) = ((n4 + 1 : Nat) : Int) by omega, show ((1 : Int) + (n2 : Int)) = ((n2 + 1 : Nat) : Int) by omega]
      refine (wild_row_spec g0 _ hg0 (n4 + 1) (n2 + 1) (by omega) (by omega) (by omega) (by omega)).mono ?_
      rintro _ _ ⟨row, g3, rfl, hrow, rfl, hg3⟩
      exact ⟨g3, rfl, hg3, row, rfl, hrow⟩
    obtain ⟨init, rfl, hinit⟩ := map_of hP2
    rw [List.length_map] at hl2
    ((repeat sizeOf_list_dec) <;> (try dsimp only))
    ((refine Post.mono (next_spec _ _ _ hg5 ?hn0 ?hn1) ?_); (case hn0 => omega); (case hn1 => omega))
    rintro _ _ ⟨r6, g6, rfl, rfl, hg6, a6, b6⟩
    obtain ⟨last, hlast, hle, hlo⟩ : ∃ last : Row, atI [PV.tup [.str "back"], PV.tup [.str "go", .int 0]] r6 = some last.pv ∧ last.isEnd ∧ last.Ok (n4 + 1) (n2 + 1) := by
      rcases (by omega : r6 = 0 ∨ r6 = 1) with rfl | rfl
      · exact ⟨.back, rfl, trivial, trivial⟩
      · exact ⟨.go 0, rfl, trivial, Nat.succ_pos _⟩
    refine (w_ix rfl hlast).mpr ?_
    ((repeat sizeOf_list_dec) <;> (try dsimp only))
    refine (w_addLL (by rw [List.length_map, hl2]; exact Nat.le_trans (by show n4 + 1 ≤ 1000; omega) (by decide : 1000 ≤ lim))).mpr ?_
    ((repeat sizeOf_list_dec) <;> (try dsimp only))
    refine ⟨_, _, rfl, Hs.at0, ?_⟩
    ((repeat sizeOf_list_dec) <;> (try dsimp only))
    rw [List.length_map]
    ((refine Post.mono (next_spec _ _ _ hg6 ?hn0 ?hn1) ?_); (case hn0 => omega); (case hn1 => omega))
    rintro _ _ ⟨r7, g7, rfl, rfl, hg7, a7, b7⟩
    obtain ⟨h, rfl⟩ : ∃ n : Nat, r7 = n := ⟨r7.toNat, by omega⟩
    ((repeat sizeOf_list_dec) <;> (try dsimp only))
    refine (w_mAppend Hs.at0 (by rw [List.length_map]; exact Nat.lt_of_le_of_lt (by omega) (by decide : 1000 < lim))).mpr ?_
    rw [Hs.set0]
    have e1 : rs.map Routine.pv ++ [PV.tup [PV.int h, PV.tup (init.map Row.pv ++ [last.pv])]] = (rs ++ [Routine.mk h init last]).map Routine.pv := by
      rw [List.map_append]
      show _ = _ ++ [PV.tup [PV.int h, PV.tup ((init ++ [last]).map Row.pv)]]
      rw [List.map_append]
      rfl
    rw [e1]
    ((repeat sizeOf_list_dec) <;> (try dsimp only))
    refine ⟨rs ++ [⟨h, init, last⟩], g7, _, _, _, rfl, hg7, by rw [List.length_append, hlr]; rfl, hi, fun r' hr' => ?_, rfl⟩
    rcases List.mem_append.mp hr' with hq | hq
    · exact hrs r' hq
    · rw [List.mem_singleton.mp hq]
      have hlen : (init ++ [last]).length = n4 + 1 := by rw [List.length_append, hl2]; rfl
      refine ⟨by show h < hs.length; omega, by show (init ++ [last]).length ≤ 32; omega, ?_, hle⟩
      show ∀ z ∈ init ++ [last], z.Ok (init ++ [last]).length _
      rw [hlen]
      intro z hz
      rcases List.mem_append.mp hz with hz | hz
      · exact hinit z hz
      · rw [List.mem_singleton.mp hz]
        exact hlo
  · rintro env S ⟨rs, g4, x3, x6, x7, rfl, hg4, hlr, hi', hrs, rfl⟩
    rw [upto_length] at hlr
    refine ⟨by rfl, ?_⟩
    ((repeat sizeOf_list_dec) <;> (try dsimp only))
    refine (w_tuple (xs := rs.map Routine.pv) (by show (match (g4.st (rest ++ [Cell.lst (rs.map Routine.pv)]))[rest.length + 2]? with | some (.lst xs) => some xs | _ => none) = _; rw [Hs.at0])).mpr ?_
    ((repeat sizeOf_list_dec) <;> (try dsimp only))
    rw [← hL]
    show Post (leave (g4.st rest).length (Prog.pv ⟨hs, rs⟩) (g4.st rest ++ [Cell.lst (rs.map Routine.pv)])) _
    refine (leave_drop (w := Prog.pv ⟨hs, rs⟩) (hlow.st g4) (by simp) ?_).mpr ⟨⟨hs, rs⟩, g4, rfl, ⟨by show 1 ≤ hs.length; omega, by show hs.length ≤ 3; omega, by show 1 ≤ rs.length; omega, by show rs.length ≤ 6; omega, hhs, ?_⟩, rfl, hg4⟩
    · show (if LW.low _ (Prog.pv ⟨hs, rs⟩) = true then some _ else none) = _
      rw [if_pos (Prog.low _ _)]
    · show ∀ r ∈ rs, r.Ok hs.length rs.length
      rw [hlr]
      exact hrs
theorem any_spec (g : Hs) (rest : Store) (hlow : LowR rest) (hg : g.Ok) : Post (m_any [.loc 1] (g.st rest)) (IsProg rest) := by
  unfold m_any
  refine w_fnP rfl ?_
  ((repeat sizeOf_list_dec) <;> (try dsimp only))
  ((refine Post.mono (next_spec _ _ _ hg ?hn0 ?hn1) ?_); (case hn0 => omega); (case hn1 => omega))
  rintro _ _ ⟨turn, g1, rfl, rfl, hg1, a1, b1⟩
  ((repeat sizeOf_list_dec) <;> (try dsimp only))
  cases h4 : (turn == 4) with
  | true =>
    ((repeat sizeOf_list_dec) <;> (try dsimp only))
    ((refine Post.mono (next_spec _ _ _ hg1 ?hn0 ?hn1) ?_); (case hn0 => omega); (case hn1 => omega))
    rintro _ _ ⟨r2, g2, rfl, rfl, hg2, a2, b2⟩
    obtain ⟨most, hm0, hm, hat⟩ : ∃ mx : Nat, 0 < mx ∧ mx ≤ 32 ∧ atI [PV.int 6, PV.int 20, PV.int 32] r2 = some (.int mx) := by
      rcases (by omega : r2 = 0 ∨ r2 = 1 ∨ r2 = 2) with rfl | rfl | rfl
      · exact ⟨6, by decide, by decide, rfl⟩
      · exact ⟨20, by decide, by decide, rfl⟩
      · exact ⟨32, by decide, by decide, rfl⟩
    refine (w_ix rfl hat).mpr ?_
    ((repeat sizeOf_list_dec) <;> (try dsimp only))
    refine (wild_spec g2 rest hlow hg2 most hm0 hm).mono ?_
    rintro _ _ ⟨p, g3, rfl, hp, rfl, hg3⟩
    ((repeat sizeOf_list_dec) <;> (try dsimp only))
    exact (leave_same rfl).mpr ⟨p, g3, rfl, hp, rfl, hg3⟩
  | false =>
    ((repeat sizeOf_list_dec) <;> (try dsimp only))
    refine (program_spec g1 rest hlow hg1).mono ?_
    rintro _ _ ⟨p, g3, rfl, hp, rfl, hg3⟩
    ((repeat sizeOf_list_dec) <;> (try dsimp only))
    cases h0 : (turn == 0) with
    | true =>
      ((repeat sizeOf_list_dec) <;> (try dsimp only))
      exact (leave_same rfl).mpr ⟨p, g3, rfl, hp, rfl, hg3⟩
    | false =>
      ((repeat sizeOf_list_dec) <;> (try dsimp only))
      ((refine Post.mono (next_spec _ _ _ hg3 ?hn0 ?hn1) ?_); (case hn0 => omega); (case hn1 => omega))
      rintro _ _ ⟨r4, g4, rfl, rfl, hg4, a4, b4⟩
      obtain ⟨n4, rfl⟩ : ∃ n : Nat, r4 = n := ⟨r4.toNat, by omega⟩
      ((repeat sizeOf_list_dec) <;> (try dsimp only))
      rw [show ((1 : Int) + (n4 : Int)) = ((n4 + 1 : Nat) : Int) by omega]
      refine (odd_spec g4 rest hg4 p hp (n4 + 1) (by omega)).mono ?_
      rintro _ _ ⟨q, g5, rfl, hq, rfl, hg5⟩
      ((repeat sizeOf_list_dec) <;> (try dsimp only))
      exact (leave_same rfl).mpr ⟨q, g5, rfl, hq, rfl, hg5⟩
end

/-! PureLi1 -/
/-! PureLi1: check_number. -/
section
open PySem L2
end

/-! PureLz0 -/
/-! PureZd: the law's measure of likeness; its draws' beginning. -/
section
open PySem L2
theorem w_ffD {A B : Prop} {d : Decidable (false = true)} : (@ite Prop (false = true) d A B) ↔ B := by rw [if_neg Bool.false_ne_true]
theorem w_ttD {A B : Prop} {d : Decidable (true = true)} : (@ite Prop (true = true) d A B) ↔ A := by rw [if_pos rfl]
def isa2R (t u : Ty) (x : PV) (S : Store) : R PV := match isTy S x t, isTy S x u with
  | some k, some j => .ok (.bl (k || j)) S
  | _, _ => .bad
theorem w_isa2 {t u : Ty} {a : XE} {env : LW.Env} {S : Store} {Q : PV → Store → Prop} : Post (eIsa2 t u a env S) Q ↔ Post (a env S) fun x S => Post (isa2R t u x S) Q := by
  unfold eIsa2
  rw [Post.bind]
  exact Iff.rfl
theorem w_isa2T {S : Store} {Q : PV → Store → Prop} {x : PV} {t u : Ty} {j : Bool} (h : isTy S x t = some true) (h2 : isTy S x u = some j) : Post (isa2R t u x S) Q ↔ Q (.bl true) S := by
  unfold isa2R
  rw [h, h2]
  exact Post.ok
theorem w_isa2J {S : Store} {Q : PV → Store → Prop} {x : PV} {t u : Ty} (h : isTy S x t = some false) (h2 : isTy S x u = some true) : Post (isa2R t u x S) Q ↔ Q (.bl true) S := by
  unfold isa2R
  rw [h, h2]
  exact Post.ok
theorem w_isa2N {S : Store} {Q : PV → Store → Prop} {x : PV} {t u : Ty} (h : isTy S x t = some false) (h2 : isTy S x u = some false) : Post (isa2R t u x S) Q ↔ Q (.bl false) S := by
  unfold isa2R
  rw [h, h2]
  exact Post.ok
theorem w_neB {a b : Bool} {S : Store} {Q : PV → Store → Prop} : Post (oNe (.bl a) (.bl b) S) Q ↔ Q (.bl (!(a == b))) S := by
  unfold oNe
  rw [if_pos ⟨rfl, rfl⟩]
  exact Post.ok
theorem w_eqB {a b : Bool} {S : Store} {Q : PV → Store → Prop} : Post (oEq (.bl a) (.bl b) S) Q ↔ Q (.bl (a == b)) S := by
  unfold oEq
  rw [if_pos ⟨rfl, rfl⟩]
  exact Post.ok
/-- [x for x in range(n) if p(x)], p nowhere -/
theorem lc_none {env : LW.Env} {S : Store} {QA : List PV → Store → Prop} {v n : Nat} {t : XB} {e : XE}
    (ht : ∀ i, i < n → Post (t (env.set v (some (.int (i : Int)))) S) fun k S' => k = false ∧ S' = S) (hQ : QA [] S) : LcP (.rng 0 n) (gNm v) t e env S QA := by
  refine ⟨upto 0 n, rfl, lc_inv (fun i acc S' => i ≤ n ∧ acc = [] ∧ S' = S) ?_ ?_ _ 0 rfl (Nat.zero_le _) _ _ ⟨Nat.zero_le _, rfl, rfl⟩⟩
  · rintro i acc S' x ⟨hi, rfl, rfl⟩ hx
    refine ⟨rfl, ?_⟩
    have hlt : i < n := by
      have := (List.getElem?_eq_some_iff.mp hx).1
      rw [upto_length] at this
      exact this
    rw [upto_get hlt] at hx
    cases hx
    refine w_gNm.mpr ?_
    rw [Int.zero_add]
    refine (ht i hlt).mono ?_
    rintro k S2 ⟨rfl, rfl⟩
    rw [if_neg (by decide)]
    exact ⟨hlt, rfl, rfl⟩
  · rintro acc S' ⟨_, rfl, rfl⟩
    exact ⟨rfl, hQ⟩
end
section
open PySem L2
end
local macro_rules | `(tactic| ac_rfl) => `(tactic| (simp only [PV.isNon, Bool.false_eq_true, ↓reduceIte]))
local macro_rules | `(tactic| ac_rfl) => `(tactic| (with_reducible refine w_ttD.mpr ?_))
local macro_rules | `(tactic| ac_rfl) => `(tactic| (with_reducible refine w_ffD.mpr ?_))
local macro_rules | `(tactic| ac_rfl) => `(tactic| sizeOf_list_dec)
local macro_rules | `(tactic| ac_rfl) => `(tactic| ((with_reducible refine (w_isaK (k := ?wx) ?wh).mpr ?_); (case wh => assumption)))
local macro_rules | `(tactic| ac_rfl) => `(tactic| ((with_reducible refine (w_isa2N ?wh ?wi).mpr ?_); (case wh => first | rfl | assumption); (case wi => first | rfl | assumption)))
local macro_rules | `(tactic| ac_rfl) => `(tactic| ((with_reducible refine (w_isa2J ?wh ?wi).mpr ?_); (case wh => first | rfl | assumption); (case wi => first | rfl | assumption)))
local macro_rules | `(tactic| ac_rfl) => `(tactic| ((with_reducible refine (w_isa2T (j := ?wj) ?wh ?wi).mpr ?_); (case wh => first | rfl | assumption); (case wi => first | rfl | assumption)))
local macro_rules | `(tactic| ac_rfl) => `(tactic| (with_reducible refine w_eqB.mpr ?_))
local macro_rules | `(tactic| ac_rfl) => `(tactic| (with_reducible refine w_neB.mpr ?_))
local macro_rules | `(tactic| ac_rfl) => `(tactic| (with_reducible refine w_isa2.mpr ?_))
section
open PySem L2
inductive Alk (S : Store) : Nat → PV → PV → Prop
  | non (n : Nat) : Alk S n .non .non
  | bl (n : Nat) (b : Bool) : Alk S n (.bl b) (.bl b)
  | int (n : Nat) (i : Int) : Alk S n (.int i) (.int i)
  | str (n : Nat) (s : Str) (h : PyData.strOk s = true) : Alk S n (.str s) (.str s)
  | seq (n : Nat) (x y : PV) (xs ys : List PV) (k : Bool) (hx : seqOf S x = some xs) (hy : seqOf S y = some ys) (tx : isTy S x .list = some k) (ty : isTy S y .list = some k) (ux : isTy S x .tuple = some (!k)) (uy : isTy S y .tuple = some (!k))
      (hl : xs.length = ys.length) (hn : xs.length ≤ 100000) (h : ∀ (i : Nat) (a b : PV), xs[i]? = some a → ys[i]? = some b → Alk S n a b) : Alk S (n + 1) x y
/-- the draws' beginning -/
theorem mix_spec (ns : List Int) (seed : Int) (hn : ns.length ≤ 63) : Post (m_mix [.fz (ns.map .int), .int seed] []) fun v S => v = .loc 1 ∧ ∃ a, S = Hs.st ⟨ns, a, 0⟩ [] := by
  unfold m_mix
  refine w_fnK rfl ?_
  ((repeat ac_rfl) <;> (try dsimp only))
  refine for_go (all := ns.map .int) (fun i env S => ∃ a x, S = [] ∧ env = [some (.fz (ns.map .int)), some (.int seed), some (.int a), x]) (by rfl) ⟨seed, none, rfl, rfl⟩ ?_ ?_
  · rintro i env S x ⟨a, x3, rfl, rfl⟩ hx
    refine ⟨by rfl, ?_⟩
    rw [List.getElem?_map] at hx
    cases hh : ns[i]? with
    | none => rw [hh] at hx; cases hx
    | some z =>
      rw [hh] at hx
      cases hx
      ((repeat ac_rfl) <;> (try dsimp only))
      exact ⟨_, _, by trivial, rfl⟩
  · rintro env S ⟨a, x3, rfl, rfl⟩
    refine ⟨by rfl, ?_⟩
    ((repeat ac_rfl) <;> (try dsimp only))
    exact ⟨by trivial, a, rfl⟩
end

/-! PureLz -/
/-! PureLz: likeness. -/
section
open PySem L2
theorem alike_spec (S : Store) : ∀ (n : Nat) (x y : PV), Alk S n x y → Post (mm_alike (n + 1) [x, y] S) fun v S' => v = .bl true ∧ S' = S
  | n, _, _, .non _ => by
    unfold mm_alike
    refine w_fnP rfl ?_
    ((repeat ac_rfl) <;> (try dsimp only))
    exact (leave_same rfl).mpr ⟨rfl, rfl⟩
  | n, _, _, .bl _ b => by
    unfold mm_alike
    refine w_fnP rfl ?_
    ((repeat ac_rfl) <;> (try dsimp only))
    rw [show (b == b) = true from beq_self_eq_true b]
    exact (leave_same rfl).mpr ⟨rfl, rfl⟩
  | n, _, _, .int _ i => by
    unfold mm_alike
    refine w_fnP rfl ?_
    ((repeat ac_rfl) <;> (try dsimp only))
    rw [show (i == i) = true from beq_self_eq_true i]
    exact (leave_same rfl).mpr ⟨rfl, rfl⟩
  | n, _, _, .str _ s h => by
    unfold mm_alike
    refine w_fnP rfl ?_
    ((repeat ac_rfl) <;> (try dsimp only))
    refine (w_eqS h h).mpr ?_
    rw [decide_eq_true rfl]
    ((repeat ac_rfl) <;> (try dsimp only))
    exact (leave_same rfl).mpr ⟨rfl, rfl⟩
  | n + 1, _, _, .seq _ x y xs ys k hx hy tx ty ux uy hl hn h => by
    unfold mm_alike
    refine w_fnP rfl ?_
    cases k <;> simp only [Bool.not_true, Bool.not_false] at ux uy
    all_goals
      ((repeat ac_rfl) <;> (try dsimp only))
      rw [if_neg (by decide)]
      ((repeat ac_rfl) <;> (try dsimp only))
      refine (w_len hx).mpr ?_
      ((repeat ac_rfl) <;> (try dsimp only))
      refine (w_len hy).mpr ?_
      ((repeat ac_rfl) <;> (try dsimp only))
      rw [hl, beq_self_eq_true]
      ((repeat ac_rfl) <;> (try dsimp only))
      refine (w_len hy).mpr ?_
      ((repeat ac_rfl) <;> (try dsimp only))
      rw [Int.toNat_natCast]
      refine lc_none (fun i hi => ?_) ?_
      · have h1 : xs[i]? = some xs[i] := List.getElem?_eq_getElem _
        have h2 : ys[i]? = some ys[i] := List.getElem?_eq_getElem _
        ((repeat ac_rfl) <;> (try dsimp only))
        refine (w_ix hx (by rw [L2.atI_nat (j := i)]; exact h1)).mpr ?_
        ((repeat ac_rfl) <;> (try dsimp only))
        refine (w_ix hy (by rw [L2.atI_nat (j := i)]; exact h2)).mpr ?_
        ((repeat ac_rfl) <;> (try dsimp only))
        refine (alike_spec S n _ _ (h i _ _ h1 h2)).mono ?_
        rintro _ _ ⟨rfl, rfl⟩
        ((repeat ac_rfl) <;> (try dsimp only))
        exact ⟨by trivial, by trivial⟩
      · ((repeat ac_rfl) <;> (try dsimp only))
        refine (w_eqE' rfl).mpr ?_
        ((repeat ac_rfl) <;> (try dsimp only))
        exact (leave_same rfl).mpr ⟨rfl, rfl⟩
end

/-! PureTh -/
/-! PureTh: the law's words; likeness of data. -/
section
open PySem L2
/-- data with no list of the store in it, so deep at most -/
def dataB : Nat → PV → Bool
  | _, .int _ => true
  | _, .str s => PyData.strOk s
  | n + 1, .tup xs => decide (xs.length ≤ 100000) && xs.all (dataB n)
  | _, _ => false
theorem alk_data {S : Store} : ∀ (n : Nat) (x : PV), dataB n x = true → Alk S n x x
  | n, .int i, _ => .int n i
  | n, .str s, h => .str n s (by cases n <;> exact h)
  | n + 1, .tup xs, h => by
    have h : (decide (xs.length ≤ 100000) && xs.all (dataB n)) = true := h
    rw [Bool.and_eq_true, decide_eq_true_eq] at h
    refine .seq n _ _ xs xs false rfl rfl rfl rfl rfl rfl rfl h.1 fun i a b ha hb => ?_
    rw [ha] at hb
    obtain rfl := Option.some.inj hb
    exact alk_data n a (List.all_eq_true.mp h.2 a (List.mem_of_getElem? ha))
  | 0, .tup _, h => by cases h
  | n, .non, h => by cases n <;> cases h
  | n, .bl _, h => by cases n <;> cases h
  | n, .ls _, h => by cases n <;> cases h
  | n, .fz _, h => by cases n <;> cases h
  | n, .dc _ _, h => by cases n <;> cases h
  | n, .loc _, h => by cases n <;> cases h
theorem data_tup {n : Nat} {xs : List PV} (hl : xs.length ≤ 100000) (h : ∀ x ∈ xs, dataB n x = true) : dataB (n + 1) (.tup xs) = true := by
  show (decide (xs.length ≤ 100000) && xs.all (dataB n)) = true
  rw [decide_eq_true hl, List.all_eq_true.mpr h]
  rfl
theorem data_int {n : Nat} {i : Int} : dataB n (.int i) = true := by cases n <;> rfl
theorem data_ivs {n : Nat} (xs : List Nat) : ∀ x ∈ ivs xs, dataB n x = true := fun x hx => by
  obtain ⟨k, _, rfl⟩ := ivs_mem hx
  exact data_int
theorem word_ok (r : Row) : PyData.strOk r.word = true := by cases r <;> (simp only [Row.word]; decide +kernel)
theorem data_row {n : Nat} (r : Row) : dataB (n + 1) r.pv = true := by
  rw [Row.pv_eq]
  refine data_tup ?_ fun x hx => ?_
  · rw [List.length_cons, ivs_length]
    have := r.args_len
    omega
  · rcases List.mem_cons.mp hx with rfl | hx
    · cases n <;> exact word_ok r
    · exact data_ivs _ x hx
theorem data_prog {p : Prog} (hp : p.Ok) : dataB 6 p.pv = true := by
  have h3 := hp.h3
  have h6 := hp.r6
  unfold Prog.pv
  refine data_tup (by show 2 ≤ 100000; decide) fun x hx => ?_
  simp only [List.mem_cons, List.not_mem_nil, or_false] at hx
  rcases hx with rfl | rfl
  · refine data_tup (by rw [List.length_map]; omega) fun x hx => ?_
    obtain ⟨h, hh, rfl⟩ := List.mem_map.mp hx
    have ho := hp.houses h hh
    unfold House.pv
    refine data_tup (by show 3 ≤ 100000; decide) fun x hx => ?_
    simp only [List.mem_cons, List.not_mem_nil, or_false] at hx
    rcases hx with rfl | rfl | rfl
    · exact data_tup (by rw [ivs_length]; have := ho.ins.len; omega) (data_ivs _)
    · exact data_int
    · exact data_tup (by rw [ivs_length]; have := ho.kept.len; omega) (data_ivs _)
  · refine data_tup (by rw [List.length_map]; omega) fun x hx => ?_
    obtain ⟨r, hr, rfl⟩ := List.mem_map.mp hx
    have ro := hp.routines r hr
    unfold Routine.pv
    refine data_tup (by show 2 ≤ 100000; decide) fun x hx => ?_
    simp only [List.mem_cons, List.not_mem_nil, or_false] at hx
    rcases hx with rfl | rfl
    · exact data_int
    · refine data_tup (by rw [List.length_map]; have := ro.len; omega) fun x hx => ?_
      obtain ⟨r, _, rfl⟩ := List.mem_map.mp hx
      exact data_row r
end

/-! PureCkI -/
/-! PureCkI: k20 as a whole. -/
section
open PySem L2
theorem upto_rngT (n : Nat) : upto 0 n = (List.range n).map fun i : Nat => PV.int (i : Int) := by
  refine List.ext_getElem? fun i => ?_
  by_cases h : i < n
  · rw [upto_get h, List.getElem?_map, List.getElem?_range h]
    show some (PV.int (0 + (i : Int))) = some (PV.int (i : Int))
    rw [Int.zero_add]
  · rw [List.getElem?_eq_none (by rw [upto_length]; omega), List.getElem?_eq_none (by rw [List.length_map, List.length_range]; omega)]
theorem heads_at (p : Nat → Bool) (n : Nat) : ((((List.range n).filter p).map fun i : Nat => PV.int (i : Int)) ++ [PV.int (n : Int)])[0]? = some (.int ((((List.range n).find? p).getD n : Nat) : Int)) := by
  rw [← List.head?_eq_getElem?, List.head?_append, List.head?_map, List.head?_filter]
  cases (List.range n).find? p <;> rfl
theorem bads_none {L : List (List Str)} (h : firstBad L = none) : (List.range L.length).filter (badAt L) = [] := by
  have e := List.head?_filter (p := badAt L) (l := List.range L.length)
  rw [show (List.range L.length).find? (badAt L) = none from h] at e
  exact List.head?_eq_none_iff.mp e
theorem bads_some {L : List (List Str)} {k : Nat} (h : firstBad L = some k) : ∃ r, (List.range L.length).filter (badAt L) = k :: r := by
  have e := List.head?_filter (p := badAt L) (l := List.range L.length)
  rw [show (List.range L.length).find? (badAt L) = some k from h] at e
  exact List.head?_eq_some_iff.mp e
theorem wordsAt {t : Str} {k : Nat} (h : k < (linesOf t).length) : (wordsOf t).getD k [] = Txt.split (linesOf t)[k] " " := by
  rw [List.getD_eq_getElem?_getD, words_at (List.getElem?_eq_getElem h)]
  rfl
theorem read_good (S : Store) (hS : LowS S) (t : Str) (ht : TOk 90000 t) (h1 : firstBad (wordsOf t) = none) (h2 : chk (progOf (wordsOf t)) = none) : Post (m_read [.str t] S) fun v S' => v = (progOf (wordsOf t)).pv ∧ S' = S := by
  have h := read_any S hS t ht
  cases hm : m_read [.str t] S with
  | ok a S1 =>
    rw [hm] at h
    exact ⟨⟨h.told.2.2.1, h.told.2.2.2⟩⟩
  | bad => rw [hm] at h; exact h.told.elim
  | exc e S1 =>
    rw [hm] at h
    have h := h.told.1
    rw [h1] at h
    rw [h2] at h
    cases h
def fixedT : List Str := ["", "\n", "house", "house - 0 -", "routine 0", "back", "house - 0 -\nroutine 0\nback", "house - 0 - \nroutine 0", "house - 0 -\nroutine 0\nback\n", "house - 0 -\nback\nroutine 0", "routine 0\nback\nhouse - 0 -"]
theorem fixed_ok : ∀ w ∈ fixedT, w.length ≤ 90000 ∧ PyData.strOk w = true := by decide +kernel
def bnd : Nat → Nat
  | 0 => 10000
  | n + 1 => 2 * bnd n + 20
theorem bnd_le {i : Nat} (h : i ≤ 2) : bnd i ≤ 45000 := by
  rcases (by omega : i = 0 ∨ i = 1 ∨ i = 2) with rfl | rfl | rfl <;> decide
theorem bnd_le3 {i : Nat} (h : i ≤ 3) : bnd i ≤ 90000 := by
  rcases (by omega : i = 0 ∨ i = 1 ∨ i = 2 ∨ i = 3) with rfl | rfl | rfl | rfl <;> decide
set_option maxHeartbeats 8000000 in
theorem law_post (ns : List Int) (hn : ns.length ≤ 63) : Post (m_law [.fz (ns.map .int)] []) fun v _ => v = .bl true := by
  unfold m_law
  refine w_fnK rfl ?_
  ((repeat sizeOf_list_dec) <;> (try dsimp only))
  refine (mix_spec ns 73 hn).mono ?_
  rintro _ _ ⟨rfl, a, rfl⟩
  ((repeat sizeOf_list_dec) <;> (try dsimp only))
  refine (w_addLL (by decide)).mpr ?_
  ((repeat sizeOf_list_dec) <;> (try dsimp only))
  refine (w_addLL (by decide)).mpr ?_
  ((repeat sizeOf_list_dec) <;> (try dsimp only))
  refine for_go (all := upto 0 5) (fun i env S => ∃ (g : Hs) (rest : Store) (x3 x4 x5 x6 x7 x8 x9 x10 x11 : Option PV), S = g.st rest ∧ g.Ok ∧ LowR rest ∧ env = [some (.fz (ns.map .int)), some (.loc 1), some (.ls (fixedT.map .str)), x3, x4, x5, x6, x7, x8, x9, x10, x11]) (by rfl) ⟨⟨ns, a, 0⟩, [], none, none, none, none, none, none, none, none, none, rfl, ⟨hn, Int.le_refl _⟩, rfl, rfl⟩ ?_ ?_
  · rintro i env S x ⟨g, rest, x3, x4, x5, x6, x7, x8, x9, x10, x11, rfl, hg, hlow, rfl⟩ hx
    refine ⟨by rfl, ?_⟩
    ((repeat sizeOf_list_dec) <;> (try dsimp only))
    refine (any_spec g rest hlow hg).mono ?_
    rintro _ _ ⟨p, g2, rfl, hp, rfl, hg2⟩
    ((repeat sizeOf_list_dec) <;> (try dsimp only))
    refine (written_spec _ (hlow.st g2) p hp).mono ?_
    rintro _ _ ⟨rfl, rfl⟩
    ((repeat sizeOf_list_dec) <;> (try dsimp only))
    ((refine Post.mono (next_spec _ _ _ hg2 ?hn0 ?hn1) ?_); (case hn0 => omega); (case hn1 => omega))
    rintro _ _ ⟨r, g3, rfl, rfl, hg3, r0, r1⟩
    ((repeat sizeOf_list_dec) <;> (try dsimp only))
    refine for_go (all := upto 0 r.toNat) (fun j env S => ∃ (g : Hs) (t : Str) (y5 : Option PV), S = g.st rest ∧ g.Ok ∧ TOk (bnd j) t ∧ env = [some (.fz (ns.map .int)), some (.loc 1), some (.ls (fixedT.map .str)), some x, some (.str t), y5, x6, x7, x8, x9, x10, x11]) (by rfl) ⟨g3, p.text, x5, rfl, hg3, ⟨Prog.text_len hp, Prog.text_ok hp⟩, rfl⟩ ?_ ?_
    · rintro j env S y ⟨g, t, y5, rfl, hg, ht, rfl⟩ hy
      refine ⟨by rfl, ?_⟩
      have hj := (List.getElem?_eq_some_iff.mp hy).1
      rw [upto_length] at hj
      ((repeat sizeOf_list_dec) <;> (try dsimp only))
      refine (spoilt_spec g rest hg (bnd j) (bnd_le (by omega)) t ht).mono ?_
      rintro _ _ ⟨g', t', rfl, rfl, hg', ht'⟩
      ((repeat sizeOf_list_dec) <;> (try dsimp only))
      exact ⟨g', t', _, rfl, hg', ht', rfl⟩
    · rintro env S ⟨g4, t, y5, rfl, hg4, ht, rfl⟩
      refine ⟨by rfl, ?_⟩
      rw [upto_length] at ht
      have ht : TOk 90000 t := ⟨Nat.le_trans ht.len (bnd_le3 (by omega)), ht.ok⟩
      ((repeat sizeOf_list_dec) <;> (try dsimp only))
      ((refine Post.mono (next_spec _ _ _ hg4 ?hn0 ?hn1) ?_); (case hn0 => omega); (case hn1 => omega))
      rintro _ _ ⟨o, g5, rfl, rfl, hg5, o0, o1⟩
      obtain ⟨o, rfl⟩ : ∃ k : Nat, o = k := ⟨o.toNat, by omega⟩
      have ho : o < fixedT.length := by show o < 11; omega
      refine (w_ix (xs := fixedT.map .str) rfl (strs_at ho)).mpr ?_
      have hfx := fixed_ok _ (List.getElem_mem ho)
      generalize fixedT[o] = t2 at hfx ⊢
      have ht2 : TOk 90000 t2 := ⟨hfx.1, hfx.2⟩
      ((repeat sizeOf_list_dec) <;> (try dsimp only))
      refine for_go (all := [.str t, .str t2]) (fun j env S => ∃ (g : Hs) (rest : Store) (x6 x7 x8 x9 x10 x11 : Option PV), S = g.st rest ∧ g.Ok ∧ LowR rest ∧ env = [some (.fz (ns.map .int)), some (.loc 1), some (.ls (fixedT.map .str)), some x, some (.str t), y5, x6, x7, x8, x9, x10, x11]) (by rfl) ⟨g5, rest, _, _, _, _, _, _, rfl, hg5, hlow, rfl⟩ ?_ ?_
      · rintro j env S y ⟨g, rest, x6, x7, x8, x9, x10, x11, rfl, hg, hlow, rfl⟩ hy
        refine ⟨by rfl, ?_⟩
        have hy : ∃ tt : Str, y = .str tt ∧ TOk 90000 tt := by
          have := List.mem_of_getElem? hy
          simp only [List.mem_cons, List.not_mem_nil, or_false] at this
          rcases this with rfl | rfl
          · exact ⟨_, rfl, ht⟩
          · exact ⟨_, rfl, ht2⟩
        obtain ⟨tt, rfl, htt⟩ := hy
        clear ht ht2 hfx
        have hl := htt.len
        have hLn := lines_len htt
        have hWl := words_len' tt
        have hLn2 : ((linesOf tt).map PV.str).length ≤ 90001 := by rw [List.length_map]; exact hLn
        ((repeat sizeOf_list_dec) <;> (try dsimp only))
        refine w_splitS.mpr ?_
        ((repeat sizeOf_list_dec) <;> (try dsimp only))
        refine ⟨tt, rfl, ?_⟩
        ((repeat sizeOf_list_dec) <;> (try dsimp only))
        refine ⟨_, rfl, by decide +kernel, by rw [sizeLine_eq]; omega, ?_⟩
        rw [show Txt.split tt "\n" = linesOf tt from rfl]
        ((repeat sizeOf_list_dec) <;> (try dsimp only))
        rw [Int.toNat_natCast, List.length_map]
        have wordy : ∀ k (hk : k < (linesOf tt).length), ∃ w r, Txt.split (linesOf tt)[k] " " = w :: r ∧ (wordsOf tt).getD k [] = w :: r ∧ (∀ x ∈ w :: r, WOk x) ∧ (linesOf tt)[k].length ≤ 90000 ∧ (w :: r).length ≤ 100000 := fun k hk => by
          have hlo := line_tok htt (List.getElem_mem hk)
          have hne := pieces_ne (linesOf tt)[k] " "
          have hwo : ∀ w ∈ Txt.split (linesOf tt)[k] " ", WOk w := fun w hw => word_wok hlo hw
          have hwn := words_of_len hlo
          rw [wordsAt hk]
          cases e : Txt.split (linesOf tt)[k] " " with
          | nil => exact absurd e hne
          | cons w r =>
            rw [e] at hwo hwn
            exact ⟨w, r, rfl, rfl, hwo, hlo.len, by omega⟩
        refine lc_fltL (enc := fun i : Nat => PV.int (i : Int)) (zs := List.range (linesOf tt).length) (isHead (wordsOf tt)) (by show some (upto 0 _) = _; rw [upto_rngT]) (by rw [List.length_range]; omega) (Nat.le_of_ble_eq_true rfl) (fun k hk => ?_) ?_
        · have hk := List.mem_range.mp hk
          obtain ⟨w, r, e1, e2, hwo, hll, _⟩ := wordy k hk
          ((repeat sizeOf_list_dec) <;> (try dsimp only))
          refine w_splitS.mpr ?_
          ((repeat sizeOf_list_dec) <;> (try dsimp only))
          refine (w_ix (xs := (linesOf tt).map .str) rfl (strs_at hk)).mpr ?_
          refine ⟨_, rfl, ?_⟩
          ((repeat sizeOf_list_dec) <;> (try dsimp only))
          refine ⟨_, rfl, by decide +kernel, by rw [sizeLine_eq]; omega, ?_⟩
          rw [e1]
          ((repeat sizeOf_list_dec) <;> (try dsimp only))
          refine (w_eqS (hwo w (by simp)).ok (by decide +kernel)).mpr ?_
          refine ⟨?_, by trivial⟩
          unfold isHead
          rw [e2, List.head?_cons]
          by_cases e : w = ("routine" : Str)
          · rw [decide_eq_true e, decide_eq_true (by rw [e])]
          · rw [decide_eq_false e, decide_eq_false fun z => e (Option.some.inj z)]
        · ((repeat sizeOf_list_dec) <;> (try dsimp only))
          refine (w_addLL (by rw [List.length_map]; have := List.length_filter_le (isHead (wordsOf tt)) (List.range (linesOf tt).length); rw [List.length_range] at this; show _ + 1 ≤ 1000000; omega)).mpr ?_
          ((repeat sizeOf_list_dec) <;> (try dsimp only))
          rw [Int.toNat_natCast, List.length_map]
          refine lc_fltL (enc := fun i : Nat => PV.int (i : Int)) (zs := List.range (linesOf tt).length) (badAt (wordsOf tt)) (by show some (upto 0 _) = _; rw [upto_rngT]) (by rw [List.length_range]; omega) (Nat.le_of_ble_eq_true rfl) (fun k hk => ?_) ?_
          · have hk := List.mem_range.mp hk
            obtain ⟨w, r, e1, e2, hwo, hll, hwn⟩ := wordy k hk
            ((repeat sizeOf_list_dec) <;> (try dsimp only))
            refine w_splitS.mpr ?_
            ((repeat sizeOf_list_dec) <;> (try dsimp only))
            refine (w_ix (xs := (linesOf tt).map .str) rfl (strs_at hk)).mpr ?_
            refine ⟨_, rfl, ?_⟩
            ((repeat sizeOf_list_dec) <;> (try dsimp only))
            refine ⟨_, rfl, by decide +kernel, by rw [sizeLine_eq]; omega, ?_⟩
            rw [e1]
            ((repeat sizeOf_list_dec) <;> (try dsimp only))
            refine (w_ix0 (y := .int (headAt (wordsOf tt) : Int)) rfl ?_).mpr ?_
            · have h := heads_at (isHead (wordsOf tt)) (linesOf tt).length
              unfold headAt
              rw [hWl]
              exact h
            · ((repeat sizeOf_list_dec) <;> (try dsimp only))
              refine (line_spec _ (hlow.st g) (w :: r) _ hwo (List.cons_ne_nil _ _) hwn).mono ?_
              rintro _ _ ⟨rfl, rfl⟩
              ((repeat sizeOf_list_dec) <;> (try dsimp only))
              refine ⟨?_, by trivial⟩
              unfold badAt
              rw [e2]
              congr 2
              by_cases e : headAt (wordsOf tt) < k
              · rw [decide_eq_true e, decide_eq_true (by omega)]
              · rw [decide_eq_false e, decide_eq_false (by omega)]
          · ((repeat sizeOf_list_dec) <;> (try dsimp only))
            rw [← hWl]
            refine (w_neE' (plain_ivs ((List.range (wordsOf tt).length).filter (badAt (wordsOf tt))) _)).mpr ?_
            cases hfb : firstBad (wordsOf tt) with
            | some k =>
              obtain ⟨bs, hbs⟩ := bads_some hfb
              rw [hbs, show (!(ivs (k :: bs)).isEmpty) = true from rfl]
              ((repeat sizeOf_list_dec) <;> (try dsimp only))
              refine w_kindF (PostC.mono (c_call (E := fun e S' => e = badText k ∧ ∃ B, S' = g.st rest ++ B ∧ LowS S') (Q := fun _ _ => False) ?_) (fun _ _ h => h.elim) ?_)
              · ((repeat sizeOf_list_dec) <;> (try dsimp only))
                refine PostC.mono (read_any _ (hlow.st g) tt htt) ?_ ?_
                · rintro _ _ ⟨h, _⟩
                  rw [hfb] at h
                  cases h
                · rintro e S' ⟨h, h2⟩
                  rw [hfb] at h
                  exact ⟨h, h2⟩
              · rintro e S' ⟨rfl, B, hB, hl2⟩
                obtain ⟨rest2, rfl, hlow2⟩ := st_more hB hl2
                refine .inr ⟨k, rfl, ?_⟩
                ((repeat sizeOf_list_dec) <;> (try dsimp only))
                refine (w_neRes (z := kT k) plain_kT.1 plain_kT.1 (plain_kT (S := []).2)).mpr ?_
                ((repeat sizeOf_list_dec) <;> (try dsimp only))
                refine w_eqKT.mpr ?_
                ((repeat sizeOf_list_dec) <;> (try dsimp only))
                exact ⟨g, rest2, _, _, _, _, _, _, rfl, hg, hlow2, rfl⟩
            | none =>
              rw [bads_none hfb, show (!(ivs []).isEmpty) = false from rfl]
              ((repeat sizeOf_list_dec) <;> (try dsimp only))
              cases hck : chk (progOf (wordsOf tt)) with
              | some e =>
                obtain ⟨w, n, k, rfl, hwk⟩ := chk_form hck
                refine w_kindF (PostC.mono (c_call (E := fun e S' => e = badProg w n k ∧ ∃ B, S' = g.st rest ++ B ∧ LowS S') (Q := fun _ _ => False) ?_) (fun _ _ h => h.elim) ?_)
                · ((repeat sizeOf_list_dec) <;> (try dsimp only))
                  refine (made_spec _ (hlow.st g) tt htt hfb).mono ?_
                  rintro _ _ ⟨rfl, rfl⟩
                  ((repeat sizeOf_list_dec) <;> (try dsimp only))
                  refine PostC.mono (written_any _ (hlow.st g) _ (prog_hlen htt)) ?_ ?_
                  · rintro _ _ ⟨h, _⟩
                    rw [hck] at h
                    cases h
                  · rintro e S' ⟨h, B, rfl, hB⟩
                    rw [hck] at h
                    exact ⟨(Option.some.inj h).symm, B, rfl, low_app (hlow.st g) hB⟩
                · rintro e S' ⟨rfl, B, hB, hl2⟩
                  obtain ⟨rest2, rfl, hlow2⟩ := st_more hB hl2
                  refine .inl ⟨w, n, k, rfl, ?_⟩
                  ((repeat sizeOf_list_dec) <;> (try dsimp only))
                  refine w_kindF (PostC.mono (c_call (E := fun e S' => e = badProg w n k ∧ ∃ B, S' = g.st rest2 ++ B ∧ LowS S') (Q := fun _ _ => False) ?_) (fun _ _ h => h.elim) ?_)
                  · ((repeat sizeOf_list_dec) <;> (try dsimp only))
                    refine PostC.mono (read_any _ (hlow2.st g) tt htt) ?_ ?_
                    · rintro _ _ ⟨_, h, _⟩
                      rw [hck] at h
                      cases h
                    · rintro e S' ⟨h, h2⟩
                      rw [hfb] at h
                      rw [hck] at h
                      exact ⟨(Option.some.inj h).symm, h2⟩
                  · rintro e S' ⟨rfl, B, hB, hl2⟩
                    obtain ⟨rest3, rfl, hlow3⟩ := st_more hB hl2
                    refine .inl ⟨w, n, k, rfl, ?_⟩
                    ((repeat sizeOf_list_dec) <;> (try dsimp only))
                    refine (w_neRes (z := kP w n k) (plain_kP hwk).1 (plain_kP hwk).1 (plain_kP (S := []) hwk).2).mpr ?_
                    ((repeat sizeOf_list_dec) <;> (try dsimp only))
                    refine (w_eqKP hwk).mpr ?_
                    ((repeat sizeOf_list_dec) <;> (try dsimp only))
                    exact ⟨g, rest3, _, _, _, _, _, _, rfl, hg, hlow3, rfl⟩
              | none =>
                obtain ⟨hpo, hpe⟩ := chk_ok hck
                refine w_kindF (PostC.post ?_)
                ((repeat sizeOf_list_dec) <;> (try dsimp only))
                refine (made_spec _ (hlow.st g) tt htt hfb).mono ?_
                rintro _ _ ⟨rfl, rfl⟩
                rw [← hpe]
                ((repeat sizeOf_list_dec) <;> (try dsimp only))
                refine (written_spec _ (hlow.st g) _ hpo).mono ?_
                rintro _ _ ⟨_, rfl⟩
                ((repeat sizeOf_list_dec) <;> (try dsimp only))
                refine w_kindF (PostC.post ?_)
                ((repeat sizeOf_list_dec) <;> (try dsimp only))
                refine (read_good _ (hlow.st g) tt htt hfb hck).mono ?_
                rintro _ _ ⟨rfl, rfl⟩
                ((repeat sizeOf_list_dec) <;> (try dsimp only))
                rw [show (!decide True) = false from rfl]
                ((repeat sizeOf_list_dec) <;> (try dsimp only))
                rw [show decide True = true from rfl]
                ((repeat sizeOf_list_dec) <;> (try dsimp only))
                refine (read_good _ (hlow.st g) tt htt hfb hck).mono ?_
                rintro _ _ ⟨rfl, rfl⟩
                ((repeat sizeOf_list_dec) <;> (try dsimp only))
                refine (made_spec _ (hlow.st g) tt htt hfb).mono ?_
                rintro _ _ ⟨rfl, rfl⟩
                ((repeat sizeOf_list_dec) <;> (try dsimp only))
                rw [← hpe]
                refine (alike_spec _ 6 _ _ (alk_data _ _ (data_prog hpo))).mono ?_
                rintro _ _ ⟨rfl, rfl⟩
                ((repeat sizeOf_list_dec) <;> (try dsimp only))
                exact ⟨g, rest, _, _, _, _, _, _, rfl, hg, hlow, rfl⟩
      · rintro env S ⟨g, rest, x6, x7, x8, x9, x10, x11, rfl, hg, hlow, rfl⟩
        refine ⟨by rfl, ?_⟩
        exact ⟨g, rest, _, _, _, _, _, _, _, _, _, rfl, hg, hlow, rfl⟩
  · rintro env S ⟨g, rest, x3, x4, x5, x6, x7, x8, x9, x10, x11, rfl, hg, hlow, rfl⟩
    refine ⟨by rfl, ?_⟩
    ((repeat sizeOf_list_dec) <;> (try dsimp only))
theorem m_law_ok {K : PySem.W.Frag} : ∀ ns : List Int, ns.length ≤ 63 → (∀ z ∈ ns, PySem.Builtin.Int.intBits z ≤ 1048576) → ∃ S, m_law [.fz (ns.map .int)] [] = .ok (.bl true) S := fun ns hn _ => by
  obtain ⟨a, S, e, h⟩ := (law_post ns hn).out
  exact ⟨S, by rw [e, h]⟩
end

/-! Gk20_e -/
section
open PySem PySem.Spec PyProof.Rows L2
theorem all_law {P : Program} {w : World} {K : PySem.W.Frag} {mg : Str → Option Value} {base : Heap} [pgI : PgOk P "/claim/cut.py"] (T : Top w K mg) (tb : LamX.TabB base mg (He.cT K ("law", none)).1 (He.cT K ("law", none)).2) : Cl P w K mg base (xcK K) "law" ["_law_script"] 9 (m_law) := by
  have c_is_tuple_of := ok_is_tuple_of (P := P) (w := w) (base := base) T 
  have c_is_below := ok_is_below (P := P) (w := w) (base := base) T 
  have c_are_rising_boxes := ok_are_rising_boxes (P := P) (w := w) (base := base) T c_is_below
  have c_is_house := ok_is_house (P := P) (w := w) (base := base) T c_are_rising_boxes c_is_below c_is_tuple_of
  have c_check_houses := ok_check_houses (P := P) (w := w) (base := base) T c_is_house c_is_tuple_of
  have c_is_row := ok_is_row (P := P) (w := w) (base := base) T c_is_below
  have c_check_rows := ok_check_rows (P := P) (w := w) (base := base) T c_is_row
  have c_check_routines := ok_check_routines (P := P) (w := w) (base := base) T c_check_rows c_is_below c_is_tuple_of
  have c_check_program := ok_check_program (P := P) (w := w) (base := base) T c_check_routines c_check_houses c_is_tuple_of
  have c_boxes_word := ok_boxes_word (P := P) (w := w) (base := base) T 
  have c_house_line := ok_house_line (P := P) (w := w) (base := base) T c_boxes_word
  have c_routine_lines := ok_routine_lines (P := P) (w := w) (base := base) T 
  have c_written := ok_written (P := P) (w := w) (base := base) T c_routine_lines c_house_line c_check_program
  have c_are_figures := ok_are_figures (P := P) (w := w) (base := base) T 
  have c_is_number_word := ok_is_number_word (P := P) (w := w) (base := base) T c_are_figures
  have c_is_boxes_word := ok_is_boxes_word (P := P) (w := w) (base := base) T c_are_figures
  have c_is_house_line := ok_is_house_line (P := P) (w := w) (base := base) T c_is_boxes_word c_is_number_word
  have c_is_routine_line := ok_is_routine_line (P := P) (w := w) (base := base) T c_is_number_word
  have c_is_row_line := ok_is_row_line (P := P) (w := w) (base := base) T c_is_number_word
  have c_boxes_read := ok_boxes_read (P := P) (w := w) (base := base) T 
  have c_house_read := ok_house_read (P := P) (w := w) (base := base) T c_boxes_read
  have c_row_read := ok_row_read (P := P) (w := w) (base := base) T 
  have c_read := ok_read (P := P) (w := w) (base := base) T c_check_program c_is_house_line c_house_read c_is_routine_line c_is_row_line c_row_read
  have c_mix := ok_mix (P := P) (w := w) (base := base) T 
  have c_next := ok_next (P := P) (w := w) (base := base) T 
  have c_alike := ok_alike (P := P) (w := w) (base := base) T 
  have c_house := ok_house (P := P) (w := w) (base := base) T c_next
  have c_number := ok_number (P := P) (w := w) (base := base) T c_next
  have c_simple := ok_simple (P := P) (w := w) (base := base) T c_number c_next
  have c_calling := ok_calling (P := P) (w := w) (base := base) T c_next c_number
  have c_zeroed := ok_zeroed (P := P) (w := w) (base := base) T c_next c_simple
  have c_kept := ok_kept (P := P) (w := w) (base := base) T c_number c_next c_calling c_zeroed c_simple
  have c_program := ok_program (P := P) (w := w) (base := base) T c_kept c_next c_house
  have c_wild_row := ok_wild_row (P := P) (w := w) (base := base) T c_next c_number
  have c_odd := ok_odd (P := P) (w := w) (base := base) T c_next c_wild_row
  have c_wild := ok_wild (P := P) (w := w) (base := base) T c_next c_wild_row c_house
  have c_any := ok_any (P := P) (w := w) (base := base) T c_odd c_next c_program c_wild
  have c_forms := ok_forms (P := P) (w := w) (base := base) T 
  have c_figures := ok_figures (P := P) (w := w) (base := base) T 
  have c_boxes := ok_boxes (P := P) (w := w) (base := base) T 
  have c_line := ok_line (P := P) (w := w) (base := base) T c_figures c_forms c_boxes
  have c_made := ok_made (P := P) (w := w) (base := base) T 
  have c_spoilt := ok_spoilt (P := P) (w := w) (base := base) T c_next
  have c_law := ok_law (P := P) (w := w) (base := base) T c_next c_alike c_read c_made c_written c_line c_spoilt c_any c_mix tb
  exact c_law
end
end LW
open PySem PySem.W PySem.Calls PyProof.Rows
theorem LW.pg_ok : LW.PgOk PySem.Challenge.pw_callpact_k20_texts_refused "/claim/cut.py" := ⟨by kernel_rfl, by kernel_rfl⟩
set_option maxHeartbeats 0 in
set_option maxRecDepth 100000 in
theorem PySem.Challenge.cw_callpact_k20_texts_refused_holds : PySem.Challenge.rw_callpact_k20_texts_refused.Holds := by
  w_on; o_law
  refine HandSHeadRun.head_any (r := LW.Rw) (q := view LW.Rw.prog [68]) (H := LW.hk) (ob := LW.ob) (M := 6000) (loose := LW.loose) (d := HandSHeadRun.topDef LW.Rw.prog 68) (kwd := []) LW.ob_eq
    (by kernel_rfl) (fun s => by kernel_rfl) LW.run (by kernel_rfl) (by kernel_rfl) (by kernel_rfl) (by rfl) (by first | assumption | decide +kernel) (by decide +kernel) ⟨rfl, rfl, rfl, rfl, rfl, by decide +kernel⟩ ?hw ?hc
  case hw => w_witness2
  case hc =>
    refine LamX.walk_ofTsE (l := PySem.Challenge.rw_callpact_k20_texts_refused) (n := 63) (k := 9) (x := "_law_script") (CX := fun w => L2.CX PySem.Challenge.pw_callpact_k20_texts_refused w) rfl (by decide) (by kernel_rfl) ⟨rfl, by decide, by decide⟩ ?F (fun w H s e s2 z => ?_)
    · intro w mg fa h Y G hmg0
      obtain ⟨K, KX, c⟩ := Y
      have T : LW.Top w K mg := ⟨⟨h, KX, G, c⟩⟩
      have hmg : mg ("law" : PySem.Str) = some (.ref fa) := by
        have e : (HandSHeadRun.topDef LW.Rw.prog 68).name = ("law" : PySem.Str) := by kernel_rfl
        rw [← e]
        exact hmg0
      haveI : LW.PgOk PySem.Challenge.pw_callpact_k20_texts_refused "/claim/cut.py" := LW.pg_ok
      exact ⟨K, KX, LW.law_end (T.c.def_ 43 (d := LW.d_law) rfl) hmg (LW.t_glo_law T) (fun p hp => ⟨c.empty p hp, c.out p hp, PySem.W.codeHd_of_K KX (c.hd p hp)⟩) (fun base tb => LW.all_law (P := PySem.Challenge.pw_callpact_k20_texts_refused) (base := base) T (tb _ (.head _))) (LW.m_law_ok (K := K))⟩
    · obtain ⟨a, B, H2, cls, d, _, _, _, _, _, _, _, z⟩ := z
      exact z
